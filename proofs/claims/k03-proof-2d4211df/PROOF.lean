import PyProof.Rows.All
import Wide.All
import OpenK.AllK
import Wide.FinOn
import HandS.ForMost
import HandS.Exc
import HandS.ExcOwn
import HandS.ExcValue
import HandS.IsInst
import PyProof.ReprReads
import PyProof.ReprRoads
import PyProof.ExcRepr
import KE.KExcStr
import HandS.ExcIs
import HandS.Evl
import HandS.TryMany
import HandS.WordsExc
import HandS.Small
import HandS.TupAny
import HandS.Walk
import HandS.Deep
import HandS.Wide
import HandS.Steps
import PyProof.EqAt
import PyProof.EqKinds
import HandS.TupLe
import HandS.Dict
import PyProof.Rows.SortKeyStr
import KE.KSortTup
import KE.KDictList
import KE.KDictSum
import HandS.DictTup
import HandS.Iter
import HandS.SortOrd
import HandS.Base
import HandS.Comp
import HandS.DictComp
import PyProof.DictMoreH
import HandS.CallLocal
import HandS.More
import HandS.Zip
import HandS.SortRule
import HandS.NoneIn
import PySem.Challenge.RW_homeshold_k03_whole_leases_over_time
set_option Elab.async false
set_option linter.all false
set_option maxRecDepth 100000
namespace PySem
open Sem (wp)
open Builtin Builtin.Str Builtin.BaseException Builtin.Exceptions
open PySem.W (Looks Frag findIn subIn looks_findIn looks_subIn)
section
variable {prog : Program} {w : World} {K : Frag} {C e t0 : Addr} {h₀ : Heap}
/-- an exception of the class C without arguments -/
def HxExc (C e t0 : Addr) (h : Heap) : Prop := (∃ o vs, h.get? e = some o ∧ o.cls = .ref C ∧ o.data = .fields vs ∧ vs[0]? = some (.ref t0) ∧ o.dict = none) ∧ ∃ o n, h.get? t0 = some o ∧ o.cls = .type "tuple" ∧ o.data = .seq #[] n
theorem HxExc.mono {h h' : Heap} (x : HxExc C e t0 h) (k : ∀ b o, h.get? b = some o → h'.get? b = some o) : HxExc C e t0 h' := by
  obtain ⟨⟨o, vs, h1, h2⟩, o', n, h3, h4⟩ := x
  exact ⟨⟨o, vs, k _ _ h1, h2⟩, o', n, k _ _ h3, h4⟩
/-- the class's name -/
def HxName (K : Frag) (C : Addr) (nm : Str) : Prop := ∃ o cd, K.lookup C = some o ∧ o.data = .cls cd ∧ Str.ofString ((cd.name.toString.cutAt '.').getLastD "") = nm
theorem hx_typeName {M : Model} {A : Around} {E : Value → Shared → Prop} {s : Shared} {nm : Str} {Q : String → Shared → Prop} (X : K.In s.heap) (x : HxExc C e t0 s.heap) (n : HxName K C nm) (hq : ∀ z : String, Str.ofString ((z.cutAt '.').getLastD "") = nm → Q z s) : wpAny M A (typeNameOfWhole (.ref e)) Q E s := by
  obtain ⟨⟨o, vs, h1, h2, _⟩, _⟩ := x
  obtain ⟨oc, cd, hc, hd, hn⟩ := n
  have ty : ∀ {Q : Value → Shared → Prop}, Q (.ref C) s → wpAny M A (typeOf (.ref e)) Q E s := fun q => wpAny_typeOf_ref h1 (by rw [h2]; exact q)
  unfold typeNameOfWhole shownTypeOf
  refine wpAny_bind (wpAny_bind (ty ?_))
  have e1 : ((Value.ref C == Value.type "builtin_function_or_method") = true) = False := by simp
  rw [if_neg (by rw [e1]; exact id)]
  refine wpAny_pure ?_
  unfold typeNameWhole classData
  refine wpAny_bind (wpAny_bind (wpAny_load (X C oc hc) ?_))
  rw [hd]
  exact wpAny_pure (wpAny_pure (hq _ hn))
/-- where the class's repr is the base's -/
structure HxRepr (K : Frag) (C : Addr) (nm : Str) : Prop where
  name : HxName K C nm
  find : findIn K (.ref C) "__repr__" = some (some (.builtin "BaseException.__repr__"))
  sub : subIn K (.ref C) (.type "BaseException") = some true
theorem hx_looks {M : Model} {h : Heap} (x : HxExc C e t0 h) : Looks M h (typeOf (.ref e)) (.ref C) := fun A Q E s k q => by
  obtain ⟨⟨o, vs, ho, hc, _⟩, _⟩ := x
  exact wpAny_typeOf_ref (k _ _ ho) (by rw [hc]; exact q)
theorem hx_tuple (x : HxExc C e t0 h₀) : ReprK prog w [t0] h₀ 1 (.ref t0) "()" := by
  obtain ⟨_, o, n, h1, h2, h3⟩ := x
  exact ReprK.tuple (ts := []) (as := []) (d := 0) h1 h2 h3 (by simp) .nil
theorem bexcArgs_T {M : Model} {A : Around} {E : Value → Shared → Prop} {s : Shared} {items : List Value} {Q : Value × List Value → Shared → Prop} (x : ∃ o vs, s.heap.get? e = some o ∧ o.data = .fields vs ∧ vs[0]? = some (.ref t0)) (ht : s.heap.TupAt t0 items) (hq : Q (.ref t0, items) s) :
    wpAny M A (bexcArgs (.ref e)) Q E s := by
  obtain ⟨o, vs, ho, hd, h0⟩ := x
  obtain ⟨ot, k, hto, _, htd⟩ := ht
  unfold bexcArgs
  refine wpAny_bind (wpAny_field ho hd h0 (wpAny_bind (wpAny_seqItems hto htd ?_)))
  have : items.toArray.toList = items := by simp
  show wpAny M A (pure (Value.ref t0, items.toArray.toList)) Q E s
  rw [this]; exact wpAny_pure hq
/-- the body of the base's repr -/
theorem hx_body {A : Around} {g : List Code} {E : Value → Shared → Prop} {s : Shared} {nm : Str} {base : Nat} {Q : Fin → Shared → Prop} (X : K.In h₀) (x : HxExc C e t0 h₀) (R : HxRepr K C nm) (hb : base + (nm ++ "()").length ≤ sizeLine)
    (hg : A.guards = some g) (hcl : Clear g t0) (hu : A.units + 1 < cLine) (hk : ∀ b o, h₀.get? b = some o → s.heap.get? b = some o)
    (hQ : ∀ h' u tk, (∀ b o, s.heap.get? b = some o → h'.get? b = some o) → Q (.done (.ret (.str (nm ++ "()") u))) { s with heap := h', toks := tk }) :
    wpAny (model prog w) A (Builtin.bexcReprAt base ⟨[.ref e], []⟩) Q E s := by
  have xs : HxExc C e t0 s.heap := x.mono hk
  obtain ⟨⟨o, vs, h1, h2, h3, h4, _⟩, ot, n, g1, g2, g3⟩ := id xs
  have e2 : (nm ++ "()").length = nm.length + 2 := by
    rw [strLen_append]
    rfl
  unfold Builtin.bexcReprAt
  repeat (first | with_reducible refine hx_typeName (fun a o q => hk _ _ (X a o q)) xs R.name (fun z hz => ?_) | wp_step)
  rw [h2]
  obtain ⟨oc, cd, hc, hd, hn⟩ := R.name
  show wpAny _ _ (do let c ← classData C; pure c.name.toString) _ _ _
  unfold classData
  refine wpAny_bind (wpAny_bind (wpAny_load (hk _ _ (X C oc hc)) ?_))
  rw [hd]
  refine wpAny_pure (wpAny_pure ?_)
  dsimp only
  rw [hn]
  refine wpAny_bind (bexcArgs_T (items := []) ⟨o, vs, h1, h3, h4⟩ ⟨ot, n, g1, g2, g3⟩ ?_)
  dsimp only
  refine wpAny_bind (hx_tuple x (base + nm.length) (by have : ("()" : Str).length = 2 := rfl; omega) A g E s _ hg (fun b hb => by rw [List.mem_singleton.mp hb]; exact hcl) (by omega) hk fun h' tk hk' => ?_)
  refine wpAny_bind (wpAny_mkStr (x := nm ++ ("()" : Str)) (wpAny_pure ?_) (by omega))
  exact hQ h' _ _ hk'
theorem hx_by {A : Around} {E : Value → Shared → Prop} {s : Shared} {last : Value → List Value → Sem Value} {Q : Option Value → Shared → Prop}
    (sp : ∀ {A : Around} {E : Value → Shared → Prop} {Q : Option Value → Shared → Prop}, Q (some (.builtin "BaseException.__repr__")) s → wpAny (model prog w) A (specialOf (.ref e) (Str.ofString "__repr__")) Q E s)
    (hc : wpAny (model prog w) A (last (.builtin "BaseException.__repr__") [.ref e]) (fun v => Q (some v)) E s) : wpAny (model prog w) A (callSpecialIfBoundBy? last (.ref e) (Str.ofString "__repr__")) Q E s := by
  simp only [callSpecialIfBoundBy?, bindSpecialIfBound?]
  refine wpAny_holding (wpAny_bind (wpAny_bind (sp ?_)))
  simp only [F.excStr_Exception.repr.bind]
  refine wpAny_bind (wpAny_askSetting (wpAny_ite ?_))
  have fin : wpAny (model prog w) A (last (.builtin "BaseException.__repr__") [.ref e] >>= fun v => pure (some v)) Q E s :=
    wpAny_bind (wpAny_mono hc (fun v s' h' => wpAny_pure h') fun _ _ h' => h')
  split
  · exact wpAny_bind (wpAny_pure (wpAny_pure fin))
  · exact wpAny_tryCatch (wpAny_bind (wpAny_pure (wpAny_pure fin)))
theorem hx_bound {A : Around} {E : Value → Shared → Prop} {s : Shared} {Q : Option Value → Shared → Prop}
    (sp : ∀ {A : Around} {E : Value → Shared → Prop} {Q : Option Value → Shared → Prop}, Q (some (.builtin "BaseException.__repr__")) s → wpAny (model prog w) A (specialOf (.ref e) (Str.ofString "__repr__")) Q E s)
    (hc : wpAny (model prog w) A (call (.builtin "BaseException.__repr__") [.ref e]) (fun v => Q (some v)) E s) : wpAny (model prog w) A (callSpecialIfBound? (.ref e) (Str.ofString "__repr__")) Q E s := by
  simp only [callSpecialIfBound?, bindSpecialIfBound?]
  refine wpAny_holding (wpAny_bind (wpAny_bind (sp ?_)))
  simp only [F.excStr_Exception.repr.bind]
  refine wpAny_bind (wpAny_askSetting (wpAny_ite ?_))
  have fin : wpAny (model prog w) A (call (.builtin "BaseException.__repr__") ([.ref e] ++ []) >>= fun v => pure (some v)) Q E s :=
    wpAny_bind (wpAny_mono hc (fun v s' h' => wpAny_pure h') fun _ _ h' => h')
  split
  · exact wpAny_bind (wpAny_pure (wpAny_pure fin))
  · exact wpAny_tryCatch (wpAny_bind (wpAny_pure (wpAny_pure fin)))
/-- repr of such an exception, within another repr -/
theorem hx_repr {nm : Str} (X : K.In h₀) (x : HxExc C e t0 h₀) (R : HxRepr K C nm) (hne : ∀ b ∈ ([] : List Addr), b ≠ e) : ReprK prog w [e, t0] h₀ 3 (.ref e) (nm ++ "()") := by
  intro base hb A g E s Q hg hcl hu hk0 hQ
  have xs := x.mono hk0
  have hf : Looks (model prog w) s.heap (typeLookup (.ref C) (Str.ofString "__repr__")) (some (.builtin "BaseException.__repr__")) := looks_findIn (fun a o q => hk0 _ _ (X a o q)) R.find
  have hi : Looks (model prog w) s.heap (isInstance (.ref e) (.type "BaseException")) true := (hx_looks xs).andThen (looks_subIn (fun a o q => hk0 _ _ (X a o q)) R.sub)
  refine wpAny_pyReprUnder_ref (by omega) ?_
  unfold pyReprObjUnder pyReprObjBy
  refine wpAny_bind (wpAny_cRoomFor (by omega) ?_)
  have sp : ∀ {A : Around} {E : Value → Shared → Prop} {Q : Option Value → Shared → Prop}, Q (some (.builtin "BaseException.__repr__")) s → wpAny (model prog w) A (specialOf (.ref e) (Str.ofString "__repr__")) Q E s := fun q => by
    unfold specialOf
    exact wpAny_bind ((hx_looks xs).here (hf.here q))
  refine wpAny_bind (sp ?_)
  refine wpAny_bind (hx_by sp ?_)
  show wpAny (model prog w) A (call (.builtin "BaseException.__repr__.under") [.ref e, rawInt base]) _ _ _
  refine wpAny_call (codeAny_call_builtin F.plain_bexc_repr_under F.entry_bexc_repr_under ?_)
  rw [F.check_bexc_repr_under]
  refine wpAny_pure ?_
  unfold Builtin.«BaseException.__repr__.under»
  rw [reprTwin_eq]
  refine wpAny_bind (@PySem.W.check_slot (model prog w) _ _ s "BaseException.__repr__" "BaseException" "__repr__" (.ref e) [] [] _ (by decide +kernel) (by decide +kernel) hi (F.args_bexc_repr _) ?_)
  refine hx_body X x R hb (g := g) hg (hcl t0 (by simp)) (by show A.units + 1 + 1 < cLine; omega) hk0 fun h' u tk hk => ?_
  exact wpAny_bind (wpAny_isInstance (T := "str") (b := true) rfl isSubtype_str_str (wpAny_pure ⟨_, _, rfl, hQ h' tk hk⟩))
/-- repr of such an exception by itself -/
theorem hx_reprTop {nm : Str} {A : Around} {E : Value → Shared → Prop} {s : Shared} {Q : Value → Shared → Prop} (X : K.In s.heap) (x : HxExc C e t0 s.heap) (R : HxRepr K C nm) (hb : (nm ++ "()").length ≤ sizeLine) (hg : A.guards = some []) (hu : A.units + 4 < cLine)
    (hQ : ∀ h' u tk, (∀ b o, s.heap.get? b = some o → h'.get? b = some o) → Q (.str (nm ++ "()") u) { s with heap := h', toks := tk }) : wpAny (model prog w) A (call (.builtin "repr") [.ref e]) Q E s := by
  have hf : Looks (model prog w) s.heap (typeLookup (.ref C) (Str.ofString "__repr__")) (some (.builtin "BaseException.__repr__")) := looks_findIn X R.find
  have hi : Looks (model prog w) s.heap (isInstance (.ref e) (.type "BaseException")) true := (hx_looks x).andThen (looks_subIn X R.sub)
  have sp : ∀ {A : Around} {E : Value → Shared → Prop} {Q : Option Value → Shared → Prop}, Q (some (.builtin "BaseException.__repr__")) s → wpAny (model prog w) A (specialOf (.ref e) (Str.ofString "__repr__")) Q E s := fun q => by
    unfold specialOf
    exact wpAny_bind ((hx_looks x).here (hf.here q))
  refine Calls.call_function_entry F.kind_repr F.plain_repr F.entry_repr (F.args_repr1 _) ?_
  unfold Builtin.«repr»
  refine wpAny_bind (m := oneArg "repr" _) (wpAny_pure ?_)
  refine wpAny_bind (m := cRoomFor _ _) (wpAny_cRoomFor (by show A.units + 1 < cLine; omega) ?_)
  refine wpAny_bind (sp ?_)
  refine wpAny_bind (m := callSpecialIfBound? (.ref e) (Str.ofString "__repr__")) (hx_bound sp ?_)
  refine wpAny_call (codeAny_call_builtin F.excStr_Exception.repr.plain F.entry_bexc_repr ?_)
  refine @PySem.W.check_slot (model prog w) _ _ s "BaseException.__repr__" "BaseException" "__repr__" (.ref e) [] [] _ (by decide +kernel) (by decide +kernel) hi (F.args_bexc_repr _) ?_
  refine hx_body (base := 0) X x R (by rw [Nat.zero_add]; exact hb) (g := []) hg (Clear.nil t0) (by show A.units + 1 + 1 + 1 < cLine; omega) (fun _ _ q => q) fun h' u tk hk => ?_
  exact wpAny_bind (wpAny_isInstance (T := "str") (b := true) rfl isSubtype_str_str (wpAny_pure ⟨_, rfl, hQ h' u tk hk⟩))
end
end PySem
/-! any value of the law's: what it is as data, where it stands, its repr -/
namespace Hu
open PySem PySem.Spec PyProof.Rows L2
/-- data: dct us is {'a': [us], 1: None}, exc an error of the one class -/
inductive U where
  | non | bl (b : Bool) | int (i : Int) | str (z : Str) | tup (us : List U) | lst (us : List U) | dct (us : List U) | exc
/-- an error of the class C as it stands at a, its arguments at t -/
def ExN (C t a : Addr) : HO := .ext fun h => ∃ o vs, h.get? a = some o ∧ o.cls = .ref C ∧ o.data = .fields vs ∧ vs[0]? = some (.ref t) ∧ o.dict = none
mutual
/-- the value v is the data u; all that it stands in is tracked, and isn't w -/
inductive At (w C : Addr) (H : Hp) : V → U → Prop
  | non : At w C H .non .non
  | bl (b : Bool) : At w C H (.bl b) (.bl b)
  | int (i : Int) : At w C H (.int i) (.int i)
  | str (z : Str) : At w C H (.str z) (.str z)
  | tup {a : Addr} {xs : List V} {us : List U} : H a = some (.tup xs) → a ≠ w → AtL w C H xs us → At w C H (.ref a) (.tup us)
  | lst {a : Addr} {xs : List V} {us : List U} : H a = some (.lst xs) → a ≠ w → AtL w C H xs us → At w C H (.ref a) (.lst us)
  | dct {a b : Addr} {xs : List V} {us : List U} : H a = some (.dK [(.inr "a", .ref b), (.inl 1, .non)]) → a ≠ w → H b = some (.lst xs) → b ≠ w → AtL w C H xs us → At w C H (.ref a) (.dct us)
  | exc {a t : Addr} : H a = some (ExN C t a) → a ≠ w → H t = some (.tup []) → t ≠ w → At w C H (.ref a) .exc
inductive AtL (w C : Addr) (H : Hp) : List V → List U → Prop
  | nil : AtL w C H [] []
  | cons {v : V} {u : U} {vs : List V} {us : List U} : At w C H v u → AtL w C H vs us → AtL w C H (v :: vs) (u :: us)
end
section
variable {w C : Addr} {H H' : Hp}
mutual
theorem At.keep (k : ∀ b o, b ≠ w → H b = some o → H' b = some o) : ∀ {u : U} {v : V}, At w C H v u → At w C H' v u
  | _, _, .non => .non
  | _, _, .bl b => .bl b
  | _, _, .int i => .int i
  | _, _, .str z => .str z
  | _, _, .tup h n l => .tup (k _ _ n h) n (AtL.keep k l)
  | _, _, .lst h n l => .lst (k _ _ n h) n (AtL.keep k l)
  | _, _, .dct h n h2 n2 l => .dct (k _ _ n h) n (k _ _ n2 h2) n2 (AtL.keep k l)
  | _, _, .exc h n h2 n2 => .exc (k _ _ n h) n (k _ _ n2 h2) n2
theorem AtL.keep (k : ∀ b o, b ≠ w → H b = some o → H' b = some o) : ∀ {us : List U} {vs : List V}, AtL w C H vs us → AtL w C H' vs us
  | _, _, .nil => .nil
  | _, _, .cons x l => .cons (x.keep k) (AtL.keep k l)
end
theorem key_ne : ([((.inr "a" : Key), V.ref 0)] : List (Key × V)) ≠ [] := fun e => by cases e
mutual
theorem At.one : ∀ {u u' : U} {v : V}, At w C H v u → At w C H v u' → u = u'
  | _, _, _, .non, y => by cases y; rfl
  | _, _, _, .bl b, y => by cases y; rfl
  | _, _, _, .int i, y => by cases y; rfl
  | _, _, _, .str z, y => by cases y; rfl
  | _, _, _, .tup h n l, y => by
    cases y with
    | tup h' _ l' => rw [h] at h'; cases h'; rw [AtL.one l l']
    | lst h' _ _ => rw [h] at h'; cases h'
    | dct h' _ _ _ _ => rw [h] at h'; cases h'
    | exc h' _ _ _ => rw [h] at h'; cases h'
  | _, _, _, .lst h n l, y => by
    cases y with
    | tup h' _ l' => rw [h] at h'; cases h'
    | lst h' _ l' => rw [h] at h'; cases h'; rw [AtL.one l l']
    | dct h' _ _ _ _ => rw [h] at h'; cases h'
    | exc h' _ _ _ => rw [h] at h'; cases h'
  | _, _, _, .dct h n h2 n2 l, y => by
    cases y with
    | tup h' _ l' => rw [h] at h'; cases h'
    | lst h' _ l' => rw [h] at h'; cases h'
    | dct h' _ h2' _ l' =>
      rw [h] at h'
      cases h'
      rw [h2] at h2'
      cases h2'
      rw [AtL.one l l']
    | exc h' _ _ _ => rw [h] at h'; cases h'
  | _, _, _, .exc h n _ _, y => by
    cases y with
    | tup h' _ l' => rw [h] at h'; cases h'
    | lst h' _ l' => rw [h] at h'; cases h'
    | dct h' _ _ _ _ => rw [h] at h'; cases h'
    | exc h' _ _ _ => rfl
theorem AtL.one : ∀ {us us' : List U} {vs : List V}, AtL w C H vs us → AtL w C H vs us' → us = us'
  | _, _, _, .nil, y => by cases y; rfl
  | _, _, _, .cons x l, y => by
    cases y with
    | cons x' l' => rw [At.one x x', AtL.one l l']
end
theorem AtL.length : ∀ {us : List U} {vs : List V}, AtL w C H vs us → vs.length = us.length
  | _, _, .nil => rfl
  | _, _, .cons x l => by rw [List.length_cons, List.length_cons, AtL.length l]
theorem AtL.get : ∀ {us : List U} {vs : List V} {i : Nat} {u : U}, AtL w C H vs us → us[i]? = some u → ∃ v, vs[i]? = some v ∧ At w C H v u
  | _, _, _, _, .nil, e => by simp at e
  | _, _, 0, _, .cons x l, e => by
    have := Option.some.inj e
    subst this
    exact ⟨_, rfl, x⟩
  | _, _, i + 1, _, .cons x l, e => AtL.get (i := i) l e
theorem AtL.append : ∀ {us us' : List U} {vs vs' : List V}, AtL w C H vs us → AtL w C H vs' us' → AtL w C H (vs ++ vs') (us ++ us')
  | _, _, _, _, .nil, y => y
  | _, _, _, _, .cons x l, y => .cons x (AtL.append l y)
theorem AtL.take : ∀ {us : List U} {vs : List V} (n : Nat), AtL w C H vs us → AtL w C H (vs.take n) (us.take n)
  | _, _, 0, _ => .nil
  | _, _, _ + 1, .nil => .nil
  | _, _, n + 1, .cons x l => .cons x (AtL.take n l)
theorem AtL.drop : ∀ {us : List U} {vs : List V} (n : Nat), AtL w C H vs us → AtL w C H (vs.drop n) (us.drop n)
  | _, _, 0, l => l
  | _, _, _ + 1, .nil => .nil
  | _, _, n + 1, .cons x l => AtL.drop n l
end
/-! ### its repr -/
mutual
def shown (nm : Str) : U → Str
  | .non => "None"
  | .bl b => if b then "True" else "False"
  | .int i => toString i
  | .str z => reprText z
  | .tup us => tupleText (shownL nm us)
  | .lst us => listText (shownL nm us)
  | .dct us => dictText [reprText "a" ++ ": " ++ listText (shownL nm us), (toString (1 : Int) : Str) ++ ": " ++ "None"]
  | .exc => nm ++ "()"
def shownL (nm : Str) : List U → List Str
  | [] => []
  | u :: us => shown nm u :: shownL nm us
end
mutual
def dep : U → Nat
  | .tup us | .lst us => depL us + 1
  | .dct us => depL us + 2
  | .exc => 3
  | _ => 0
def depL : List U → Nat
  | [] => 0
  | u :: us => max (dep u) (depL us)
end
mutual
/-- all its integers are small -/
def smallU : U → Prop
  | .int i => i.natAbs.log2 < 1920
  | .tup us | .lst us | .dct us => smallL us
  | _ => True
def smallL : List U → Prop
  | [] => True
  | u :: us => smallU u ∧ smallL us
end
end Hu
namespace Hu
open PySem PySem.Spec PyProof.Rows L2
section
variable {P : Program} {wd : World} {K : PySem.W.Frag} {w C : Addr} {H : Hp} {h₀ : Heap} {nm : Str}
/-- an empty tuple -/
def Emp (h : Heap) (b : Addr) : Prop := ∃ o m, h.get? b = some o ∧ o.cls = .type "tuple" ∧ o.data = .seq #[] m
def Inn (w C : Addr) (H : Hp) (h : Heap) (n : Nat) (bs : List Addr) : Prop := ∀ b ∈ bs, (∃ u, At w C H (.ref b) u ∧ dep u ≤ n) ∨ Emp h b
theorem Inn.mono {n m : Nat} {bs : List Addr} (x : Inn w C H h₀ n bs) (l : n ≤ m) : Inn w C H h₀ m bs := fun b hb => by
  rcases x b hb with ⟨u, a, d⟩ | e
  · exact .inl ⟨u, a, Nat.le_trans d l⟩
  · exact .inr e
theorem Inn.append {n : Nat} {bs cs : List Addr} (x : Inn w C H h₀ n bs) (y : Inn w C H h₀ n cs) : Inn w C H h₀ n (bs ++ cs) := fun b hb =>
  (List.mem_append.mp hb).elim (x b) (y b)
theorem Inn.not_mem {n : Nat} {bs : List Addr} {a : Addr} {u : U} (x : Inn w C H h₀ n bs) (y : At w C H (.ref a) u) (l : n < dep u) (e : ¬ Emp h₀ a) : a ∉ bs := fun hm => by
  rcases x a hm with ⟨u', y', l'⟩ | q
  · have := y.one y'
    subst this
    omega
  · exact e q
theorem Inn.cons {n : Nat} {bs : List Addr} {a : Addr} {u : U} (x : Inn w C H h₀ n bs) (y : At w C H (.ref a) u) (l : n ≤ dep u) : Inn w C H h₀ (dep u) (a :: bs) := fun b hb => by
  rcases List.mem_cons.mp hb with e | hb
  · subst e
    exact .inl ⟨u, y, Nat.le_refl _⟩
  · exact (x.mono l) b hb
theorem shownL_mem {us : List U} {t : Str} (h : t ∈ shownL nm us) : ∃ u ∈ us, t = shown nm u := by
  induction us with
  | nil => simp [shownL] at h
  | cons u us ih =>
    rw [shownL] at h
    rcases List.mem_cons.mp h with e | h
    · exact ⟨u, List.mem_cons_self, e⟩
    · obtain ⟨x, hx, e⟩ := ih h
      exact ⟨x, List.mem_cons_of_mem _ hx, e⟩
/-- the repr of a list of items within a list object at b -/
theorem list_reprs {b : Addr} {xs : List V} {its : List Value} {us : List U} {bs : List Addr} {n d : Nat} (hb : h₀.get? b = some { cls := .type "list", data := .seq its.toArray n }) (hna : b ∉ bs)
    (hk : ReprAllK P wd bs h₀ d its (shownL nm us)) : ReprK P wd (b :: bs) h₀ (d + 1) (.ref b) (listText (shownL nm us)) := by
  cases its with
  | nil =>
    cases us with
    | nil =>
      show ReprK P wd (b :: bs) h₀ (d + 1) (.ref b) (listText [])
      rw [listText_nil]
      exact ReprK.listEmpty hb rfl rfl
    | cons u us => rw [shownL] at hk; cases hk
  | cons x l => exact ReprK.list hb rfl rfl hna (by simpa using hk.length_eq) (fun i y e => hk.item i y (by simpa using e))
theorem rep_tup (ok : HOk P wd H h₀) {a : Addr} {xs : List V} {us : List U} (h : H a = some (.tup xs)) (n : a ≠ w) (l : AtL w C H xs us)
    (rec : ∀ its, Vals xs its → ∃ bs, Inn w C H h₀ (depL us) bs ∧ ReprAllK P wd bs h₀ (depL us) its (shownL nm us)) :
    ∃ bs, Inn w C H h₀ (dep (.tup us)) bs ∧ ReprK P wd bs h₀ (dep (.tup us)) (.ref a) (shown nm (.tup us)) := by
  obtain ⟨_, its, rv, o, h1, h2, m, h3⟩ := ok a _ h
  obtain ⟨bs, hb, hk⟩ := rec its rv
  have y : At w C H (.ref a) (.tup us) := .tup h n l
  have hd : depL us < dep (.tup us) := by simp only [dep]; omega
  by_cases e : its = []
  · subst e
    have hl := rv.length
    have hu := AtL.length l
    have ex : us = [] := List.length_eq_zero_iff.mp (by rw [← hu, hl]; rfl)
    subst ex
    refine ⟨[a], fun b hb => .inl ⟨_, by rw [List.mem_singleton.mp hb]; exact y, Nat.le_refl _⟩, ?_⟩
    simp only [shown, dep]
    exact ReprK.tuple (as := []) h1 h2 h3 (by simp) (by rw [shownL]; exact .nil)
  · have hna : a ∉ bs := hb.not_mem y hd fun ⟨o', m', q1, q2, q3⟩ => by
      rw [h1] at q1
      cases q1
      rw [h3] at q3
      injection q3 with q3 _
      exact e (by simpa using congrArg Array.toList q3)
    refine ⟨a :: bs, hb.cons y (Nat.le_of_lt hd), ?_⟩
    simp only [shown, dep]
    exact ReprK.tuple h1 h2 h3 hna (by simpa using hk)
theorem rep_lst (ok : HOk P wd H h₀) {a : Addr} {xs : List V} {us : List U} (h : H a = some (.lst xs)) (n : a ≠ w) (l : AtL w C H xs us)
    (rec : ∀ its, Vals xs its → ∃ bs, Inn w C H h₀ (depL us) bs ∧ ReprAllK P wd bs h₀ (depL us) its (shownL nm us)) :
    ∃ bs, Inn w C H h₀ (dep (.lst us)) bs ∧ ReprK P wd bs h₀ (dep (.lst us)) (.ref a) (shown nm (.lst us)) := by
  obtain ⟨_, its, m, rv, h1⟩ := ok a _ h
  obtain ⟨bs, hb, hk⟩ := rec its rv
  have y : At w C H (.ref a) (.lst us) := .lst h n l
  have hd : depL us < dep (.lst us) := by simp only [dep]; omega
  have hna : a ∉ bs := hb.not_mem y hd fun ⟨o', m', q1, q2, q3⟩ => by
    rw [h1] at q1
    cases q1
    simp at q2
  refine ⟨a :: bs, hb.cons y (Nat.le_of_lt hd), ?_⟩
  simp only [shown, dep]
  exact list_reprs (xs := []) h1 hna hk
theorem pairs2 {el : List DictEntry} {k1 k2 : Key} {x1 x2 : Value} (g : Pairs (mixKind P wd) el [(k1, x1), (k2, x2)]) : ∃ e1 e2 : DictEntry, el = [e1, e2] ∧ keyIs k1 e1.key = true ∧ e1.val = x1 ∧ keyIs k2 e2.key = true ∧ e2.val = x2 := by
  cases g with
  | cons a1 b1 g =>
    cases g with
    | cons a2 b2 g =>
      cases g
      exact ⟨_, _, rfl, a1, b1, a2, b2⟩
theorem kv2 {k1 k2 : Key} {v1 v2 : V} {vs : List (Key × Value)} (kv : KV [(k1, v1), (k2, v2)] vs) : ∃ x1 x2, vs = [(k1, x1), (k2, x2)] ∧ RelV v1 x1 ∧ RelV v2 x2 := by
  cases kv with
  | @cons _ q1 _ _ r1 kv =>
    cases kv with
    | @cons _ q2 _ _ r2 kv =>
      cases kv
      obtain ⟨a1, b1⟩ := q1
      obtain ⟨a2, b2⟩ := q2
      obtain ⟨e1, r1⟩ := r1
      obtain ⟨e2, r2⟩ := r2
      cases e1
      cases e2
      exact ⟨_, _, rfl, r1, r2⟩
theorem dct_parts (ok : HOk P wd H h₀) {a b : Addr} {xs : List V} {us : List U} (h : H a = some (.dK [(.inr "a", .ref b), (.inl 1, .non)])) (n : a ≠ w) (h2 : H b = some (.lst xs)) (n2 : b ≠ w) (l : AtL w C H xs us)
    (rec : ∀ its, Vals xs its → ∃ bs, Inn w C H h₀ (depL us) bs ∧ ReprAllK P wd bs h₀ (depL us) its (shownL nm us)) :
    ∃ bs o es ep, Inn w C H h₀ (depL us + 1) bs ∧ a ∉ bs ∧ h₀.get? a = some o ∧ o.cls = .type "dict" ∧ o.data = .dict es ep ∧ (a == sysModules) = false ∧
      ReprEntriesK P wd bs h₀ (depL us + 1) es.toList [reprText "a" ++ ": " ++ listText (shownL nm us), (toString (1 : Int) : Str) ++ ": " ++ "None"] := by
  obtain ⟨bs, hB, kb⟩ := rep_lst ok h2 n2 l rec
  have y : At w C H (.ref a) (.dct us) := .dct h n h2 n2 l
  have hda : dep (.lst us) < dep (.dct us) := by simp only [dep]; omega
  obtain ⟨_, hsys, vs, kv, o, es, ep, g1, g2, g3, _, g4, _⟩ := ok a _ h
  have hna : a ∉ bs := hB.not_mem y hda fun ⟨o', m', q1, q2, q3⟩ => by
    rw [g1] at q1
    cases q1
    rw [g3] at q3
    cases q3
  obtain ⟨x1, x2, rfl, r1, r2⟩ := kv2 kv
  cases r1
  cases r2
  obtain ⟨e1, e2, ee, a1, b1, a2, b2⟩ := pairs2 g4
  simp only [shown, dep] at kb hB
  refine ⟨bs, o, es, ep, hB, hna, g1, g2.1, g3, hsys, ?_⟩
  rw [ee]
  rcases keyIs_shape a1 with ⟨i, t, q, _⟩ | ⟨z, t, q, ek⟩
  · cases q
  · cases q
    rcases keyIs_shape a2 with ⟨i, t', q, ek2⟩ | ⟨z, t', q, _⟩
    · cases q
      refine .cons ?_ ?_ (.cons ?_ ?_ .nil)
      · rw [ek]
        exact .of_is (ReprIs.str _ t (by rw [sizeLine_eq]; decide +kernel)) _ _ _
      · rw [b1]
        exact kb
      · rw [ek2]
        exact .of_is (ReprIs.int t' (by decide)) _ _ _
      · rw [b2]
        exact .of_is ReprIs.none _ _ _
    · cases q
theorem rep_dct (ok : HOk P wd H h₀) {a b : Addr} {xs : List V} {us : List U} (h : H a = some (.dK [(.inr "a", .ref b), (.inl 1, .non)])) (n : a ≠ w) (h2 : H b = some (.lst xs)) (n2 : b ≠ w) (l : AtL w C H xs us)
    (rec : ∀ its, Vals xs its → ∃ bs, Inn w C H h₀ (depL us) bs ∧ ReprAllK P wd bs h₀ (depL us) its (shownL nm us)) :
    ∃ bs, Inn w C H h₀ (dep (.dct us)) bs ∧ ReprK P wd bs h₀ (dep (.dct us)) (.ref a) (shown nm (.dct us)) := by
  obtain ⟨bs, o, es, ep, hB, hna, g1, g2, g3, hsys, hE⟩ := dct_parts ok h n h2 n2 l rec
  refine ⟨a :: bs, hB.cons (.dct h n h2 n2 l) (by simp only [dep]; omega), ?_⟩
  simp only [shown, dep]
  exact ReprK.dict (d := depL us + 1) g1 g2 g3 hsys hna hE
theorem exc_at (ok : HOk P wd H h₀) {a t : Addr} (h : H a = some (ExN C t a)) (h2 : H t = some (.tup [])) : HxExc C a t h₀ := by
  obtain ⟨⟨o, vs, q1, q2, q3, q4, q5⟩, _, _⟩ := ok a _ h
  obtain ⟨_, its, rv, o', g1, g2, m, g3⟩ := ok t _ h2
  cases rv
  exact ⟨⟨o, vs, q1, q2, q3, q4, q5⟩, o', m, g1, g2, g3⟩
theorem rep_exc (ok : HOk P wd H h₀) (X : K.In h₀) (R : HxRepr K C nm) {a t : Addr} (h : H a = some (ExN C t a)) (n : a ≠ w) (h2 : H t = some (.tup [])) (n2 : t ≠ w) : ∃ bs, Inn w C H h₀ (dep .exc) bs ∧ ReprK P wd bs h₀ (dep .exc) (.ref a) (shown nm .exc) := by
  have hx := exc_at ok h h2
  refine ⟨[a, t], fun b hb => ?_, ?_⟩
  · rcases List.mem_cons.mp hb with e | hb
    · subst e
      exact .inl ⟨.exc, .exc h n h2 n2, Nat.le_refl _⟩
    · rw [List.mem_singleton.mp hb]
      obtain ⟨_, o, m, q1, q2, q3⟩ := hx
      exact .inr ⟨o, m, q1, q2, q3⟩
  · simp only [shown, dep]
    exact hx_repr X hx R (fun _ h => nomatch h)
theorem rep_cons {u : U} {us : List U} {x : Value} {xs : List Value} (h1 : ∃ bs, Inn w C H h₀ (dep u) bs ∧ ReprK P wd bs h₀ (dep u) x (shown nm u)) (h2 : ∃ bs, Inn w C H h₀ (depL us) bs ∧ ReprAllK P wd bs h₀ (depL us) xs (shownL nm us)) :
    ∃ bs, Inn w C H h₀ (depL (u :: us)) bs ∧ ReprAllK P wd bs h₀ (depL (u :: us)) (x :: xs) (shownL nm (u :: us)) := by
  obtain ⟨b1, i1, k1⟩ := h1
  obtain ⟨b2, i2, k2⟩ := h2
  refine ⟨b1 ++ b2, ?_, ?_⟩
  · simp only [depL]
    exact (i1.mono (Nat.le_max_left _ _)).append (i2.mono (Nat.le_max_right _ _))
  · simp only [depL, shownL]
    exact .cons ((k1.more fun b hb => List.mem_append_left _ hb).level_le (Nat.le_max_left _ _)) (k2.more_le (fun b hb => List.mem_append_right _ hb) (Nat.le_max_right _ _))
theorem small_dct {us : List U} (hz : (shown nm (.dct us)).length ≤ sizeLine) : ∀ t ∈ shownL nm us, t.length ≤ sizeLine := fun t ht => by
  simp only [shown] at hz
  have hz1 := dictText_mem_le (ps := [reprText "a" ++ ": " ++ listText (shownL nm us), (toString (1 : Int) : Str) ++ ": " ++ "None"]) (List.mem_cons_self)
  rw [strLen_append] at hz1
  have := listText_mem_le ht
  omega
def Rp (P : Program) (wd : World) (w C : Addr) (H : Hp) (h₀ : Heap) (nm : Str) (u : U) : Prop := ∀ (v : V) (x : Value), At w C H v u → RelV v x → smallU u → (shown nm u).length ≤ sizeLine → ∃ bs, Inn w C H h₀ (dep u) bs ∧ ReprK P wd bs h₀ (dep u) x (shown nm u)
theorem list_rp : ∀ (us : List U) (vs : List V) (xs : List Value), (∀ u ∈ us, Rp P wd w C H h₀ nm u) → AtL w C H vs us → Vals vs xs → smallL us → (∀ t ∈ shownL nm us, t.length ≤ sizeLine) →
    ∃ bs, Inn w C H h₀ (depL us) bs ∧ ReprAllK P wd bs h₀ (depL us) xs (shownL nm us)
  | [], _, _, _, l, r, _, _ => by
    cases l
    cases r
    exact ⟨[], (fun _ h => nomatch h), by simp only [shownL]; exact .nil⟩
  | u :: us, _, _, ih, l, r, hs, hz => by
    cases l with
    | cons x l =>
      cases r with
      | cons rx rl =>
        simp only [smallL] at hs
        simp only [shownL] at hz
        exact rep_cons (ih u List.mem_cons_self _ _ x rx hs.1 (hz _ List.mem_cons_self)) (list_rp us _ _ (fun y hy => ih y (List.mem_cons_of_mem _ hy)) l rl hs.2 (fun t ht => hz t (List.mem_cons_of_mem _ ht)))
theorem dep_mem {us : List U} {u : U} (h : u ∈ us) : dep u ≤ depL us := by
  induction us with
  | nil => cases h
  | cons x us ih =>
    simp only [depL]
    rcases List.mem_cons.mp h with e | h
    · subst e
      exact Nat.le_max_left _ _
    · exact Nat.le_trans (ih h) (Nat.le_max_right _ _)
theorem rp_all (ok : HOk P wd H h₀) (X : K.In h₀) (R : HxRepr K C nm) : ∀ (n : Nat) (u : U), dep u ≤ n → Rp P wd w C H h₀ nm u := by
  intro n
  induction n with
  | zero =>
    intro u hd v x h r hs hz
    cases h with
    | non => cases r; exact ⟨[], (fun _ h => nomatch h), by simp only [shown]; exact .of_is ReprIs.none _ _ _⟩
    | bl b => cases r; exact ⟨[], (fun _ h => nomatch h), by simp only [shown]; exact .of_is (ReprIs.bool b) _ _ _⟩
    | int i => obtain ⟨t, rfl⟩ := r; exact ⟨[], (fun _ h => nomatch h), by simp only [shown]; exact .of_is (ReprIs.int t (by simpa only [smallU] using hs)) _ _ _⟩
    | str z => obtain ⟨t, rfl⟩ := r; exact ⟨[], (fun _ h => nomatch h), by simp only [shown]; exact .of_is (ReprIs.str z t (by simpa only [shown] using hz)) _ _ _⟩
    | tup => simp only [dep] at hd; omega
    | lst => simp only [dep] at hd; omega
    | dct => simp only [dep] at hd; omega
    | exc => simp only [dep] at hd; omega
  | succ n ih =>
    intro u hd v x h r hs hz
    cases h with
    | non => cases r; exact ⟨[], (fun _ h => nomatch h), by simp only [shown]; exact .of_is ReprIs.none _ _ _⟩
    | bl b => cases r; exact ⟨[], (fun _ h => nomatch h), by simp only [shown]; exact .of_is (ReprIs.bool b) _ _ _⟩
    | int i => obtain ⟨t, rfl⟩ := r; exact ⟨[], (fun _ h => nomatch h), by simp only [shown]; exact .of_is (ReprIs.int t (by simpa only [smallU] using hs)) _ _ _⟩
    | str z => obtain ⟨t, rfl⟩ := r; exact ⟨[], (fun _ h => nomatch h), by simp only [shown]; exact .of_is (ReprIs.str z t (by simpa only [shown] using hz)) _ _ _⟩
    | @tup a xs us h1 n1 l =>
      cases r
      simp only [dep] at hd
      exact rep_tup ok h1 n1 l fun its rv => list_rp us _ _ (fun y hy => ih y (by have := dep_mem hy; omega)) l rv (by simpa only [smallU] using hs) (fun t ht => Nat.le_trans (tupleText_mem_le ht) (by simpa only [shown] using hz))
    | @lst a xs us h1 n1 l =>
      cases r
      simp only [dep] at hd
      exact rep_lst ok h1 n1 l fun its rv => list_rp us _ _ (fun y hy => ih y (by have := dep_mem hy; omega)) l rv (by simpa only [smallU] using hs) (fun t ht => Nat.le_trans (listText_mem_le ht) (by simpa only [shown] using hz))
    | @dct a b xs us h1 n1 h2 n2 l =>
      cases r
      simp only [dep] at hd
      exact rep_dct ok h1 n1 h2 n2 l fun its rv => list_rp us _ _ (fun y hy => ih y (by have := dep_mem hy; omega)) l rv (by simpa only [smallU] using hs) (small_dct hz)
    | exc h1 n1 h2 n2 =>
      cases r
      exact rep_exc ok X R h1 n1 h2 n2
end
end Hu
/-! a def run where the guards around it are known to be none: for what asks for a repr -/
namespace Gd
open PySem PySem.Spec PyProof.Rows L2
/-- one run of a def's body, at one place -/
theorem run_at {CX : CXT} {P : Program} {wd : World} {F : PySem.W.Frag} {mg : Str → Option Value} {base : Heap} {k : Nat} {fa : Addr} {nm qn : Str} {prm : Arguments} {code : List Stmt} {sc : Scope} {d1 d2 d3 d4 d5 d6 d7 : Value} {an od : Option Addr}
    {slots : Array (Option Value)} {N ps : List Str} (at_f : F.lookup fa = some ⟨d7, od, .func (PySem.W.fnOf nm qn prm code sc d1 d2 d3 d4 an d5 d6), slots⟩) (rec : PySem.W.codeIn F d5 qn = true) (sco : FnScope N ps sc)
    {A : Around} {outer : List Env} {s : Shared} {H : Hp} {args : Args} {us : List Value} {vs : List V} {Q : VK} {E : XK} (room : Room (k + 1) A) (ev : Env0 P wd F mg base A outer s H) (bd : BindsTo s (PySem.W.fnOf nm qn prm code sc d1 d2 d3 d4 an d5 d6) args (ps.zip us))
    (rv : Vals vs us) (len : vs.length = ps.length) (body : Room k (A.deeper (envOfC qn sc s.heap.objs.size fa d5)) → ∃ t, PSs (cxOf CX P wd F mg base N qn sc fa d5 A outer s H E) code t ∧ t { nx := fun _ H' => Q .non H', rt := Q } (start N vs) H) :
    codeAny (model P wd) A (.call (.ref fa) args) (CR CX outer P wd H s Q E) s := by
  obtain ⟨t, body1, body2⟩ := body (room.deeper _)
  have inF : F.In s.heap := ev.mod.kin.keeps fun b o q => And.left (ev.bs b o q)
  have kinds : ∀ y ∈ ps.zip us, sc.names.lookup y.1 = some .local ∨ (sc.names.lookup y.1 = some .cell ∧ ((cellsFrom (s.heap.objs.size + 1) sc.names []).lookup y.1).isSome = true) := by
    rintro ⟨n, v⟩ hy
    rcases sco.par n (And.left (List.of_mem_zip hy)) with z | z
    · exact Or.inl z
    · exact Or.inr ⟨z, PySem.W.cellsFrom_some _ _ _ (Or.inl z)⟩
  refine codeAny_call_function room.depth (inF _ _ at_f) rfl sco.co sco.gen rfl (PySem.W.codeRec_of inF rec) (bd _ _ _ _ (wpAny_newFunctionEnv_cells sco.kind kinds fun env he s1 x => ?_))
  subst he
  have noLimit : s.heap.NoLimit := ev.mod.nolimit.keeps fun b o q => And.left (ev.bs b o q)
  refine ⟨noLimit.keeps x.toInCall.keep, codeAny_func (wpAny_mono (body1.run [] s1 (start N vs) H _ (inv_start sco room.hd ev len rv x) body2) (fun fl s' q => ?_) fun _ _ z => z)⟩
  cases fl with
  | ret u => obtain ⟨v, σ', H', J, r, q⟩ := q; exact ⟨v, H', J.os, J.bare, J.base, J.hok, r, q⟩
  | next => obtain ⟨σ', H', J, q⟩ := q; exact ⟨V.non, H', J.os, J.bare, J.base, J.hok, rfl, q⟩
  | brk => exact (Exists.elim q fun _ q => Exists.elim q fun _ q => q.2).elim
  | cont => exact (Exists.elim q fun _ q => Exists.elim q fun _ q => q.2).elim
/-- the end of a law's call: nothing that stood is changed -/
theorem law_end {P : Program} {wd : World} {s₁ s' : Shared} {H : Hp} {r : Result} (only : ∀ b, H b = none ∨ ∃ o xs, H b = some (.frz o (.lst xs))) (hok : HOk P wd H s₁.heap)
    (h : CR CX0 [] P wd H s₁ (fun v _ => v = .bl true) (fun _ _ _ => False) r s') : r = .ok (.ret (.bool true)) ∧ OldK s₁.heap s'.heap ∧ s'.os = s₁.os ∧ AllBare s'.gens := by
  match r, h with
  | .ok (.ret u), ⟨v, H', os, gens, un, ok2, ru, ev⟩ =>
    have ev : v = V.bl true := ev
    subst ev
    cases (show u = Value.bool true from ru)
    have none_in : ∀ b : Addr, b ∉ ([] : List Addr) := fun b => List.not_mem_nil
    refine ⟨rfl, OldK.of_keep fun b o e => ?_, os, gens⟩
    rcases only b with z | ⟨ob, xs, z⟩
    · exact un.keep b o e z (none_in b) (none_in b)
    · have here := (hok b _ z).1
      have there := (ok2 b _ (un.frzs b ob _ z)).1
      rw [e] at here
      cases here
      exact there
theorem law_at {P : Program} {wd : World} {F : PySem.W.Frag} {mg mb : Str → Option Value} {fa a : Addr} {s₁ : Shared} {vs : List Value} {ns : List Int} (inF : F.In s₁.heap) (main : s₁.heap.Ns mainGlobals mg) (bns : s₁.heap.Ns builtinsNs mb) (boot : ∀ x : Str, x ≠ "__name__" → mb x = bootBuiltins x)
    (lim : s₁.heap.NoLimit) (gens : s₁.gens = #[]) (script : s₁.heap.get? a = some { cls := .type "list", data := .seq vs.toArray }) (areI : IntsAre vs ns) (few : ns.length ≤ sizeLine)
    (go : ∀ (base : Heap) (H : Hp), F.In base → base.Ns mainGlobals mg → Env0 P wd F mg base callerA [] s₁ H → SqL F H a (ns.map V.int) → codeAny (model P wd) callerA (.call (.ref fa) ⟨[.ref a], []⟩) (CR CX0 [] P wd H s₁ (fun v _ => v = .bl true) (fun _ _ _ => False)) s₁) :
    codeAny (model P wd) callerA (.call (.ref fa) ⟨[.ref a], []⟩) (fun r s' => r = .ok (.ret (.bool true)) ∧ OldK s₁.heap s'.heap ∧ s'.os = s₁.os ∧ AllBare s'.gens) s₁ := by
  have rel := vals_ints areI
  have size := areI.length
  have main_case : ∀ H : Hp, (∀ b u, H b = some u → b = a ∧ F.lookup a = none ∧ u = .frz { cls := .type "list", data := .seq vs.toArray } (.lst (ns.map V.int))) → SqL F H a (ns.map V.int) →
      codeAny (model P wd) callerA (.call (.ref fa) ⟨[.ref a], []⟩) (fun r s' => r = .ok (.ret (.bool true)) ∧ OldK s₁.heap s'.heap ∧ s'.os = s₁.os ∧ AllBare s'.gens) s₁ := by
    intro H only sq
    have here : ∀ {b : Addr} {o : Obj}, s₁.heap.get? b = some o → (b = a → F.lookup a = none → False) → (hidT s₁.heap H).get? b = some o := fun {b o} e no => by
      refine hidT_get e ?_
      cases q : H b with
      | none => rfl
      | some u => exact (no (only b u q).1 (only b u q).2.1).elim
    have spaces : ∀ {b : Addr} {m : Str → Option Value}, s₁.heap.Ns b m → (hidT s₁.heap H).Ns b m := fun {b m} z => by
      obtain ⟨o, es, ep, e, d, r⟩ := z
      refine ⟨o, es, ep, here e (fun q _ => ?_), d, r⟩
      rw [q, script] at e
      cases e
      cases d
    have inB : F.In (hidT s₁.heap H) := fun b o e => here (inF b o e) fun q z => by
      rw [q, z] at e
      cases e
    have hok : HOk P wd H s₁.heap := fun b u e => by
      obtain ⟨rfl, _, rfl⟩ := only b u e
      exact ⟨script, by rw [List.length_map]; exact few, vs, _, rel, script⟩
    have env : Env0 P wd F mg (hidT s₁.heap H) callerA [] s₁ H :=
      ⟨rfl, ⟨inB, spaces main, ⟨mb, spaces bns, boot⟩, Exists.elim lim fun m z => ⟨m, spaces z.1, z.2⟩⟩, fun b o e => of_hidT e, Nat.le_of_eq (hidT_size _ _), trivial, fun b z => (List.not_mem_nil (show b ∈ ([] : List Addr) from z)).elim, hok, .of_eq gens⟩
    refine codeAny_mono (go _ H inB (spaces main) env sq) fun r s' z => law_end (fun b => ?_) hok z
    cases q : H b with
    | none => exact .inl rfl
    | some u => exact .inr ⟨_, _, congrArg some (only b u q).2.2⟩
  cases q : F.lookup a with
  | some o =>
    have e := (inF a o q).symm.trans script
    cases e
    exact main_case (fun _ => none) (fun _ _ z => by cases z) (.inr ⟨_, vs.toArray, _, q, rfl, rfl, rfl, by rw [List.size_toArray, size]; exact few, by simpa using rel⟩)
  | none =>
    refine main_case (fun b => if b = a then some (.frz { cls := .type "list", data := .seq vs.toArray } (.lst (ns.map V.int))) else none) (fun b u z => ?_) (.inl (.inr ⟨_, if_pos rfl⟩))
    by_cases e : b = a
    · have z2 := (if_pos e).symm.trans z
      exact ⟨e, q, (Option.some.inj z2).symm⟩
    · have z2 := (if_neg e).symm.trans z
      cases z2
/-- what the head leaves, from the law's run at the caller -/
theorem walk_at {l : PySem.W.OpenLaw} {n : Nat} {q : Program} {loose : List Str} {XP : (Str → Option Value) → Heap → Prop} {YP : World → Heap → Prop} {d : DefRec} {F : Params → PySem.W.Frag} (most : l.most = some n) (line : n ≤ sizeLine) (plain : d.params.defaults = [])
    (inF : ∀ (w : World) (h : Heap), YP w h → (F w.params).In h)
    (go : ∀ (w : World) (mg : Str → Option Value) (fa : Addr) (h : Heap), (F w.params).In h → h.Ns mainGlobals mg → mg d.name = some (.ref fa) →
      ∀ (s : Shared) (a : Addr) (ns : List Int) (base : Heap) (H : Hp), (F w.params).In base → base.Ns mainGlobals mg → Env0 l.prog w (F w.params) mg base callerA [] s H → SqL (F w.params) H a (ns.map V.int) →
        codeAny (model l.prog w) callerA (.call (.ref fa) ⟨[.ref a], []⟩) (CR CX0 [] l.prog w H s (fun v _ => v = .bl true) (fun _ _ _ => False)) s) :
    PySem.W.WalkO q loose XP YP l.row.toRowW d [] (fun f vs => PySem.call f vs) :=
  Att.attach_call most plain fun w s₀ s₁ mg mb fa o pm cd doc a vs ns G Y ho hd hcd hmg obj areI len gens =>
    law_at (inF w _ Y) G.T.g G.T.b G.T.builtins G.T.nolimit gens obj areI (Nat.le_trans len line) fun base H => go w mg fa _ (inF w _ Y) G.T.g hmg s₁ a ns base H
end Gd
namespace Hu
open PySem PySem.Spec PyProof.Rows L2
section
variable {X : Cx} {w C : Addr} {nm : Str}
/-- repr(x), any value of the law's, where nothing is shown around -/
theorem call_reprU {k : Nat} (room : Room k X.A) (bare : X.A.guards = some []) (R : HxRepr X.K C nm) :
    CallR X (.builtin "repr") (fun xs H Q => ∃ (v : V) (u : U) (w : Addr), xs = [v] ∧ At w C H v u ∧ smallU u ∧ dep u ≤ 60 ∧ (shown nm u).length ≤ sizeLine ∧ Q (.str (shown nm u)) H) := by
  intro pins s σ H xs us Q I r h
  obtain ⟨v, u, w, rfl, hat, hs, hd, hz, q⟩ := h
  obtain ⟨x, rfl, rx⟩ := vals1 r
  have hu := room.units
  have ok := I.hok
  have X0 := I.kIn
  have fin : ∀ (h' : Heap) (t : Tok) (tk : Nat), (∀ b o, s.heap.get? b = some o → h'.get? b = some o) → EP X pins σ Q (.str (shown nm u) t) { s with heap := h', toks := tk } := fun h' t tk kp =>
    ⟨.str (shown nm u), H, I.un (Un.kept kp) (I.hok.kept kp), ⟨t, rfl⟩, q⟩
  have rp : ∀ (us : List U) (vs : List V) (its : List Value), depL us ≤ 60 → AtL w C H vs us → Vals vs its → smallL us → (∀ t ∈ shownL nm us, t.length ≤ sizeLine) → ∃ bs, Inn w C H s.heap (depL us) bs ∧ ReprAllK X.prog X.w bs s.heap (depL us) its (shownL nm us) :=
    fun us vs its hd l rv hs hz => list_rp us vs its (fun y hy => rp_all ok X0 R 60 y (Nat.le_trans (dep_mem hy) hd)) l rv hs hz
  cases hat with
  | non =>
    cases rx
    simp only [shown] at fin
    exact PySem.P.repr_of_none (fin s.heap _ _ fun _ _ e => e)
  | bl b =>
    cases rx
    simp only [shown] at fin
    exact PySem.P.repr_of_bool (fin s.heap _ _ fun _ _ e => e)
  | int i =>
    obtain ⟨t, rfl⟩ := rx
    simp only [shown] at fin
    exact PySem.P.repr_of_int (by simpa only [smallU] using hs) (fin s.heap _ _ fun _ _ e => e)
  | str z =>
    obtain ⟨t, rfl⟩ := rx
    simp only [shown] at fin hz
    exact PySem.P.repr_of_str (fin s.heap _ _ fun _ _ e => e) hz
  | @tup a xs us h1 n1 l =>
    cases rx
    simp only [dep] at hd
    have hz' : (tupleText (shownL nm us)).length ≤ sizeLine := by simpa only [shown] using hz
    obtain ⟨_, its, rv, o, g1, g2, m, g3⟩ := ok a _ h1
    obtain ⟨bs, hb, hk⟩ := rp us xs its (by omega) l rv (by simpa only [smallU] using hs) (fun t ht => Nat.le_trans (tupleText_mem_le ht) hz')
    have hna : ∃ bs, a ∉ bs ∧ ReprAllK X.prog X.w bs s.heap (depL us) its (shownL nm us) := by
      by_cases e : its = []
      · subst e
        have hl := rv.length
        have ex : us = [] := List.length_eq_zero_iff.mp (by rw [← AtL.length l, hl]; rfl)
        subst ex
        exact ⟨[], by simp, by rw [shownL]; exact .nil⟩
      · refine ⟨bs, hb.not_mem (.tup h1 n1 l) (by simp only [dep]; omega) fun ⟨o', m', q1, q2, q3⟩ => ?_, hk⟩
        rw [g1] at q1
        cases q1
        rw [g3] at q3
        injection q3 with q3 _
        exact e (by simpa using congrArg Array.toList q3)
    obtain ⟨bs, hna, hk⟩ := hna
    simp only [shown] at fin
    exact call_repr_slot (by omega) ⟨o, g1, g2⟩ F.slot_tuple_repr (call_tuple_reprK g1 g2 g3 hna (by simpa using hk) (A := X.A.in1) bare (fun b _ => Clear.nil b) (by show X.A.units + 1 + _ < _; omega) (fun _ _ e => e) (fun h' u tk kp => ⟨_, _, rfl, fin h' u tk kp⟩) hz')
  | @lst a xs us h1 n1 l =>
    cases rx
    simp only [dep] at hd
    have hz' : (listText (shownL nm us)).length ≤ sizeLine := by simpa only [shown] using hz
    obtain ⟨_, its, m, rv, g1⟩ := ok a _ h1
    obtain ⟨bs, hb, hk⟩ := rp us xs its (by omega) l rv (by simpa only [smallU] using hs) (fun t ht => Nat.le_trans (listText_mem_le ht) hz')
    have hna : a ∉ bs := hb.not_mem (.lst h1 n1 l) (by simp only [dep]; omega) fun ⟨o', m', q1, q2, q3⟩ => by
      rw [g1] at q1
      cases q1
      simp at q2
    simp only [shown] at fin
    refine call_repr_slot (by omega) ⟨_, g1, rfl⟩ F.slot_list_repr.toG ?_
    cases its with
    | nil =>
      cases us with
      | nil =>
        simp only [shownL, listText_nil] at fin
        exact call_list_repr_empty ⟨_, g1, rfl⟩ g1 rfl ⟨_, _, rfl, fin s.heap _ _ fun _ _ e => e⟩
      | cons u us => rw [shownL] at hk; cases hk
    | cons y l2 =>
      exact call_list_reprK (A := X.A.in1) g1 rfl rfl hna (by simpa using hk.length_eq) (fun i y e => hk.item i y (by simpa using e)) bare (fun b _ => Clear.nil b) (by show X.A.units + 1 + _ < _; omega) (fun _ _ e => e) (fun h' u tk kp => ⟨_, _, rfl, fin h' u tk kp⟩) hz'
  | @dct a b xs us h1 n1 h2 n2 l =>
    cases rx
    simp only [dep] at hd
    have hz' : (dictText [reprText "a" ++ ": " ++ listText (shownL nm us), (toString (1 : Int) : Str) ++ ": " ++ "None"]).length ≤ sizeLine := by simpa only [shown] using hz
    obtain ⟨bs, o, es, ep, hB, hna, g1, g2, g3, hsys, hE⟩ := dct_parts ok h1 n1 h2 n2 l fun its rv => rp us xs its (by omega) l rv (by simpa only [smallU] using hs) (small_dct hz)
    simp only [shown] at fin
    exact call_repr_slot (by omega) ⟨o, g1, g2⟩ F.slot_dict_repr (call_dict_reprK (A := X.A.in1) g1 g2 g3 hsys hna hE bare (fun b _ => Clear.nil b) (by show X.A.units + 1 + _ < _; omega) (fun _ _ e => e) (fun h' u tk kp => ⟨_, _, rfl, fin h' u tk kp⟩) hz')
  | exc h1 n1 h2 n2 =>
    cases rx
    have hx := exc_at ok h1 h2
    simp only [shown] at fin hz
    exact hx_reprTop X0 hx R hz bare (by omega) fin
end
end Hu
/-! isinstance of any value of the law's, and the error that it may be -/
namespace Hu
open PySem PySem.Spec PyProof.Rows L2
/-- the class of the errors among the values: how isinstance asks them, what repr tells -/
structure Xc (K : PySem.W.Frag) (mg : Str → Option Value) (x : Str) (C : Addr) (nm : Str) : Prop where
  g : mg x = some (.ref C)
  x : PySem.W.excIn K C [.type "ValueError", .type "Exception", .type "BaseException", .type "object"] "ValueError.__new__" = true
  k : PySem.W.keepIn K (.ref C) = true
  c : L2.ExcC K C
  r : HxRepr K C nm
  ki : PySem.W.kitOne K (.ref C) (.type "int") = some false
  kb : PySem.W.kitOne K (.ref C) (.type "bool") = some false
  ks : PySem.W.kitOne K (.ref C) (.type "str") = some false
  kt : PySem.W.kitOne K (.ref C) (.type "tuple") = some false
def tyU : U → String
  | .non => "NoneType"
  | .bl _ => "bool"
  | .int _ => "int"
  | .str _ => "str"
  | .tup _ => "tuple"
  | .lst _ => "list"
  | .dct _ => "dict"
  | .exc => "?"
def isS (S T : String) : Bool := S == T || (S == "bool" && T == "int")
/-- isinstance(u, T), T one of int, bool, str, tuple -/
def isT (u : U) (T : String) : Bool := isS (tyU u) T
theorem kit_is {S T : String} (hS : S ∈ ["NoneType", "bool", "int", "str", "tuple", "list", "dict"]) (hT : T ∈ ["int", "bool", "str", "tuple"]) : kitB S T = some (isS S T) := by
  have : (["NoneType", "bool", "int", "str", "tuple", "list", "dict"].all fun S => ["int", "bool", "str", "tuple"].all fun T => decide (kitB S T = some (isS S T))) = true := by decide +kernel
  exact of_decide_eq_true (List.all_eq_true.mp (List.all_eq_true.mp this S hS) T hT)
theorem ExN.inst {P : Program} {wd : World} {H : Hp} {h : Heap} {C a t : Addr} (ok : HOk P wd H h) (e : H a = some (ExN C t a)) : ∃ o, PySem.W.InstAt h a o C none := by
  obtain ⟨⟨o, vs, h1, h2, h3, _, h5⟩, _, _⟩ := ok a _ e
  refine ⟨o, ?_⟩
  obtain ⟨oc, od, oda, osl⟩ := o
  dsimp only at h2 h3 h5
  subst h2 h3 h5
  exact ⟨h1, rfl, rfl, trivial⟩
section
variable {X : Cx} {w C : Addr} {nm x : Str}
/-- isinstance(v, T) -/
theorem call_isiU (T : String) (E : Xc X.K X.mg x C nm) (hT : T ∈ ["int", "bool", "str", "tuple"]) :
    CallR X (.builtin "isinstance") (fun xs H Q => ∃ (v : V) (u : U) (w : Addr), xs = [v, .ty T] ∧ At w C H v u ∧ Q (.bl (isT u T)) H) := by
  intro pins s σ H xs us Q I r h
  obtain ⟨v, u, w, rfl, hat, q⟩ := h
  have plain : ∀ S, TyX X.K H v (.type S) → kitB S T = some (isT u T) → wpAny (model X.prog X.w) X.A (call (.builtin "isinstance") us) (EP X pins σ Q) X.xe s := fun S ty kb =>
    call_isi pins s σ H _ us Q I r ⟨v, .ty T, .type S, .type T, isT u T, rfl, .ty T, ty, kit_ty kb, q⟩
  cases hat with
  | non => exact plain _ (.base .non) (kit_is (by simp) hT)
  | bl b => exact plain _ (.base (.bl b)) (kit_is (by simp) hT)
  | int i => exact plain _ (.base (.int i)) (kit_is (by simp) hT)
  | str z => exact plain _ (.base (.str z)) (kit_is (by simp) hT)
  | tup h _ _ => exact plain _ (.base (.tup h)) (kit_is (by simp) hT)
  | lst h _ _ => exact plain _ (.base (.lst h)) (kit_is (by simp) hT)
  | dct h _ _ _ _ => exact plain _ (.base (.dK h)) (kit_is (by simp) hT)
  | exc h n _ _ =>
    obtain ⟨u1, u2, rfl, r1, r2⟩ := vals2 r
    cases r1
    cases r2
    obtain ⟨o, J⟩ := ExN.inst I.hok h
    have c := E.c
    have e : PySem.W.kitOne X.K (.ref C) (.type T) = some false ∧ isT .exc T = false := by
      simp only [List.mem_cons, List.not_mem_nil, or_false] at hT
      rcases hT with rfl | rfl | rfl | rfl
      · exact ⟨E.ki, by decide +kernel⟩
      · exact ⟨E.kb, by decide +kernel⟩
      · exact ⟨E.ks, by decide +kernel⟩
      · exact ⟨E.kt, by decide +kernel⟩
    rw [e.2] at q
    exact PySem.W.kia_one (PySem.W.handS_kitx_exc c.hg c.hk c.hs c.hd c.ha c.hn c.ht c.hm) I.kIn J e.1 (fun z => nomatch z) fun tk => ⟨.bl false, H, I.tok tk, rfl, q⟩
/-- an error as a value: X() -/
theorem pe_exc0 {y : Str} {p pos : Pos} (E : Xc X.K X.mg y C nm) (hg : Gl X y) (hdb : (y == ("__debug__" : Str)) = false := by decide) :
    PE X (.Call (.Name y p) [] [] pos) (fun σ H Q => ∀ a t, H a = none → H t = none → a ≠ t → Q (.ref a) (upd (upd H t (.tup [])) a (ExN C t a))) := by
  refine ⟨fun pins s σ H Q I h => ?_⟩
  refine wpAny_Call_Name_kw (ld_glob I hg E.g ?_ hdb)
  refine PySem.W.callWith_K0 I.kIn E.k ?_
  show wpAny _ _ (call (.ref C) []) _ _ _
  obtain ⟨bm, N, nm, qn, bs, hdct, sn, sub, ab, col, dd, k0, k1, k2, k3, k5, mN, hC, hN, hni, T⟩ := exc_obj I.kIn E.x
  refine wpAny_call_exc_subT PySem.F.excBase_ValueError T hC hN hni (fun h' a hm => ?_) (Nat.zero_le _)
  have hn : H a = none := I.hok.gone hm.new
  obtain ⟨t, ht, htn, htt⟩ := hm.there
  have hn2 : H t = none := I.hok.gone htn
  have nat : a ≠ t := fun e => by
    rw [e, htt] at ht
    cases ht
  have na : upd H t (.tup []) a = none := by
    rw [upd_ne nat]
    exact hn
  have ok1 : HOk X.prog X.w (upd H t (.tup [])) h' := I.hok.laidN hm.keeps hn2 ⟨Nat.zero_le _, [], .nil, _, htt, rfl, _, rfl⟩
  have ok2 : HOk X.prog X.w (upd (upd H t (.tup [])) a (ExN C t a)) h' := ok1.laidN (fun _ _ q => q) na ⟨⟨_, _, ht, rfl, rfl, rfl, rfl⟩, ⟨_, ht⟩, fun _ _ ⟨o, vs, q, r⟩ k => ⟨o, vs, k o q, r⟩⟩
  have same : ∀ b o, H b = some o → upd (upd H t (.tup [])) a (ExN C t a) b = some o := fun b o q => by
    rw [upd_ne (ne_of_none q hn), upd_ne (ne_of_none q hn2)]
    exact q
  have I2 : Inv X pins σ (upd (upd H t (.tup [])) a (ExN C t a)) { s with heap := h' } := I.un (t' := s.toks)
    { keep := fun b u q _ _ _ => hm.keeps b u q
      slot := fun b u q _ _ _ => ⟨u.slots, hm.keeps b u q⟩
      free := fun b u q n _ => by
        rw [upd_ne (fun e => by rw [e, hm.new] at q; cases q), upd_ne (fun e => by rw [e, htn] at q; cases q)]
        exact n
      there := fun b u q _ => ⟨u, hm.keeps b u q⟩
      tups := fun b xs q => same b _ q
      frzs := fun b o u q => same b _ q
      tbls := fun b ps q => ⟨#[], by rw [same b _ q]; simp⟩ } ok2
  exact ⟨.ref a, _, I2, rfl, h a t hn hn2 nat⟩
end
end Hu
namespace Hs
open PySem PySem.Spec PyProof.Rows L2
def topS (i : Nat) : Stmt := PySem.Challenge.pw_homeshold_k03_whole_leases_over_time.main.body.getD i (.Pass ⟨0, 0, 0, 0⟩)
abbrev sMixed : Stmt := topS 85
abbrev sWell : Stmt := topS 86
abbrev sFilled : Stmt := topS 87
abbrev sDraw : Stmt := topS 88
/-! ### heaps -/
/-- all that was tracked stands as it was, but for what stands at w -/
def Keep (w : Addr) (H H' : Hp) : Prop := ∀ b o, b ≠ w → H b = some o → H' b = some o
theorem Keep.refl (w : Addr) (H : Hp) : Keep w H H := fun _ _ _ h => h
theorem Keep.trans {w : Addr} {H H1 H2 : Hp} (a : Keep w H H1) (b : Keep w H1 H2) : Keep w H H2 := fun c o n h => b c o n (a c o n h)
theorem Keep.of_same {w : Addr} {H H' : Hp} (s : Same H H') : Keep w H H' := fun b o _ h => s b o h
theorem Keep.updw {w : Addr} {H : Hp} {o : HO} : Keep w H (upd H w o) := fun b u n h => by
  rw [upd_ne n]
  exact h
theorem same_upd {H : Hp} {p : Addr} {o : HO} (h : H p = none) : Same H (upd H p o) := fun b x e => by
  rw [upd_ne (ne_of_none e h)]
  exact e
theorem Keep.new {w : Addr} {H : Hp} {p : Addr} {o : HO} (h : H p = none) : Keep w H (upd H p o) := .of_same (same_upd h)
/-- where a well stands: w the well, c its cells -/
structure WA where
  (w c : Addr)
/-- a well: a list of the cells, how many were taken, what is left of a cell, the mix -/
structure Well (H : Hp) (a : WA) : Prop where
  ex : ∃ (cells : List Int) (pos : Nat) (rest mix : Int), H a.w = some (.lst [.ref a.c, .int (pos : Int), .int rest, .int mix]) ∧ H a.c = some (.lst (cells.map V.int)) ∧ a.c ≠ a.w ∧ (cells.length ≤ 63)
/-- what a draw leaves -/
structure Drawn (a : WA) (H H' : Hp) : Prop where
  keep : Keep a.w H H'
  well : Well H' a
variable {a : WA} {H H' H1 H2 : Hp} {p : Addr} {o : HO}
theorem Drawn.refl (h : Well H a) : Drawn a H H := ⟨.refl _ _, h⟩
theorem Drawn.trans (x : Drawn a H H1) (y : Drawn a H1 H2) : Drawn a H H2 := ⟨x.keep.trans y.keep, y.well⟩
theorem Well.same (h : Well H a) (s : Same H H') : Well H' a := by
  obtain ⟨cells, pos, rest, mix, h1, h2, n, l⟩ := h.ex
  exact ⟨cells, pos, rest, mix, s _ _ h1, s _ _ h2, n, l⟩
theorem Drawn.same (x : Drawn a H H1) (y : Same H1 H2) : Drawn a H H2 := ⟨x.keep.trans (.of_same y), x.well.same y⟩
theorem Drawn.new (x : Drawn a H H1) (h : H1 p = none) : Drawn a H (upd H1 p o) := x.same (same_upd h)
theorem Well.at (h : Well H a) : ∃ o, H a.w = some o := by
  obtain ⟨cells, pos, rest, mix, h1, _⟩ := h.ex
  exact ⟨_, h1⟩
theorem Well.ne (h : Well H a) (n : H p = none) : p ≠ a.w ∧ p ≠ a.c := by
  obtain ⟨cells, pos, rest, mix, h1, h2, _⟩ := h.ex
  exact ⟨(ne_of_none h1 n).symm, (ne_of_none h2 n).symm⟩
theorem Drawn.free (e : Drawn a H H') (hw : Well H a) (h : H' p = Option.none) : H p = Option.none := by
  by_cases q : p = a.w
  · subst q
    obtain ⟨o, h1⟩ := e.well.at
    rw [h1] at h
    cases h
  · cases z : H p with
    | none => rfl
    | some o =>
      rw [e.keep p o q z] at h
      cases h
/-- what is new since H is written -/
theorem Drawn.put (x : Drawn a H H1) (hw : Well H a) (n : H p = none) : Drawn a H (upd H1 p o) := by
  obtain ⟨n1, n2⟩ := hw.ne n
  refine ⟨fun b u nb e => ?_, ?_⟩
  · rw [upd_ne (ne_of_none e n)]
    exact x.keep b u nb e
  · obtain ⟨cells, pos, rest, mix, h1, h2, n, l⟩ := x.well.ex
    exact ⟨cells, pos, rest, mix, by rw [upd_ne n1.symm]; exact h1, by rw [upd_ne n2.symm]; exact h2, n, l⟩
theorem Drawn.there (x : Drawn a H H1) (hw : Well H a) {u : HO} (n : p ≠ a.w) (e : H p = some u) : H1 p = some u := x.keep p u n e
/-- the names of the built-ins that the text leaves alone -/
structure Bt (mg : Str → Option Value) : Prop where
  int : mg "int" = none
  len : mg "len" = none
  range : mg "range" = none
  all : mg "all" = none
  isi : mg "isinstance" = none
  tup : mg "tuple" = none
  lst : mg "list" = none
  str : mg "str" = none
  max : mg "max" = none
  boo : mg "bool" = none
  sum : mg "sum" = none
  rep : mg "repr" = none
section
variable {P : Program} {w : World} {K : PySem.W.Frag} {mg : Str → Option Value} {base : Heap}
/-! ### the draws -/
def spMixed : Sp := fun vs H Q _ => ∃ n : Int, vs = [.int n] ∧ ∀ r : Int, Q (.int r) H
theorem scMixed : FnScope ["number"] ["number"] (defScope sMixed) := ⟨rfl, rfl, rfl, by decide +kernel, rfl, by decide +kernel, by decide +kernel⟩
theorem fmod_lt {a b : Int} (h : 0 < b) : 0 ≤ a.fmod b ∧ a.fmod b < b := by
  rw [Int.fmod_eq_emod_of_nonneg _ (Int.le_of_lt h)]
  exact ⟨Int.emod_nonneg _ (by omega), Int.emod_lt_of_pos _ h⟩
theorem nz {j : Int} (h : decide (j = 0) = false) : j ≠ 0 := of_decide_eq_false h
theorem ok_mixed {f : Addr} {fd : FuncData} (F : Fun K "_law_mixed" "_law_mixed" sMixed f fd) (B : Bt mg) : FnOk P w K mg base CX0 1 f fd ["number"] spMixed := by
  refine F.ok scMixed (fun vs H Q E h => ?_) (fun cdv A outer s H vs Q E hr h => ?_)
  · obtain ⟨n, rfl, _⟩ := h
    rfl
  · obtain ⟨n, rfl, k⟩ := h
    have hI := B.int
    refine ⟨_, pss_cons (ps_set (i := 0) scMixed.nd rfl (.inl rfl) (pe_op op_modN (pe_callTy call_int1 (by rfl) hI boot_int (pa_cons (pe_op op_add (pe_op op_mul (pv 0) pe_int) pe_int) pa_nil)) pe_int))
      (pss_cons (ps_set (i := 0) scMixed.nd rfl (.inl rfl) (pe_op op_modN (pe_callTy call_int1 (by rfl) hI boot_int (pa_cons (pe_op op_add (pe_op op_mul (pv 0) (pe_op op_add (pe_op op_fdivN (pv 0) pe_int) pe_int)) pe_int) pa_nil)) pe_int))
      (pss_one (ps_ret (pe_op op_add (pe_op op_mul (pv 0) pe_int) (pe_op op_modN (pe_callTy call_int1 (by rfl) hI boot_int (pa_cons (pe_op op_add (pe_op op_mul (pv 0) (pe_op op_add (pe_op op_fdivN (pv 0) pe_int) pe_int)) pe_int) pa_nil)) pe_int))))), ?_⟩
    refine ⟨_, rfl, _, _, rfl, rfl, .inr (by decide), _, _, rfl, rfl, .inl ⟨_, rfl, _, _, rfl, rfl, nz rfl, ?_⟩⟩
    have b1 := fmod_lt (a := n * 48271 + 11) (b := 2147483647) (by decide)
    refine ⟨_, rfl, _, rfl, _, _, rfl, rfl, ⟨by decide, by decide⟩, _, _, rfl, rfl, _, _, rfl, rfl, .inl ⟨by omega, by omega⟩, _, _, rfl, rfl, .inl ⟨_, rfl, _, _, rfl, rfl, nz rfl, ?_⟩⟩
    have b2 := fmod_lt (a := (n * 48271 + 11).fmod 2147483647 * (((n * 48271 + 11).fmod 2147483647).fdiv 1009 + 69621) + 7919) (b := 2147483647) (by decide)
    refine ⟨_, rfl, _, _, rfl, rfl, .inl ⟨by omega, by omega⟩, _, rfl, _, rfl, _, _, rfl, rfl, ⟨by decide, by decide⟩, _, _, rfl, rfl, _, _, rfl, rfl, .inl ⟨by omega, by omega⟩, _, _, rfl, rfl, .inl ⟨_, rfl, _, _, rfl, rfl, nz rfl, ?_⟩⟩
    exact ⟨_, _, rfl, rfl, k _⟩
/-- a def of the text, found by its name -/
structure Df (K : PySem.W.Frag) (mg : Str → Option Value) (x : Str) (st : Stmt) (ps : List Str) (f : Addr) (fd : FuncData) : Prop where
  F : Fun K x x st f fd
  b : Binds K fd ps []
  g : mg x = some (.ref f)
def spFilled : Sp := fun vs H Q _ => ∃ wl : WA, vs = [.ref wl.w] ∧ Well H wl ∧ ∀ (r : Int) (H' : Hp), Drawn wl H H' → Q (.int r) H'
theorem scFilled : FnScope ["well", "cell"] ["well"] (defScope sFilled) := ⟨rfl, rfl, rfl, by decide +kernel, rfl, by decide +kernel, by decide +kernel⟩
theorem ok_filled {f fM : Addr} {fd fdM : FuncData} (F : Fun K "_law_filled" "_law_filled" sFilled f fd) (B : Bt mg) (DM : Df K mg "_law_mixed" sMixed ["number"] fM fdM) : FnOk P w K mg base CX0 2 f fd ["well"] spFilled := by
  have GM : FnOk P w K mg base CX0 1 fM fdM ["number"] spMixed := ok_mixed DM.F B
  refine F.ok scFilled (fun vs H Q E h => ?_) (fun cdv A outer s H vs Q E hr h => ?_)
  · obtain ⟨n, rfl, _⟩ := h
    rfl
  · obtain ⟨wl, rfl, W, k⟩ := h
    have hI := B.int
    have hL := B.len
    refine ⟨_, pss_cons (ps_asg (pe_op op_add (pe_ix ix_list (pv 0) pe_int (fun _ _ => rfl)) pe_int) (pg_sub (pv 0) pe_int set_list))
      (pss_cons (ps_if (pt_cmpR op_le (pe_ix ix_list (pv 0) pe_int (fun _ _ => rfl)) (pe_callB call_len_seq (by rfl) hL PySem.boot_len (pa_cons (pe_ix ix_list (pv 0) pe_int (fun _ _ => rfl)) pa_nil)) (nomark _))
        (pss_cons (ps_set (i := 1) scFilled.nd rfl (.inl rfl) (pe_ix ix_list (pe_ix ix_list (pv 0) pe_int (fun _ _ => rfl)) (pe_op op_sub (pe_ix ix_list (pv 0) pe_int (fun _ _ => rfl)) pe_int) (fun _ _ => rfl)))
          (pss_cons (ps_asg (pe_op op_modN (pe_callTy call_int1 (by rfl) hI boot_int (pa_cons (pe_op op_add (pe_op op_add (pe_op op_mul (pe_ix ix_list (pv 0) pe_int (fun _ _ => rfl)) pe_int) (pv 1)) pe_int) pa_nil)) pe_int) (pg_sub (pv 0) pe_int set_list))
            (pss_cons (ps_if (pt_cmpR op_ge (pv 1) (pe_op op_pow pe_int pe_int) (nomark _)) (pss_one (ps_ret (pv 1))) pss_nil)
              (pss_one (ps_ret (pe_call GM hr (by rfl) DM.g DM.F.kp DM.b .nil pass0 (pa_cons (pe_op op_add (pv 1) (pe_op op_mul pe_int (pe_ix ix_list (pv 0) pe_int (fun _ _ => rfl)))) pa_nil))))))) pss_nil)
      (pss_one (ps_ret (pe_call GM hr (by rfl) DM.g DM.F.kp DM.b .nil pass0 (pa_cons (pe_op op_add (pe_ix ix_list (pv 0) pe_int (fun _ _ => rfl)) (pe_op op_mul pe_int (pe_ix ix_list (pv 0) pe_int (fun _ _ => rfl)))) pa_nil))))), ?_⟩
    obtain ⟨wl, c⟩ := wl
    obtain ⟨cells, pos, rest, mix, h1, h2, n, l⟩ := W.ex
    dsimp only at h1 h2 n
    refine ⟨_, rfl, wl, _, _, _, rfl, rfl, SqL.of h1, atI_nat (j := 1) rfl, _, _, rfl, rfl, ?_⟩
    refine ⟨_, rfl, wl, _, _, _, rfl, rfl, h1, rfl, ?_⟩
    have u1 := upd_same (H := H) (a := wl) (o := .lst [.ref c, .int ((pos : Int) + 1), .int rest, .int mix])
    have u2 : upd H wl (.lst [.ref c, .int ((pos : Int) + 1), .int rest, .int mix]) c = some (.lst (cells.map V.int)) := by
      rw [upd_ne n]
      exact h2
    refine ⟨_, rfl, wl, _, _, _, rfl, rfl, SqL.of u1, atI_nat (j := 1) rfl, _, rfl, wl, _, _, _, rfl, rfl, SqL.of u1, atI_nat (j := 0) rfl, c, _, rfl, .inl (SqL.of u2), _, _, rfl, rfl, _, rfl, ?_⟩
    refine ite2 (fun q => ?_) (fun q => ?_)
    · have q1 : (pos : Int) + 1 ≤ ((cells.map V.int).length : Int) := of_decide_eq_true q
      rw [List.length_map] at q1
      have q2 : pos < cells.length := by omega
      have e1 : (cells.map V.int)[pos]? = some (.int cells[pos]) := by
        rw [List.getElem?_map, List.getElem?_eq_getElem q2]
        rfl
      refine ⟨_, rfl, wl, _, _, _, rfl, rfl, SqL.of u1, atI_nat (j := 0) rfl, _, rfl, wl, _, _, _, rfl, rfl, SqL.of u1, atI_nat (j := 1) rfl, _, _, rfl, rfl, c, _, _, _, rfl, rfl, SqL.of u2, at_of (by omega) e1, ?_⟩
      refine ⟨_, rfl, wl, _, _, _, rfl, rfl, SqL.of u1, atI_nat (j := 3) rfl, _, _, rfl, rfl, .inr (by decide), _, rfl, _, _, rfl, rfl, _, _, rfl, rfl, .inl ⟨_, rfl, _, _, rfl, rfl, nz rfl, ?_⟩⟩
      refine ⟨_, rfl, wl, _, _, _, rfl, rfl, u1, rfl, ?_⟩
      have D : ∀ z : Int, Drawn ⟨wl, c⟩ H (upd (upd H wl (.lst [.ref c, .int ((pos : Int) + 1), .int rest, .int mix])) wl (.lst [.ref c, .int ((pos : Int) + 1), .int rest, .int z])) := fun z => by
        rw [upd_upd]
        refine ⟨.updw, ⟨cells, pos + 1, rest, z, ?_, ?_, n, l⟩⟩
        · exact upd_same
        · rw [upd_ne n]
          exact h2
      refine ⟨_, rfl, _, _, rfl, rfl, ⟨by decide, by decide, by decide⟩, _, _, rfl, rfl, _, rfl, ite2 (fun q => ?_) (fun q => ?_)⟩
      · exact ⟨_, rfl, k _ _ (D _)⟩
      · refine ⟨_, rfl, _, rfl, wl, _, _, _, rfl, rfl, SqL.of upd_same, atI_nat (j := 1) rfl, _, _, rfl, rfl, .inl (by decide), _, _, rfl, rfl, ?_⟩
        exact ⟨_, rfl, fun r => k _ _ (D _)⟩
    · have D : Drawn ⟨wl, c⟩ H (upd H wl (.lst [.ref c, .int ((pos : Int) + 1), .int rest, .int mix])) := ⟨.updw, ⟨cells, pos + 1, rest, mix, upd_same, u2, n, l⟩⟩
      refine ⟨_, rfl, wl, _, _, _, rfl, rfl, SqL.of u1, atI_nat (j := 3) rfl, _, rfl, wl, _, _, _, rfl, rfl, SqL.of u1, atI_nat (j := 1) rfl, _, _, rfl, rfl, .inl (by decide), _, _, rfl, rfl, ?_⟩
      exact ⟨_, rfl, fun r => k _ _ D⟩
def spDraw : Sp := fun vs H Q _ => ∃ (wl : WA) (m : Int), vs = [.ref wl.w, .int m] ∧ Well H wl ∧ 0 < m ∧ m < 2 ^ 62 ∧ ∀ (d : Int) (H' : Hp), 0 ≤ d → d < m → Drawn wl H H' → Q (.int d) H'
theorem scDraw : FnScope ["well", "many", "told"] ["well", "many"] (defScope sDraw) := ⟨rfl, rfl, rfl, by decide +kernel, rfl, by decide +kernel, by decide +kernel⟩
theorem ok_draw {f fM fF : Addr} {fd fdM fdF : FuncData} (F : Fun K "_law_draw" "_law_draw" sDraw f fd) (B : Bt mg) (DM : Df K mg "_law_mixed" sMixed ["number"] fM fdM) (DF : Df K mg "_law_filled" sFilled ["well"] fF fdF) : FnOk P w K mg base CX0 3 f fd ["well", "many"] spDraw := by
  have GF : FnOk P w K mg base CX0 2 fF fdF ["well"] spFilled := ok_filled DF.F B DM
  refine F.ok scDraw (fun vs H Q E h => ?_) (fun cdv A outer s H vs Q E hr h => ?_)
  · obtain ⟨n, m, rfl, _⟩ := h
    rfl
  · obtain ⟨wl, m, rfl, W, m0, m1, k⟩ := h
    have hI := B.int
    refine ⟨_, Evl.pss_cut (ps_if (pt_cmpR op_eq (pe_ix ix_list (pv 0) pe_int (fun _ _ => rfl)) pe_int (nomark _)) (pss_one (ps_asg (pe_call GF hr (by rfl) DF.g DF.F.kp DF.b .nil pass0 (pa_cons (pv 0) pa_nil)) (pg_sub (pv 0) pe_int set_list))) pss_nil)
      (pss_cons (ps_set (i := 2) scDraw.nd rfl (.inl rfl) (pe_op op_modN (pe_callTy call_int1 (by rfl) hI boot_int (pa_cons (pe_ix ix_list (pv 0) pe_int (fun _ _ => rfl)) pa_nil)) (pv 1)))
      (pss_cons (ps_asg (pe_op op_fdivW (pe_callTy call_int1 (by rfl) hI boot_int (pa_cons (pe_ix ix_list (pv 0) pe_int (fun _ _ => rfl)) pa_nil)) (pv 1)) (pg_sub (pv 0) pe_int set_list))
      (pss_one (ps_ret (pv 2))))), ?_⟩
    refine ⟨fun σ' H' => σ' = [some (.ref wl.w), some (.int m), none] ∧ Drawn wl H H', ?_, ?_⟩
    · obtain ⟨cells, pos, rest, mix, h1, h2, n, l⟩ := W.ex
      refine ⟨_, rfl, wl.w, _, _, _, rfl, rfl, SqL.of h1, atI_nat (j := 2) rfl, rfl, _, rfl, ite2 (fun q => ?_) (fun q => ⟨rfl, .refl W⟩)⟩
      refine ⟨_, rfl, wl, rfl, W, fun r H1 D => ?_⟩
      obtain ⟨cells, pos, rest, mix, h1, h2, n, l⟩ := D.well.ex
      refine ⟨_, rfl, wl.w, _, _, _, rfl, rfl, h1, rfl, rfl, D.keep.trans .updw, cells, pos, r, mix, upd_same, ?_, n, l⟩
      rw [upd_ne n]
      exact h2
    · rintro σ' H1 ⟨rfl, D⟩
      obtain ⟨cells, pos, rest, mix, h1, h2, n, l⟩ := D.well.ex
      have b1 := fmod_lt (a := rest) m0
      refine ⟨_, rfl, wl.w, _, _, _, rfl, rfl, SqL.of h1, atI_nat (j := 2) rfl, .inl ⟨_, rfl, _, rfl, _, _, rfl, rfl, (by show m ≠ 0; omega), ?_⟩⟩
      refine ⟨_, rfl, wl.w, _, _, _, rfl, rfl, SqL.of h1, atI_nat (j := 2) rfl, .inl ⟨_, rfl, _, rfl, _, _, rfl, rfl, wide_div m0 (b := 62) (by omega) (by decide) (by decide), ?_⟩⟩
      refine ⟨_, rfl, wl.w, _, _, _, rfl, rfl, h1, rfl, ?_⟩
      refine ⟨_, rfl, k _ _ b1.1 b1.2 ⟨D.keep.trans .updw, cells, pos, _, mix, upd_same, ?_, n, l⟩⟩
      rw [upd_ne n]
      exact h2
end
end Hs
namespace Hs
open PySem PySem.Spec PyProof.Rows L2
abbrev sIsInt : Stmt := topS 10
abbrev sFromOne : Stmt := topS 12
abbrev sPair : Stmt := topS 13
abbrev sIsSigns : Stmt := topS 14
abbrev sAscending : Stmt := topS 15
abbrev sHome : Stmt := topS 16
abbrev sHand : Stmt := topS 17
abbrev sName : Stmt := topS 18
abbrev sText : Stmt := topS 999
abbrev sPiece : Stmt := topS 19
abbrev sBlockId : Stmt := topS 20
abbrev sRow : Stmt := topS 21
abbrev sStamp : Stmt := topS 22
abbrev sHead : Stmt := topS 999
abbrev sMembers : Stmt := topS 23
abbrev sMajority : Stmt := topS 999
abbrev sFew : Stmt := topS 999
abbrev sChopped : Stmt := topS 999
abbrev sJoined : Stmt := topS 999
abbrev lNumber : Stmt := topS 89
abbrev sSigns : Stmt := topS 90
abbrev sString : Stmt := topS 91
abbrev lName : Stmt := topS 92
abbrev lAny : Stmt := topS 999
abbrev lNodes : Stmt := topS 999
abbrev lChanged : Stmt := topS 999
abbrev lSpoilt : Stmt := topS 999
abbrev lId : Stmt := topS 94
abbrev lStamp : Stmt := topS 95
abbrev lRow : Stmt := topS 96
abbrev lMembers : Stmt := topS 97
abbrev lCount : Stmt := topS 999
abbrev lLong : Stmt := topS 999
abbrev lRising : Stmt := topS 999
abbrev lNameFits : Stmt := topS 999
abbrev lHandFits : Stmt := topS 999
abbrev lSignsFit : Stmt := topS 999
abbrev lIdFits : Stmt := topS 999
abbrev lStampFits : Stmt := topS 999
abbrev lRowFits : Stmt := topS 999
abbrev lMembersFit : Stmt := topS 999
abbrev lThing : Stmt := topS 999
abbrev lFlagsDue : Stmt := topS 999
abbrev lFlagsTold : Stmt := topS 999
abbrev lCounted : Stmt := topS 999
abbrev lMembersHold : Stmt := topS 999
abbrev lTextRefused : Stmt := topS 999
abbrev lPiecesRefused : Stmt := topS 999
abbrev lPiecesFit : Stmt := topS 999
abbrev lLaw : Stmt := topS 111
/-- an own error class without an __init__, over ValueError -/
structure Ec (K : PySem.W.Frag) (mg : Str → Option Value) (x : Str) (C : Addr) : Prop where
  g : mg x = some (.ref C)
  x : PySem.W.excIn K C [.type "ValueError", .type "Exception", .type "BaseException", .type "object"] "ValueError.__new__" = true
  k : PySem.W.keepIn K (.ref C) = true
  b : PySem.W.subIn K (.ref C) (.type "BaseException") = some true
  t : PySem.W.typeIn K (.ref C) = some (.type "type")
  e : PySem.W.exmOne K (.ref C) (.ref C) = some true
section
variable {X : Cx} {C : Addr} {bmB : List Value} {B newId initId : String}
/-- X() -/
theorem pmk_own0 {x : Str} {p pos : Pos} (F : ExcBaseFacts B newId initId bmB) (q : PySem.W.excIn X.K C bmB newId = true) (gC : X.mg x = some (.ref C)) (kC : PySem.W.keepIn X.K (.ref C) = true) (r : Raises X (.ref C)) (hg : Gl X x)
    (hdb : (x == ("__debug__" : Str)) = false := by decide) : PMk X (.Call (.Name x p) [] [] pos) (fun _ H Q => Q (.ref C) none H) := by
  intro pins s σ H Q I h
  refine wpAny_Call_Name_kw (ld_glob I hg gC ?_ hdb)
  refine PySem.W.callWith_K0 I.kIn kC ?_
  show wpAny _ _ (call (.ref C) []) _ _ _
  obtain ⟨bm, N, nm, qn, bs, hdct, sn, sub, ab, col, dd, k0, k1, k2, k3, k5, mN, hC, hN, hni, T⟩ := exc_obj I.kIn q
  refine wpAny_call_exc_subT F T hC hN hni (fun h' e hm => ?_) (Nat.zero_le _)
  exact mk_of I hm r h (I.hok.gone hm.new)
end
/-! ### signs -/
def okc (c : Nat) : Bool := decide (32 ≤ c) && decide (c ≤ 126)
def okz (z : Str) : Bool := (TL.tl z).all okc
theorem lt1 (a b : Nat) : decide (([a] : List Nat) < [b]) = decide (a < b) := by
  by_cases h : a < b
  · rw [decide_eq_true h]
    exact decide_eq_true (List.cons_lt_cons_iff.mpr (.inl h))
  · rw [decide_eq_false h]
    refine decide_eq_false fun q => ?_
    rcases List.cons_lt_cons_iff.mp q with q | ⟨_, q⟩
    · exact h q
    · exact absurd q (List.not_lt_nil _)
theorem not_lt1 (a b : Nat) : (!decide (([b] : List Nat) < [a])) = decide (a ≤ b) := by
  rw [lt1]
  by_cases h : b < a
  · rw [decide_eq_true h, decide_eq_false (by omega)]
    rfl
  · rw [decide_eq_false h, decide_eq_true (by omega)]
    rfl
def bit : Nat := 1000000
theorem bit_line : bit < sizeLine := by
  rw [sizeLine_eq]
  decide
theorem boot_str : bootBuiltins "str" = some (.type "str") := by decide +kernel
theorem boot_tuple' : bootBuiltins "tuple" = some (.type "tuple") := by decide +kernel
theorem boot_isi : bootBuiltins "isinstance" = some (.builtin "isinstance") := by decide +kernel
theorem boot_all' : bootBuiltins "all" = some (.builtin "all") := by decide +kernel
theorem kit_ss : kitB "str" "str" = some true := by decide +kernel
theorem codes_get {z : Str} {i c : Nat} (h : z.cps[i]? = some c) : (TL.tl z)[i]? = some c := by
  show z.cps.toList[i]? = some c
  rw [Array.getElem?_toList]
  exact h
section
variable {P : Program} {w : World} {K : PySem.W.Frag} {mg : Str → Option Value} {base : Heap}
/-! ### the law's signs -/
def signsZ : Str := (" !\"#$&'()*+,-./0123456789:;<=>?@ABCDEFGHIJKLMNOPQRSTUVWXYZ[\\]^_`" : Str) ++ ("abcdefghijklmnopqrstuvwxyz{|}~" : Str)
def okS (c : Nat) : Bool := okc c && decide (c ≠ 37)
theorem signs_len : (TL.tl signsZ).length = 94 := by decide +kernel
theorem signs_ok : (TL.tl signsZ).all okS = true := by decide +kernel
theorem scSigns : FnScope ["signs"] [] (defScope sSigns) := ⟨rfl, rfl, rfl, by decide +kernel, rfl, by decide +kernel, by decide +kernel⟩
def spSigns : Sp := fun vs H Q _ => vs = [] ∧ Q (.str signsZ) H
theorem ok_signs {f : Addr} {fd : FuncData} (F : Fun K "_law_signs" "_law_signs" sSigns f fd) : FnOk P w K mg base CX0 1 f fd [] spSigns := by
  refine F.ok scSigns (fun vs H Q E h => ?_) (fun cdv A outer s H vs Q E hr h => ?_)
  · rw [h.1]
    rfl
  · obtain ⟨rfl, k⟩ := h
    refine ⟨_, pss_cons (ps_set (i := 0) scSigns.nd rfl (.inl rfl) pe_str) (pss_one (ps_ret (pe_op op_add_str (pv 0) pe_str))), ?_⟩
    exact ⟨_, rfl, _, _, rfl, rfl, (by rw [sizeLine_eq]; decide +kernel), k⟩
/-- a text of signs but the percent sign -/
def lawz (z : Str) : Prop := ∀ c ∈ TL.tl z, okS c = true
theorem lawz.ok {z : Str} (h : lawz z) : okz z = true := List.all_eq_true.mpr fun c hc => by
  have := h c hc
  unfold okS at this
  rw [Bool.and_eq_true] at this
  exact this.1
theorem sgn_tl (c : Nat) : TL.tl (⟨#[c]⟩ : Str) = [c] := rfl
theorem join_tl (zs : List Str) : TL.tl (Txt.join ("" : Str) zs) = (zs.map TL.tl).flatten := by
  rw [TL.join_eq, TL.tl_join]
  have e : TL.tl ("" : Str) = [] := rfl
  rw [e]
  generalize zs.map TL.tl = l
  induction l with
  | nil => rfl
  | cons p r ih =>
    cases r with
    | nil => simp [TL.joinL]
    | cons q r =>
      show p ++ ([] ++ TL.joinL [] (q :: r)) = _
      rw [ih]
      rfl
def spString : Sp := fun vs H Q _ => ∃ (wl : WA) (m : Int), vs = [.ref wl.w, .int m] ∧ Well H wl ∧ m ≤ 1000 ∧ -1000 ≤ m ∧ ∀ (z : Str) (H' : Hp), z.length = m.toNat → lawz z → Drawn wl H H' → Q (.str z) H'
theorem scString : FnScope ["well", "many", "signs", "k"] ["well", "many"] (defScope sString) := ⟨rfl, rfl, rfl, by decide +kernel, rfl, by decide +kernel, by decide +kernel⟩
/-- the defs that draw -/
structure Dr (P : Program) (w : World) (K : PySem.W.Frag) (mg : Str → Option Value) (base : Heap) (fM fF fD fG fT : Addr) (dM dF dD dG dT : FuncData) : Prop where
  M : Df K mg "_law_mixed" sMixed ["number"] fM dM
  F : Df K mg "_law_filled" sFilled ["well"] fF dF
  D : Df K mg "_law_draw" sDraw ["well", "many"] fD dD
  G : Df K mg "_law_signs" sSigns [] fG dG
  T : Df K mg "_law_string" sString ["well", "many"] fT dT
  B : Bt mg
theorem cell_strs {D : Addr} {H : Hp} {zs : List Str} (h : H D = some (.lst (zs.map V.str))) : SqL K H D (zs.map V.str) := SqL.of h
theorem ok_string {fM fF fD fG fT : Addr} {dM dF dD dG dT : FuncData} (R : Dr P w K mg base fM fF fD fG fT dM dF dD dG dT) : FnOk P w K mg base CX0 4 fT dT ["well", "many"] spString := by
  have GD : FnOk P w K mg base CX0 3 fD dD ["well", "many"] spDraw := ok_draw R.D.F R.B R.M R.F
  have GG : FnOk P w K mg base CX0 3 fG dG [] spSigns := (ok_signs R.G.F).mono (by decide)
  refine R.T.F.ok scString (fun vs H Q E h => ?_) (fun cdv A outer s H vs Q E hr h => ?_)
  · obtain ⟨n, m, rfl, _⟩ := h
    rfl
  · obtain ⟨wl, m, rfl, W, m1, m2, k⟩ := h
    have hR := R.B.range
    refine ⟨_, pss_cons (ps_set (i := 2) scString.nd rfl (.inr rfl) (pe_call0 GG hr (by rfl) R.G.g R.G.F.kp R.G.b .nil pass0))
      (pss_one (ps_ret (pe_join pe_str (pe_lc (own := [("k", 3)]) (g := gName 3) (tt := tYes) rfl scString.nd (pi_range1 (by rfl) hR (pa_cons (pv 1) pa_nil)) (blkOk_by (N := ["well", "many", "signs", "k"]) (sc := defScope sString) (by decide +kernel))
        (fun _ _ _ _ _ => pg_name (i := 3) scString.nd rfl (Or.inl rfl)) (fun _ _ _ _ _ => pts_nil)
        (fun _ _ _ _ _ => pe_ix ix_str (pv 2) (pe_call GD hr (by rfl) R.D.g R.D.F.kp R.D.b .nil pass0 (pa_cons (pv 0) (pa_cons pe_int pa_nil))) (fun _ _ => rfl)))))), ?_⟩
    refine ⟨rfl, ⟨_, rfl⟩, _, rfl, m, rfl, by omega, by omega, fun D hD => ?_⟩
    refine lc_range (lo := 0) (n := m.toNat) (fun i H' => Drawn wl H H' ∧ ∃ zs : List Str, H' D = some (.lst (zs.map V.str)) ∧ zs.length = i ∧ ∀ z ∈ zs, ∃ c, z = ⟨#[c]⟩ ∧ okS c = true)
      ⟨(Drawn.refl W).new hD, [], upd_same, rfl, fun z hz => by cases hz⟩ ?_ ?_
    · rintro i H1 hi ⟨D1, zs, hz, hl, hc⟩
      have nD := (W.ne hD).1
      refine ⟨rfl, _, rfl, _, rfl, wl, 94, rfl, D1.well, by decide, by decide, fun d H2 d0 d1 D2 => ?_⟩
      have hd : d.toNat < (TL.tl signsZ).length := by
        rw [signs_len]
        omega
      have ho : okS (TL.tl signsZ)[d.toNat] = true := List.all_eq_true.mp signs_ok _ (List.getElem_mem hd)
      refine ⟨signsZ, d, (TL.tl signsZ)[d.toNat], rfl, rfl, ?_, ?_, zs.map V.str, D2.keep D _ nD hz, ?_, ?_⟩
      · rw [TL.len_tl, signs_len, sizeLine_eq]
        decide
      · have e : d = ((d.toNat : Nat) : Int) := by omega
        have hg : (TL.tl signsZ)[d.toNat]? = some (TL.tl signsZ)[d.toNat] := List.getElem?_eq_getElem hd
        have := atI_nat hg
        rw [← e] at this
        exact this
      · rw [List.length_map]
        have := bit_line
        unfold bit at this
        omega
      · refine ⟨(D1.trans D2).put W hD, zs ++ [⟨#[(TL.tl signsZ)[d.toNat]]⟩], ?_, ?_, ?_⟩
        · rw [upd_same, List.map_append]
          rfl
        · rw [List.length_append, hl]
          rfl
        · intro z hz
          rcases List.mem_append.mp hz with hz | hz
          · exact hc z hz
          · exact ⟨_, List.mem_singleton.mp hz, ho⟩
    · rintro H1 ⟨D1, zs, hz, hl, hc⟩
      have hs : ∀ l : List Str, (∀ z ∈ l, ∃ c, z = ⟨#[c]⟩ ∧ okS c = true) → (l.map (·.length)).sum = l.length ∧ ((l.map TL.tl).flatten).length = l.length ∧ ∀ c ∈ (l.map TL.tl).flatten, okS c = true := by
        intro l
        induction l with
        | nil => exact fun _ => ⟨rfl, rfl, fun c hc => by cases hc⟩
        | cons a r ih =>
          intro h
          obtain ⟨i1, i2, i3⟩ := ih fun z hz => h z (List.mem_cons_of_mem _ hz)
          obtain ⟨c, ec, oc⟩ := h a List.mem_cons_self
          subst ec
          refine ⟨?_, ?_, ?_⟩
          · rw [List.map_cons, List.sum_cons, i1, List.length_cons]
            show 1 + r.length = r.length + 1
            omega
          · show (TL.tl (⟨#[c]⟩ : Str) ++ (r.map TL.tl).flatten).length = _
            rw [sgn_tl, List.length_append, i2, List.length_cons]
            show 1 + r.length = r.length + 1
            omega
          · intro b hb
            have hb' : b ∈ TL.tl (⟨#[c]⟩ : Str) ++ (r.map TL.tl).flatten := hb
            rcases List.mem_append.mp hb' with hb | hb
            · rw [sgn_tl] at hb
              rw [List.mem_singleton.mp hb]
              exact oc
            · exact i3 b hb
      obtain ⟨h1, h2, h3⟩ := hs zs hc
      refine ⟨_, D, zs, rfl, rfl, .inl (SqL.of hz), ?_, k _ _ ?_ ?_ D1⟩
      · show (zs.map (·.length)).sum + zs.length * 0 ≤ 16777216
        omega
      · rw [TL.len_tl, join_tl, h2, hl]
      · intro c hc
        rw [join_tl] at hc
        exact h3 c hc
/-! ### the well -/
def spWell (K : PySem.W.Frag) : Sp := fun vs H Q _ => ∃ (a : Addr) (ns : List Int), vs = [.ref a] ∧ SqL K H a (ns.map V.int) ∧ ∀ (wl : WA) (H' : Hp), Same H H' → Well H' wl → Q (.ref wl.w) H'
theorem scWell : FnScope ["script", "cell"] ["script"] (defScope sWell) := ⟨rfl, rfl, rfl, by decide +kernel, rfl, by decide +kernel, by decide +kernel⟩
theorem ok_well {f : Addr} {fd : FuncData} (F : Fun K "_law_well" "_law_well" sWell f fd) (B : Bt mg) : FnOk P w K mg base CX0 1 f fd ["script"] (spWell K) := by
  refine F.ok scWell (fun vs H Q E h => ?_) (fun cdv A outer s H vs Q E hr h => ?_)
  · obtain ⟨n, m, rfl, _⟩ := h
    rfl
  · obtain ⟨a, ns, rfl, hS, k⟩ := h
    have hI := B.int
    refine ⟨_, pss_one (ps_ret (pe_lst (pa_cons (pe_lc (own := [("cell", 1)]) (g := gName 1) (tt := tYes) rfl scWell.nd (pi_list (pe_slice sl_list (pv 0) po_none (po_some pe_int))) (blkOk_by (N := ["script", "cell"]) (sc := defScope sWell) (by decide +kernel))
        (fun _ _ _ _ _ => pg_name (i := 1) scWell.nd rfl (Or.inl rfl)) (fun _ _ _ _ _ => pts_nil) (fun _ _ _ _ _ => pe_callTy call_int1 (by rfl) hI boot_int (pa_cons (pv 1) pa_nil)))
      (pa_cons pe_int (pa_cons pe_int (pa_cons pe_int pa_nil)))))), ?_⟩
    refine ⟨_, rfl, _, rfl, a, _, rfl, hS, fun p hp => ?_⟩
    have ec : cutV (ns.map V.int) none (some 63) = (ns.take 63).map V.int := by
      unfold cutV
      rw [HT.sIx_none, show HT.sIx (ns.map V.int).length (ns.map V.int).length (some 63) = min 63 (ns.map V.int).length from HT.sIx_nat _ _ 63]
      show List.take (min 63 (ns.map V.int).length - 0) (List.drop 0 (ns.map V.int)) = _
      rw [List.drop_zero, Nat.sub_zero, List.map_take, List.take_eq_take_iff]
      omega
    rw [ec]
    have l63 : (ns.take 63).length ≤ 63 := by
      rw [List.length_take]
      omega
    clear ec
    generalize ns.take 63 = cs at l63
    have s1 : Same H (upd H p (.lst (cs.map V.int))) := same_upd hp
    refine ⟨p, rfl, ⟨_, SqL.of upd_same⟩, fun D hD => ?_⟩
    have nDp : p ≠ D := ne_of_none upd_same hD
    refine lc_list (K := K) (a := p) (xs := cs.map V.int) (fun i H' => Same H H' ∧ H' p = some (.lst (cs.map V.int)) ∧ H' D = some (.lst ((cs.take i).map V.int)))
      ⟨s1.trans (same_upd hD), by rw [upd_ne nDp, upd_same], upd_same⟩ (fun i H' _ p => SqL.of p.2.1) ?_ ?_
    · rintro i x H1 hi ⟨sm, h1, h2⟩
      rw [List.getElem?_map] at hi
      cases e : cs[i]? with
      | none =>
        rw [e] at hi
        cases hi
      | some n =>
        rw [e] at hi
        have ex := Option.some.inj hi
        subst ex
        have hl := (List.getElem?_eq_some_iff.mp e).1
        refine ⟨rfl, _, rfl, .inl ⟨_, rfl, _, h2, ?_, fun b o hb => ?_, ?_, ?_⟩⟩
        · rw [List.length_map, List.length_take]
          have := bit_line
          unfold bit at this
          omega
        · rw [upd_ne (ne_of_none hb (s1.free hD))]
          exact sm _ _ hb
        · rw [upd_ne nDp]
          exact h1
        · rw [upd_same, List.take_add_one, e, List.map_append]
          rfl
    · rintro H1 ⟨sm, h1, h2⟩
      rw [List.length_map, List.take_length] at h2
      refine ⟨by show 4 ≤ sizeLine; decide, fun q hq => ?_⟩
      have nDq : D ≠ q := ne_of_none h2 hq
      refine k ⟨q, D⟩ _ (sm.trans (same_upd hq)) ⟨cs, 0, 0, 1, ?_, ?_, nDq, l63⟩
      · exact upd_same
      · rw [upd_ne nDq]
        exact h2
end
end Hs
/-! what is true of any value: read as values -/
namespace Hu
open PySem
mutual
/-- how long it is when shown, at most -/
def wt : U → Nat
  | .non => 4
  | .bl _ => 5
  | .int _ => 80
  | .str z => 2 * z.length + 2
  | .tup us => wtL us + 3
  | .lst us => wtL us + 2
  | .dct us => wtL us + 30
  | .exc => 30
def wtL : List U → Nat
  | [] => 0
  | u :: us => wt u + 2 + wtL us
end
mutual
/-- its signs are a text's or line feeds, its integers small -/
def clean : U → Prop
  | .int i => i.natAbs < 2 ^ 65
  | .str z => ∀ c ∈ TL.tl z, Hs.okS c = true ∨ c = 10
  | .tup us | .lst us | .dct us => cleanL us
  | _ => True
def cleanL : List U → Prop
  | [] => True
  | u :: us => clean u ∧ cleanL us
end
structure Fine (u : U) : Prop where
  w : wt u ≤ 1000000
  c : clean u
theorem wt_pos : ∀ u : U, 1 ≤ wt u := fun u => by cases u <;> simp only [wt] <;> omega
theorem wt_mem : ∀ {us : List U} {u : U}, u ∈ us → wt u ≤ wtL us
  | _ :: us, _, .head _ => by simp only [wtL]; omega
  | _ :: us, _, .tail _ h => by have := wt_mem h; simp only [wtL]; omega
theorem wt_len : ∀ us : List U, 2 * us.length ≤ wtL us
  | [] => Nat.zero_le _
  | u :: us => by have := wt_len us; simp only [wtL, List.length_cons]; omega
theorem clean_mem : ∀ {us : List U} {u : U}, cleanL us → u ∈ us → clean u
  | _ :: _, _, h, .head _ => h.1
  | _ :: _, _, h, .tail _ q => clean_mem h.2 q
theorem Fine.tup {us : List U} (h : Fine (.tup us)) : ∀ u ∈ us, Fine u := fun u hu => ⟨by have := h.w; have := wt_mem hu; simp only [wt] at *; omega, clean_mem (by simpa only [clean] using h.c) hu⟩
theorem Fine.len {us : List U} (h : Fine (.tup us)) : us.length ≤ 500000 := by
  have := h.w
  have := wt_len us
  simp only [wt] at *
  omega
theorem Fine.str {z : Str} (h : Fine (.str z)) : z.length ≤ 500000 := by
  have := h.w
  simp only [wt] at *
  omega
theorem isT_int {u : U} (h : (isT u "int" && !isT u "bool") = true) : ∃ i, u = .int i := by
  cases u with
  | int i => exact ⟨i, rfl⟩
  | _ => simp [isT, isS, tyU] at h
theorem isT_str {u : U} (h : isT u "str" = true) : ∃ z, u = .str z := by
  cases u with
  | str z => exact ⟨z, rfl⟩
  | _ => simp [isT, isS, tyU] at h
theorem isT_tup {u : U} (h : isT u "tuple" = true) : ∃ us, u = .tup us := by
  cases u with
  | tup us => exact ⟨us, rfl⟩
  | _ => simp [isT, isS, tyU] at h
end Hu
namespace Hs
open PySem PySem.Spec PyProof.Rows L2 Hu
section
variable {K : PySem.W.Frag} {σ : L2.St} {H H' : Hp} {ta tb tc te tl : TE} {r r' : R2} {x y z v : V} {w C : Addr} {u : U} {us : List U} {xs : List V}
open Evl
theorem ex_at (e : Ex H H') (h : At w C H v u) : At w C H' v u := h.keep fun b o _ q => e b o q
theorem ex_atl (e : Ex H H') (h : AtL w C H xs us) : AtL w C H' xs us := h.keep fun b o _ q => e b o q
theorem ev_chain {a b : Bool} (ha : Ev ta σ H x) (hb : Ev tb σ H y) (hc : Ev tc σ H z) (h1 : RV r x y H (.bl a)) (h2 : a = true → RV r' y z H (.bl b)) : Ev (tChain r r' ta tb tc) σ H (.bl (a && b)) := fun H1 e Q q =>
  ha H1 e _ fun H2 e2 => hb H2 (e.trans e2) _ fun H3 e3 => h1 H3 ((e.trans e2).trans e3) _ fun H4 e4 => ⟨a, rfl, by
    cases a with
    | false => exact q H4 ((e2.trans e3).trans e4)
    | true => exact hc H4 (((e.trans e2).trans e3).trans e4) _ fun H5 e5 => h2 rfl H5 ((((e.trans e2).trans e3).trans e4).trans e5) _ fun H6 e6 => q H6 ((((e2.trans e3).trans e4).trans e5).trans e6)⟩
theorem rv_le {i j : Int} : RV (rI0 fun i j => .bl (decide (i ≤ j))) (.int i) (.int j) H (.bl (decide (i ≤ j))) := rv_I0
abbrev rIsi (C : Addr) (T : String) : List V → Hp → VK → Prop := fun xs H Q => ∃ (v : V) (u : U) (w : Addr), xs = [v, .ty T] ∧ At w C H v u ∧ Q (.bl (isT u T)) H
theorem ev_isi {T : String} (h : Ev te σ H v) (hat : At w C H v u) : Ev (tCB (rIsi C T) (tCons te (tCons (tC (.ty T)) tNil))) σ H (.bl (isT u T)) :=
  ev_cb (ea_cons h (ea_cons ev_c ea_nil)) fun H1 e Q q => ⟨v, u, w, rfl, ex_at e hat, q H1 (Ex.refl H1)⟩
abbrev rLenQ (K : PySem.W.Frag) : List V → Hp → VK → Prop := fun xs H Q => ∃ p ys, xs = [.ref p] ∧ (SqL K H p ys ∨ SqT K H p ys) ∧ Q (.int ys.length) H
theorem ev_lenT {a : Addr} (h : Ev te σ H (.ref a)) (hx : H a = some (.tup xs)) : Ev (tCB (rLenQ K) (tCons te tNil)) σ H (.int (xs.length : Int)) :=
  ev_cb (ea_cons h ea_nil) fun H1 e Q q => ⟨a, xs, rfl, .inr (st_of (e _ _ hx)), q H1 (Ex.refl H1)⟩
abbrev rLenZ : List V → Hp → VK → Prop := fun xs H Q => ∃ z : Str, xs = [.str z] ∧ z.length ≤ sizeLine ∧ Q (.int z.length) H
theorem ev_lenS {z : Str} (h : Ev te σ H (.str z)) (hz : z.length ≤ sizeLine) : Ev (tCB rLenZ (tCons te tNil)) σ H (.int (z.length : Int)) :=
  ev_cb (ea_cons h ea_nil) fun H1 e Q q => ⟨z, rfl, hz, q H1 (Ex.refl H1)⟩
theorem ev_ixT {a : Addr} {j : Nat} (h : Ev te σ H (.ref a)) (hx : H a = some (.tup xs)) (hj : xs[j]? = some v) : Ev (tOp (rIxT K) te (tC (.int (j : Int)))) σ H v :=
  ev_op h ev_c (rv_ixT (st_of hx) (atI_nat hj))
theorem et_yes : EvT tYes σ H true := fun H1 _ Q q => q H1 (Ex.refl H1)
theorem len_fine {n : Nat} (h : n ≤ 1000000) : n ≤ sizeLine := Nat.le_trans h (Nat.le_of_lt bit_line)
/-- all([f(x) for x in a tuple]) -/
theorem ev_allT {a : Addr} {j : Nat} {vs : List Nat} {g : U → Bool} (h : Ev tl σ H (.ref a)) (hx : H a = some (.tup xs)) (hz : us.length ≤ 500000) (hl : AtL w C H xs us) (hw : ∀ x, wipe ((wipe σ vs).set j (some x)) vs = wipe σ vs)
    (he : ∀ (x : V) (u : U), u ∈ us → At w C H x u → Ev te ((wipe σ vs).set j (some x)) H (.bl (g u))) :
    Ev (tCB (rAll K) (tCons (tLc (iTup K tl) (gName j) tYes te vs) tNil)) σ H (.bl (us.all g)) := fun H0 e Q q => h H0 e _ fun H1 e1 => ⟨a, rfl, ⟨xs, st_of ((e.trans e1) _ _ hx)⟩, fun Dl hD =>
  lc_tup (xs := xs) (fun i H' => Ex H1 H' ∧ H' Dl = some (.lst ((us.take i).map fun u => V.bl (g u)))) ⟨Ex.new hD, upd_same⟩ (fun i H' _ p => st_of (((e.trans e1).trans p.1) _ _ hx)) (fun i x H2 hi p => by
    obtain ⟨p1, p2⟩ := p
    have hlen := AtL.length hl
    have hu : i < us.length := by
      have := (List.getElem?_eq_some_iff.mp hi).1
      omega
    obtain ⟨x', hx', hax⟩ := AtL.get hl (List.getElem?_eq_getElem hu)
    rw [hi] at hx'
    cases hx'
    refine ⟨hw x, he x us[i] (List.getElem_mem hu) hax H2 ((e.trans e1).trans p1) _ fun H3 e3 => ⟨_, e3 _ _ p2, ?_, fun q o hq => ?_, ?_⟩⟩
    · rw [List.length_map, List.length_take]
      have := bit_line
      unfold bit at this
      omega
    · rw [upd_ne (ne_of_none hq hD)]
      exact e3 _ _ (p1 _ _ hq)
    · rw [upd_same, List.take_add_one, List.getElem?_eq_getElem hu, List.map_append]
      rfl) (fun H' p => ⟨Dl, us.map g, rfl, sq_of (by
        rw [p.2, AtL.length hl, List.take_length, List.map_map]
        rfl), by
        have e2 : (us.map g).all id = us.all g := by
          rw [List.all_map]
          rfl
        rw [e2]
        exact q _ (e1.trans p.1)⟩)⟩
/-- all([f(c) for c in a string]) -/
theorem ev_allS {z : Str} {j : Nat} {vs : List Nat} {g : Nat → Bool} (h : Ev tl σ H (.str z)) (hz : z.length ≤ 500000) (hw : ∀ x, wipe ((wipe σ vs).set j (some x)) vs = wipe σ vs)
    (he : ∀ c ∈ TL.tl z, Ev te ((wipe σ vs).set j (some (.str ⟨#[c]⟩))) H (.bl (g c))) :
    Ev (tCB (rAll K) (tCons (tLc (iStr tl) (gName j) tYes te vs) tNil)) σ H (.bl ((TL.tl z).all g)) := fun H0 e Q q => h H0 e _ fun H1 e1 => ⟨z, rfl, fun Dl hD =>
  lc_it walk_str (fun i H' => Ex H1 H' ∧ H' Dl = some (.lst (((TL.tl z).take i).map fun u => V.bl (g u)))) ⟨Ex.new hD, upd_same⟩ (fun _ _ _ _ => True.intro) (fun i x H2 H2' hi p y => by
    obtain ⟨p1, p2⟩ := p
    obtain ⟨rfl, c, hc, rfl⟩ := y
    have hc' := codes_get hc
    have hl : i < (TL.tl z).length := (List.getElem?_eq_some_iff.mp hc').1
    refine ⟨hw _, he c (List.mem_of_getElem? hc') H2' ((e.trans e1).trans p1) _ fun H3 e3 => ⟨_, e3 _ _ p2, ?_, fun q o hq => ?_, ?_⟩⟩
    · rw [List.length_map, List.length_take]
      have := bit_line
      unfold bit at this
      have hq := TL.len_tl z
      omega
    · rw [upd_ne (ne_of_none hq hD)]
      exact e3 _ _ (p1 _ _ hq)
    · rw [upd_same, List.take_add_one, hc', List.map_append]
      rfl) (fun H' p => ⟨Dl, (TL.tl z).map g, rfl, sq_of (by
        rw [p.2, show z.cps.size = (TL.tl z).length from (TL.len_tl z).symm, List.take_length, List.map_map]
        rfl), by
        have e2 : ((TL.tl z).map g).all id = (TL.tl z).all g := by
          rw [List.all_map]
          rfl
        rw [e2]
        exact q _ (e1.trans p.1)⟩)⟩
end
/-! ### judges: a flag of any value, nothing is changed -/
def spJ (C : Addr) (g : U → Bool) : Sp := fun vs H Q _ => ∃ (v : V) (u : U) (w : Addr), vs = [v] ∧ At w C H v u ∧ Fine u ∧ ∀ H', Same H H' → Q (.bl (g u)) H'
structure Jd (P : Program) (w : World) (K : PySem.W.Frag) (mg : Str → Option Value) (base : Heap) (C : Addr) (k : Nat) (x : Str) (p : Str) (f : Addr) (fd : FuncData) (g : U → Bool) : Prop where
  ok : FnOk P w K mg base CX0 k f fd [p] (spJ C g)
  g : mg x = some (.ref f)
  kp : PySem.W.keepIn K (.ref f) = true
  b : Binds K fd [p] []
section
variable {P : Program} {wd : World} {K : PySem.W.Frag} {mg : Str → Option Value} {base : Heap} {C : Addr}
theorem Jd.imp {x p : Str} {k : Nat} {f : Addr} {fd : FuncData} {g g' : U → Bool} (J : Jd P wd K mg base C k x p f fd g) (h : ∀ u, Fine u → g u = g' u) : Jd P wd K mg base C k x p f fd g' :=
  ⟨J.ok.imp fun vs H Q E ⟨v, u, w, e, a, fi, q⟩ => ⟨v, u, w, e, a, fi, fun H' s => by rw [h u fi]; exact q H' s⟩, J.g, J.kp, J.b⟩
theorem spv_J {g : U → Bool} {H : Hp} {v : V} {u : U} {w : Addr} (hat : At w C H v u) (fi : Fine u) : Evl.SpV (spJ C g) [v] H (.bl (g u)) := fun H1 e Q q E => ⟨v, u, w, rfl, ex_at e hat, fi, q⟩
theorem ev_J {g : U → Bool} {H : Hp} {v : V} {u : U} {w : Addr} {σ : L2.St} {te : TE} {E : XK} (h : Evl.Ev te σ H v) (hat : At w C H v u) (fi : Fine u) : Evl.Ev (tCall (spJ C g) [] E (tCons te tNil)) σ H (.bl (g u)) :=
  Evl.ev_call (Evl.ea_cons h Evl.ea_nil) (spv_J hat fi)
theorem lenJ {g : U → Bool} {p : Str} : ∀ vs H Q E, spJ C g vs H Q E → vs.length = [p].length := fun vs H Q E h => by
  obtain ⟨v, u, w, rfl, _⟩ := h
  rfl
end
section
variable {X : Cx} {C : Addr} {CX : CXT} {E : XK}
theorem pe_J {x p : Str} {k j : Nat} {f : Addr} {fd : FuncData} {g : U → Bool} {e : Expr} {te : TE} {ps pos : Pos} (J : Jd X.prog X.w X.K X.mg X.base C k x p f fd g) (hr : Room j X.A) (h : k ≤ j) (hg : Gl X x) (hx : Passes CX0 X E) (he : PE X e te) (hdb : (x == ("__debug__" : Str)) = false := by decide)
    (hst : starEach [e] X.env = (false, eval e X.env) :: starEach [] X.env := by rfl) (hpl : (backTo pos (starEach [] X.env)).any (·.1) = false := by rfl) :
    PE X (.Call (.Name x ps) [e] [] pos) (tCall (spJ C g) [] E (tCons te tNil)) :=
  pe_call J.ok (hr.mono h) hg J.g J.kp J.b .nil hx (pa_cons he pa_nil hst) hdb hst hpl
end
end Hs
/-! the program's flags of any value -/
namespace Hs
open PySem PySem.Spec PyProof.Rows L2 Hu Evl
/-- what the text leaves to the built-ins, and its errors -/
structure Bs (K : PySem.W.Frag) (mg : Str → Option Value) (C : Addr) : Prop where
  B : Bt mg
  E : Xc K mg "NoTable" C "NoTable"
/-- the numbers that the text names -/
structure Cn (mg : Str → Option Value) : Prop where
  homes : ∃ t, mg "MOST_HOMES" = some (.int 9 t)
  hands : ∃ t, mg "MOST_HANDS" = some (.int 99 t)
  pieces : ∃ t, mg "MOST_PIECES" = some (.int 12 t)
  signs : ∃ t, mg "PIECE_SIGNS" = some (.int 8 t)
  names : ∃ t, mg "NAME_SIGNS" = some (.int 8 t)
theorem boot_bool' : bootBuiltins "bool" = some (.type "bool") := by decide +kernel
theorem boot_int' : bootBuiltins "int" = some (.type "int") := by decide +kernel
section
variable {X : Cx} {C : Addr} {e : Expr} {te : TE} {p p2 pos : Pos}
theorem pe_isiX {T : String} {T' : Str} (S : Bs X.K X.mg C) (hg : Gl X "isinstance") (hgT : Gl X T') (hT : X.mg T' = none) (bT : bootBuiltins T' = some (.type T)) (hm : T ∈ ["int", "bool", "str", "tuple"]) (he : PE X e te) (hn : T' ≠ "__name__") (hd : (T' == ("__debug__" : Str)) = false)
    (hst : starEach [e] X.env = (false, eval e X.env) :: starEach [] X.env := by rfl) (hst2 : starEach [e, .Name T' p2] X.env = (false, eval e X.env) :: starEach [.Name T' p2] X.env := by rfl) (hpl : (backTo pos (starEach [.Name T' p2] X.env)).any (·.1) = false := by rfl)
    (hst3 : starEach [.Name T' p2] X.env = (false, eval (.Name T' p2) X.env) :: starEach [] X.env := by rfl) :
    PE X (.Call (.Name "isinstance" p) [e, .Name T' p2] [] pos) (tCB (rIsi C T) (tCons te (tCons (tC (.ty T)) tNil))) :=
  pe_callB (call_isiU T S.E hm) hg S.B.isi boot_isi (pa_cons he (pa_cons (pe_bltn hgT hT bT (show RelV (.ty T) (.type T) from rfl) hn hd) pa_nil hst3) hst2) (by decide) (by decide) hst2 hpl
end
def iv (u : U) (p : Int → Bool) : Bool := match u with | .int i => p i | _ => false
def sv (u : U) (p : Str → Bool) : Bool := match u with | .str z => p z | _ => false
def tv (u : U) (p : List U → Bool) : Bool := match u with | .tup us => p us | _ => false
def gInt (u : U) : Bool := iv u fun _ => true
def gFrom (u : U) : Bool := iv u fun i => decide (1 ≤ i)
def gHome (u : U) : Bool := iv u fun i => decide (0 ≤ i) && decide (i < 9)
def gHand (u : U) : Bool := iv u fun i => decide (1 ≤ i) && decide (i ≤ 99)
def gPair (u : U) : Bool := tv u fun us => decide (us.length = 2)
def gSigns (u : U) : Bool := sv u okz
def lowc (c : Nat) : Bool := decide (97 ≤ c) && decide (c ≤ 122)
def gNam (u : U) : Bool := sv u fun z => (decide (1 ≤ z.length) && decide (z.length ≤ 8)) && (TL.tl z).all lowc
def gText (u : U) : Bool := sv u fun z => okz z && decide (z.length ≤ 96)
def gPiece (u : U) : Bool := sv u fun z => okz z && (decide (1 ≤ z.length) && decide (z.length ≤ 8))
def two (us : List U) (p : U → U → Bool) : Bool := match us with | [a, b] => p a b | _ => false
def gId (u : U) : Bool := tv u fun us => two us fun a b => gHand a && gFrom b
def gRow (u : U) : Bool := match u with | .non => true | .tup us => decide (us.length ≤ 12) && us.all gId | _ => false
def gStamp (u : U) : Bool := tv u fun us => two us fun a b => iv a fun i => iv b fun j => (decide (i = 0) && decide (j = 0)) || (decide (1 ≤ i) && (decide (1 ≤ j) && decide (j ≤ 99)))
def gHead (u : U) : Bool := tv u fun us => two us fun a b => gStamp a && gRow b
def intU (u : U) : Int := match u with | .int i => i | _ => 0
def ascI (ns : List Int) : Bool := (List.range (ns.length - 1)).all fun k => decide (ns.getD k 0 < ns.getD (k + 1) 0)
def gMembers (u : U) : Bool := tv u fun us => ((decide (1 ≤ us.length) && decide (us.length ≤ 9)) && us.all gHome) && ascI (us.map intU)
section
variable {P : Program} {wd : World} {K : PySem.W.Frag} {mg : Str → Option Value} {base : Heap} {C : Addr}
theorem scIsInt : FnScope ["thing"] ["thing"] (defScope sIsInt) := ⟨rfl, rfl, rfl, by decide +kernel, rfl, by decide +kernel, by decide +kernel⟩
theorem gInt_is (u : U) : (isT u "int" && !isT u "bool") = gInt u := by
  cases u <;> simp [isT, isS, tyU, gInt, iv]
theorem jd_int {f : Addr} {fd : FuncData} (D : Df K mg "is_integer" sIsInt ["thing"] f fd) (S : Bs K mg C) : Jd P wd K mg base C 1 "is_integer" "thing" f fd gInt := by
  refine ⟨D.F.ok scIsInt lenJ (fun cdv A outer s H vs Q E hr h => ?_), D.g, D.F.kp, D.b⟩
  obtain ⟨v, u, w, rfl, hat, fi, k⟩ := h
  refine ⟨_, pss_one (ps_ret (pe_and (pe_isiX S (by rfl) (by rfl) S.B.int boot_int' (by decide) (pv 0) (by decide) (by decide)) (pe_one (pe_not (pe_isiX S (by rfl) (by rfl) S.B.boo boot_bool' (by decide) (pv 0) (by decide) (by decide)))))), ?_⟩
  refine s_ret (ev_andV (ev_isi (ev_var rfl) hat) fun _ => ev_notV (ev_isi (ev_var rfl) hat)) fun H1 e => ?_
  rw [gInt_is]
  exact k H1 e
theorem scFrom : FnScope ["thing"] ["thing"] (defScope sFromOne) := ⟨rfl, rfl, rfl, by decide +kernel, rfl, by decide +kernel, by decide +kernel⟩
theorem gInt_int {u : U} (h : gInt u = true) : ∃ i, u = .int i := by
  cases u with
  | int i => exact ⟨i, rfl⟩
  | _ => cases h
theorem at_int {w : Addr} {H : Hp} {v : V} {i : Int} (h : At w C H v (.int i)) : v = .int i := by
  cases h
  rfl
theorem at_str {w : Addr} {H : Hp} {v : V} {z : Str} (h : At w C H v (.str z)) : v = .str z := by
  cases h
  rfl
theorem at_tup {w : Addr} {H : Hp} {v : V} {us : List U} (h : At w C H v (.tup us)) : ∃ a xs, v = .ref a ∧ H a = some (.tup xs) ∧ a ≠ w ∧ AtL w C H xs us := by
  cases h with
  | tup h n l => exact ⟨_, _, rfl, h, n, l⟩
/-- one more test of an integer -/
theorem iv_and (u : U) (p : Int → Bool) : (gInt u && iv u p) = iv u p := by
  cases u <;> rfl
theorem jd_from {f fI : Addr} {fd fdI : FuncData} (D : Df K mg "is_from_one" sFromOne ["thing"] f fd) (S : Bs K mg C) (J : Jd P wd K mg base C 1 "is_integer" "thing" fI fdI gInt) : Jd P wd K mg base C 2 "is_from_one" "thing" f fd gFrom := by
  refine ⟨D.F.ok scFrom lenJ (fun cdv A outer s H vs Q E hr h => ?_), D.g, D.F.kp, D.b⟩
  obtain ⟨v, u, w, rfl, hat, fi, k⟩ := h
  refine ⟨_, pss_one (ps_ret (pe_and (pe_J J hr (by decide) (by rfl) pass0 (pv 0)) (pe_one (pe_cmpR op_ge (pv 0) pe_int (nomark _))))), ?_⟩
  refine s_ret (ev_andV (b := gFrom u) (ev_J (ev_var rfl) hat fi) fun q => ?_) fun H1 e => ?_
  · obtain ⟨i, rfl⟩ := gInt_int q
    cases at_int hat
    exact ev_op (ev_var rfl) ev_c rv_I0
  · unfold gFrom
    rw [iv_and]
    exact k H1 e
theorem scHome : FnScope ["thing"] ["thing"] (defScope sHome) := ⟨rfl, rfl, rfl, by decide +kernel, rfl, by decide +kernel, by decide +kernel⟩
theorem jd_home {f fI : Addr} {fd fdI : FuncData} (D : Df K mg "is_home" sHome ["thing"] f fd) (S : Bs K mg C) (N : Cn mg) (J : Jd P wd K mg base C 1 "is_integer" "thing" fI fdI gInt) : Jd P wd K mg base C 2 "is_home" "thing" f fd gHome := by
  refine ⟨D.F.ok scHome lenJ (fun cdv A outer s H vs Q E hr h => ?_), D.g, D.F.kp, D.b⟩
  obtain ⟨v, u, w, rfl, hat, fi, k⟩ := h
  obtain ⟨t, h9⟩ := N.homes
  refine ⟨_, pss_one (ps_ret (pe_and (pe_J J hr (by decide) (by rfl) pass0 (pv 0)) (pe_one (pe_chain op_le op_lt pe_int (pv 0) (pe_glob (v := .int 9) rfl h9 ⟨_, rfl⟩))))), ?_⟩
  refine s_ret (ev_andV (b := gHome u) (ev_J (ev_var rfl) hat fi) fun q => ?_) fun H1 e => ?_
  · obtain ⟨i, rfl⟩ := gInt_int q
    cases at_int hat
    exact ev_chain ev_c (ev_var rfl) ev_c rv_I0 fun _ => rv_I0
  · unfold gHome
    rw [iv_and]
    exact k H1 e
theorem scHand : FnScope ["thing"] ["thing"] (defScope sHand) := ⟨rfl, rfl, rfl, by decide +kernel, rfl, by decide +kernel, by decide +kernel⟩
theorem jd_hand {f fI : Addr} {fd fdI : FuncData} (D : Df K mg "is_hand" sHand ["thing"] f fd) (S : Bs K mg C) (N : Cn mg) (J : Jd P wd K mg base C 1 "is_integer" "thing" fI fdI gInt) : Jd P wd K mg base C 2 "is_hand" "thing" f fd gHand := by
  refine ⟨D.F.ok scHand lenJ (fun cdv A outer s H vs Q E hr h => ?_), D.g, D.F.kp, D.b⟩
  obtain ⟨v, u, w, rfl, hat, fi, k⟩ := h
  obtain ⟨t, h9⟩ := N.hands
  refine ⟨_, pss_one (ps_ret (pe_and (pe_J J hr (by decide) (by rfl) pass0 (pv 0)) (pe_one (pe_chain op_le op_le pe_int (pv 0) (pe_glob (v := .int 99) rfl h9 ⟨_, rfl⟩))))), ?_⟩
  refine s_ret (ev_andV (b := gHand u) (ev_J (ev_var rfl) hat fi) fun q => ?_) fun H1 e => ?_
  · obtain ⟨i, rfl⟩ := gInt_int q
    cases at_int hat
    exact ev_chain ev_c (ev_var rfl) ev_c rv_I0 fun _ => rv_I0
  · unfold gHand
    rw [iv_and]
    exact k H1 e
theorem scPair : FnScope ["thing"] ["thing"] (defScope sPair) := ⟨rfl, rfl, rfl, by decide +kernel, rfl, by decide +kernel, by decide +kernel⟩
theorem tv_and (u : U) (p : List U → Bool) : (isT u "tuple" && tv u p) = tv u p := by
  cases u <;> simp [isT, isS, tyU, tv]
theorem sv_and (u : U) (p : Str → Bool) : (isT u "str" && sv u p) = sv u p := by
  cases u <;> simp [isT, isS, tyU, sv]
theorem dec_eq {n m : Nat} : decide (V.int (n : Int) = V.int (m : Int)) = decide (n = m) := by
  by_cases h : n = m
  · rw [decide_eq_true h, h, decide_eq_true rfl]
  · rw [decide_eq_false h, decide_eq_false]
    intro e
    have := V.int.inj e
    omega
theorem jd_pair {f : Addr} {fd : FuncData} (D : Df K mg "is_pair" sPair ["thing"] f fd) (S : Bs K mg C) : Jd P wd K mg base C 1 "is_pair" "thing" f fd gPair := by
  refine ⟨D.F.ok scPair lenJ (fun cdv A outer s H vs Q E hr h => ?_), D.g, D.F.kp, D.b⟩
  obtain ⟨v, u, w, rfl, hat, fi, k⟩ := h
  refine ⟨_, pss_one (ps_ret (pe_and (pe_isiX S (by rfl) (by rfl) S.B.tup boot_tuple' (by decide) (pv 0) (by decide) (by decide)) (pe_one (pe_cmpR op_eq (pe_callB call_len_seq (by rfl) S.B.len PySem.boot_len (pa_cons (pv 0) pa_nil)) pe_int (nomark _))))), ?_⟩
  refine s_ret (ev_andV (b := gPair u) (ev_isi (ev_var rfl) hat) fun q => ?_) fun H1 e => ?_
  · obtain ⟨us, rfl⟩ := isT_tup q
    obtain ⟨a, xs, rfl, ha, _, hl⟩ := at_tup hat
    have := ev_op (r := rEq) (σ := [some (V.ref a)]) (ev_lenT (K := K) (te := tVar 0) (ev_var rfl) ha) (ev_c (v := .int 2)) (rv_eq rfl)
    rw [show (2 : Int) = ((2 : Nat) : Int) from rfl, dec_eq, AtL.length hl] at this
    exact this
  · unfold gPair
    rw [tv_and]
    exact k H1 e
theorem scSig : FnScope ["thing", "sign"] ["thing"] (defScope sIsSigns) := ⟨rfl, rfl, rfl, by decide +kernel, rfl, by decide +kernel, by decide +kernel⟩
abbrev rLeS : R2 := fun x y H Q => ∃ i j : Str, x = .str i ∧ y = .str j ∧ Q (.bl (!decide (j.cps.toList < i.cps.toList))) H
theorem rv_leS {a b : Nat} {H : Hp} : RV rLeS (.str ⟨#[a]⟩) (.str ⟨#[b]⟩) H (.bl (decide (a ≤ b))) := fun H1 _ Q q => ⟨_, _, rfl, rfl, by
  show Q (.bl (!decide (([b] : List Nat) < [a]))) H1
  rw [not_lt1]
  exact q H1 (Ex.refl H1)⟩
theorem jd_signs {f : Addr} {fd : FuncData} (D : Df K mg "is_signs" sIsSigns ["thing"] f fd) (S : Bs K mg C) : Jd P wd K mg base C 1 "is_signs" "thing" f fd gSigns := by
  refine ⟨D.F.ok scSig lenJ (fun cdv A outer s H vs Q E hr h => ?_), D.g, D.F.kp, D.b⟩
  obtain ⟨v, u, w, rfl, hat, fi, k⟩ := h
  refine ⟨_, pss_one (ps_ret (pe_and (pe_isiX S (by rfl) (by rfl) S.B.str boot_str (by decide) (pv 0) (by decide) (by decide))
    (pe_one (pe_callB (cr_all rfl) (by rfl) S.B.all boot_all' (pa_cons (pe_lc (own := [("sign", 1)]) (g := gName 1) (tt := tYes) rfl scSig.nd (pi_str (pv 0)) (blkOk_by (N := ["thing", "sign"]) (sc := defScope sIsSigns) (by decide +kernel))
      (fun _ _ _ _ _ => pg_name (i := 1) scSig.nd rfl (Or.inl rfl)) (fun _ _ _ _ _ => pts_nil) (fun _ _ _ _ _ => pe_chain op_le_str op_le_str pe_str (pv 1) pe_str)) pa_nil))))), ?_⟩
  refine s_ret (ev_andV (b := gSigns u) (ev_isi (ev_var rfl) hat) fun q => ?_) fun H1 e => ?_
  · obtain ⟨z, rfl⟩ := isT_str q
    cases at_str hat
    exact ev_allS (ev_var rfl) fi.str (fun _ => rfl) fun c _ => ev_chain ev_c (ev_var rfl) ev_c rv_leS fun _ => rv_leS
  · unfold gSigns
    rw [sv_and]
    exact k H1 e
end
end Hs
namespace Hs
open PySem PySem.Spec PyProof.Rows L2 Hu Evl
section
variable {P : Program} {wd : World} {K : PySem.W.Frag} {mg : Str → Option Value} {base : Heap} {C : Addr}
theorem dec_le {n m : Nat} : decide ((n : Int) ≤ (m : Int)) = decide (n ≤ m) := by
  by_cases h : n ≤ m
  · rw [decide_eq_true h, decide_eq_true (by omega)]
  · rw [decide_eq_false h, decide_eq_false (by omega)]
theorem dec_lt {n m : Nat} : decide ((n : Int) < (m : Int)) = decide (n < m) := by
  by_cases h : n < m
  · rw [decide_eq_true h, decide_eq_true (by omega)]
  · rw [decide_eq_false h, decide_eq_false (by omega)]
theorem _root_.Hu.Fine.line {z : Str} (h : Fine (.str z)) : z.length ≤ sizeLine := len_fine (by have := h.str; omega)
theorem gSigns_str {u : U} (h : gSigns u = true) : ∃ z, u = .str z := by
  cases u with
  | str z => exact ⟨z, rfl⟩
  | _ => cases h
def lenIn (lo hi : Nat) (u : U) : Bool := sv u fun z => decide (lo ≤ z.length) && decide (z.length ≤ hi)
theorem scIsPiece : FnScope ["thing"] ["thing"] (defScope sPiece) := ⟨rfl, rfl, rfl, by decide +kernel, rfl, by decide +kernel, by decide +kernel⟩
theorem jd_piece {f fI : Addr} {fd fdI : FuncData} (D : Df K mg "is_piece" sPiece ["thing"] f fd) (S : Bs K mg C) (N : Cn mg) (J : Jd P wd K mg base C 1 "is_signs" "thing" fI fdI gSigns) : Jd P wd K mg base C 2 "is_piece" "thing" f fd gPiece := by
  refine ⟨D.F.ok scIsPiece lenJ (fun cdv A outer s H vs Q E hr h => ?_), D.g, D.F.kp, D.b⟩
  obtain ⟨v, u, w, rfl, hat, fi, k⟩ := h
  obtain ⟨t, h9⟩ := N.signs
  refine ⟨_, pss_one (ps_ret (pe_and (pe_J J hr (by decide) (by rfl) pass0 (pv 0)) (pe_one (pe_chain op_le op_le pe_int (pe_callB call_len_str (by rfl) S.B.len PySem.boot_len (pa_cons (pv 0) pa_nil)) (pe_glob (v := .int 8) rfl h9 ⟨_, rfl⟩))))), ?_⟩
  refine s_ret (ev_andV (b := lenIn 1 8 u) (ev_J (ev_var rfl) hat fi) fun q => ?_) fun H1 e => ?_
  · obtain ⟨z, rfl⟩ := gSigns_str q
    cases at_str hat
    exact ev_is (ev_chain ev_c (ev_lenS (ev_var rfl) fi.line) ev_c rv_I0 fun _ => rv_I0) (by rw [show (8 : Int) = ((8 : Nat) : Int) from rfl, show (1 : Int) = ((1 : Nat) : Int) from rfl, dec_le, dec_le]; rfl)
  · have e2 : (gSigns u && lenIn 1 8 u) = gPiece u := by cases u <;> rfl
    rw [e2]
    exact k H1 e
theorem scIsName : FnScope ["thing", "sign"] ["thing"] (defScope sName) := ⟨rfl, rfl, rfl, by decide +kernel, rfl, by decide +kernel, by decide +kernel⟩
theorem jd_name {f : Addr} {fd : FuncData} (D : Df K mg "is_name" sName ["thing"] f fd) (S : Bs K mg C) (N : Cn mg) : Jd P wd K mg base C 2 "is_name" "thing" f fd gNam := by
  refine ⟨D.F.ok scIsName lenJ (fun cdv A outer s H vs Q E hr h => ?_), D.g, D.F.kp, D.b⟩
  obtain ⟨v, u, w, rfl, hat, fi, k⟩ := h
  obtain ⟨t, h8⟩ := N.names
  refine ⟨_, pss_cons (ps_if (PW.pt (pw_or (pt_not (pt_val (pe_isiX S (by rfl) (by rfl) S.B.str boot_str (by decide) (pv 0) (by decide) (by decide))))
      (pw_or1 (pt_not (pt_chain op_le op_le pe_int (pe_callB call_len_str (by rfl) S.B.len PySem.boot_len (pa_cons (pv 0) pa_nil)) (pe_glob (v := .int 8) rfl h8 ⟨_, rfl⟩))))))
      (pss_one (ps_ret pe_bl)) pss_nil)
    (pss_one (ps_ret (pe_callB (cr_all rfl) (by rfl) S.B.all boot_all' (pa_cons (pe_lc (own := [("sign", 1)]) (g := gName 1) (tt := tYes) rfl scIsName.nd (pi_str (pv 0)) (blkOk_by (N := ["thing", "sign"]) (sc := defScope sName) (by decide +kernel))
      (fun _ _ _ _ _ => pg_name (i := 1) scIsName.nd rfl (Or.inl rfl)) (fun _ _ _ _ _ => pts_nil) (fun _ _ _ _ _ => pe_chain op_le_str op_le_str pe_str (pv 1) pe_str)) pa_nil)))), ?_⟩
  refine s_if (b := !isT u "str" || !lenIn 1 8 u) (et_or (et_not (et_B (ev_isi (ev_var rfl) hat))) fun q => ?_) (fun q H1 e => ?_) (fun q H1 e => ?_)
  · rw [Bool.not_eq_false'] at q
    obtain ⟨z, rfl⟩ := isT_str q
    cases at_str hat
    exact et_not (et_test (ev_is (ev_chain ev_c (ev_lenS (ev_var rfl) fi.line) ev_c rv_I0 fun _ => rv_I0) (by rw [show (8 : Int) = ((8 : Nat) : Int) from rfl, show (1 : Int) = ((1 : Nat) : Int) from rfl, dec_le, dec_le]; rfl)))
  · refine s_ret ev_c fun H2 e2 => ?_
    have e3 : gNam u = false := by
      cases u with
      | str z =>
        simp [isT, isS, tyU] at q
        show (lenIn 1 8 (.str z) && _) = false
        rw [q]
        rfl
      | _ => rfl
    rw [← e3]
    exact k H2 (e.trans e2)
  · rw [Bool.or_eq_false_iff, Bool.not_eq_false', Bool.not_eq_false'] at q
    obtain ⟨z, rfl⟩ := isT_str q.1
    cases at_str hat
    refine s_ret (ev_allS (g := lowc) (ev_var rfl) fi.str (fun _ => rfl) fun c _ => ev_chain ev_c (ev_var rfl) ev_c rv_leS fun _ => rv_leS) fun H2 e2 => ?_
    have e3 : gNam (.str z) = (TL.tl z).all lowc := by
      show (lenIn 1 8 (.str z) && _) = _
      rw [q.2]
      rfl
    rw [← e3]
    exact k H2 (e.trans e2)
theorem two_of {us : List U} (h : us.length = 2) : ∃ a b, us = [a, b] := by
  match us, h with
  | [a, b], _ => exact ⟨a, b, rfl⟩
theorem atl_two {w : Addr} {H : Hp} {xs : List V} {a b : U} (h : AtL w C H xs [a, b]) : ∃ x y, xs = [x, y] ∧ At w C H x a ∧ At w C H y b := by
  cases h with
  | cons h1 h => cases h with
    | cons h2 h => cases h with
      | nil => exact ⟨_, _, rfl, h1, h2⟩
theorem gPair_two {u : U} (h : gPair u = true) : ∃ a b, u = .tup [a, b] := by
  cases u with
  | tup us =>
    obtain ⟨a, b, rfl⟩ := two_of (of_decide_eq_true h)
    exact ⟨a, b, rfl⟩
  | _ => cases h
theorem pair_at {w : Addr} {H : Hp} {v : V} {a b : U} (h : At w C H v (.tup [a, b])) : ∃ p x y, v = .ref p ∧ H p = some (.tup [x, y]) ∧ At w C H x a ∧ At w C H y b := by
  obtain ⟨p, xs, rfl, hp, _, hl⟩ := at_tup h
  obtain ⟨x, y, rfl, h1, h2⟩ := atl_two hl
  exact ⟨p, x, y, rfl, hp, h1, h2⟩
theorem pair_and (u : U) (p : U → U → Bool) : (gPair u && tv u fun us => two us p) = tv u fun us => two us p := by
  cases u with
  | tup us =>
    match us with
    | [] => rfl
    | [a] => rfl
    | [a, b] => rfl
    | a :: b :: c :: r => simp [gPair, tv, two]
  | _ => rfl
theorem _root_.Hu.Fine.fst {a b : U} (h : Fine (.tup [a, b])) : Fine a := h.tup a (by simp)
theorem _root_.Hu.Fine.snd {a b : U} (h : Fine (.tup [a, b])) : Fine b := h.tup b (by simp)
theorem scId : FnScope ["thing"] ["thing"] (defScope sBlockId) := ⟨rfl, rfl, rfl, by decide +kernel, rfl, by decide +kernel, by decide +kernel⟩
theorem jd_id {f f1 f2 f3 : Addr} {fd d1 d2 d3 : FuncData} (D : Df K mg "is_block_id" sBlockId ["thing"] f fd) (S : Bs K mg C) (JP : Jd P wd K mg base C 1 "is_pair" "thing" f1 d1 gPair) (JH : Jd P wd K mg base C 2 "is_hand" "thing" f2 d2 gHand) (JF : Jd P wd K mg base C 2 "is_from_one" "thing" f3 d3 gFrom) :
    Jd P wd K mg base C 3 "is_block_id" "thing" f fd gId := by
  refine ⟨D.F.ok scId lenJ (fun cdv A outer s H vs Q E hr h => ?_), D.g, D.F.kp, D.b⟩
  obtain ⟨v, u, w, rfl, hat, fi, k⟩ := h
  refine ⟨_, pss_one (ps_ret (pe_and (pe_J JP hr (by decide) (by rfl) pass0 (pv 0)) (pe_and (pe_J JH hr (by decide) (by rfl) pass0 (pe_ix ix_tup (pv 0) pe_int (fun _ _ => rfl))) (pe_one (pe_J JF hr (by decide) (by rfl) pass0 (pe_ix ix_tup (pv 0) pe_int (fun _ _ => rfl))))))), ?_⟩
  refine s_ret (ev_andV (b := gId u) (ev_J (ev_var rfl) hat fi) fun q => ?_) fun H1 e => ?_
  · obtain ⟨a, b, rfl⟩ := gPair_two q
    obtain ⟨p, x, y, rfl, hp, ha, hb⟩ := pair_at hat
    exact ev_andV (ev_J (ev_ixT (j := 0) (ev_var rfl) hp rfl) ha fi.fst) fun _ => ev_J (ev_ixT (j := 1) (ev_var rfl) hp rfl) hb fi.snd
  · unfold gId
    rw [pair_and]
    exact k H1 e
theorem scRow : FnScope ["thing", "item"] ["thing"] (defScope sRow) := ⟨rfl, rfl, rfl, by decide +kernel, rfl, by decide +kernel, by decide +kernel⟩
theorem ev_isN {σ : L2.St} {H : Hp} {te : TE} {v : V} (h : Ev te σ H v) : Ev (tOp rIsN te (tC .non)) σ H (.bl (decide (v = .non))) := ev_op h ev_c fun H1 _ Q q => ⟨rfl, q H1 (Ex.refl H1)⟩
def isNon (u : U) : Bool := match u with | .non => true | _ => false
theorem at_non {w : Addr} {H : Hp} {v : V} {u : U} (h : At w C H v u) : decide (v = .non) = isNon u := by
  cases h <;> rfl
def lenT (hi : Nat) (u : U) : Bool := tv u fun us => decide (us.length ≤ hi)
theorem ev_lenTU {w : Addr} {σ : L2.St} {H : Hp} {te : TE} {a : Addr} {xs : List V} {us : List U} (h : Ev te σ H (.ref a)) (hx : H a = some (.tup xs)) (hl : AtL w C H xs us) : Ev (tCB (rLenQ K) (tCons te tNil)) σ H (.int (us.length : Int)) :=
  ev_is (ev_lenT h hx) (by rw [AtL.length hl])
theorem not_le' {n m : Nat} : decide ((m : Int) < (n : Int)) = !decide (n ≤ m) := by
  by_cases h : n ≤ m
  · rw [decide_eq_true h, decide_eq_false (by omega)]
    rfl
  · rw [decide_eq_false h, decide_eq_true (by omega)]
    rfl
theorem jd_row {f f1 : Addr} {fd d1 : FuncData} (D : Df K mg "is_row" sRow ["thing"] f fd) (S : Bs K mg C) (N : Cn mg) (J : Jd P wd K mg base C 3 "is_block_id" "thing" f1 d1 gId) :
    Jd P wd K mg base C 4 "is_row" "thing" f fd gRow := by
  refine ⟨D.F.ok scRow lenJ (fun cdv A outer s H vs Q E hr h => ?_), D.g, D.F.kp, D.b⟩
  obtain ⟨v, u, w, rfl, hat, fi, k⟩ := h
  obtain ⟨t, h12⟩ := N.pieces
  refine ⟨_, pss_cons (ps_if (pt_cmpR op_isN1 (pv 0) pe_non (nomark _)) (pss_one (ps_ret pe_bl)) pss_nil)
    (pss_cons (ps_if (PW.pt (pw_or (pt_not (pt_val (pe_isiX S (by rfl) (by rfl) S.B.tup boot_tuple' (by decide) (pv 0) (by decide) (by decide))))
      (pw_or1 (pt_cmpR op_gt (pe_callB call_len_seq (by rfl) S.B.len PySem.boot_len (pa_cons (pv 0) pa_nil)) (pe_glob (v := .int 12) rfl h12 ⟨_, rfl⟩) (nomark _)))))
      (pss_one (ps_ret pe_bl)) pss_nil)
    (pss_one (ps_ret (pe_callB (cr_all rfl) (by rfl) S.B.all boot_all' (pa_cons (pe_lc (own := [("item", 1)]) (g := gName 1) (tt := tYes) rfl scRow.nd (pi_tup (pv 0)) (blkOk_by (N := ["thing", "item"]) (sc := defScope sRow) (by decide +kernel))
      (fun _ _ _ _ _ => pg_name (i := 1) scRow.nd rfl (Or.inl rfl)) (fun _ _ _ _ _ => pts_nil) (fun _ _ _ _ _ => pe_J J hr (by decide) (by rfl) pass0 (pv 1))) pa_nil))))), ?_⟩
  refine s_if (b := isNon u) (et_test (ev_is (ev_isN (ev_var rfl)) (by rw [at_non hat]))) (fun q H1 e => ?_) (fun q H1 e => ?_)
  · refine s_ret ev_c fun H2 e2 => ?_
    have := k H2 (e.trans e2)
    cases u with
    | non => exact this
    | _ => cases q
  · have hat1 := ex_at e hat
    refine s_if (b := !isT u "tuple" || !lenT 12 u) (et_or (et_not (et_B (ev_isi (ev_var rfl) hat1))) fun q => ?_) (fun q H2 e2 => ?_) (fun q H2 e2 => ?_)
    · rw [Bool.not_eq_false'] at q
      obtain ⟨us, rfl⟩ := isT_tup q
      obtain ⟨a, xs, rfl, ha, _, hl⟩ := at_tup hat1
      exact et_test (ev_is (ev_op (ev_lenTU (K := K) (ev_var rfl) ha hl) ev_c rv_I0) (by rw [show (12 : Int) = ((12 : Nat) : Int) from rfl, not_le']; rfl))
    · refine s_ret ev_c fun H3 e3 => ?_
      have e4 : gRow u = false := by
        cases u with
        | tup us =>
          simp [isT, isS, tyU] at q
          show (lenT 12 (.tup us) && _) = false
          rw [q]
          rfl
        | non => cases (show true = false from by assumption)
        | _ => rfl
      rw [← e4]
      exact k H3 ((e.trans e2).trans e3)
    · rw [Bool.or_eq_false_iff, Bool.not_eq_false', Bool.not_eq_false'] at q
      obtain ⟨us, rfl⟩ := isT_tup q.1
      obtain ⟨a, xs, rfl, ha, _, hl⟩ := at_tup (ex_at e2 hat1)
      refine s_ret (ev_allT (g := gId) (ev_var rfl) ha fi.len hl (fun _ => rfl) fun x u hu hx => ev_J (ev_var rfl) hx (fi.tup u hu)) fun H3 e3 => ?_
      have e4 : gRow (.tup us) = us.all gId := by
        show (lenT 12 (.tup us) && _) = _
        rw [q.2]
        rfl
      rw [← e4]
      exact k H3 ((e.trans e2).trans e3)
end
end Hs
namespace Hs
open PySem PySem.Spec PyProof.Rows L2 Hu Evl
section
variable {P : Program} {wd : World} {K : PySem.W.Frag} {mg : Str → Option Value} {base : Heap} {C : Addr}
theorem scStamp : FnScope ["thing"] ["thing"] (defScope sStamp) := ⟨rfl, rfl, rfl, by decide +kernel, rfl, by decide +kernel, by decide +kernel⟩
theorem shp2 (i j : Int) : SeqAt.shaped (.tuple [.int i, .int j]) = true := by
  show ((PyData.tuple [.int i, .int j]).canLay0 && decide ((PyData.tuple [.int i, .int j]).depth ≤ 64)) = true
  simp [PyData.canLay0, PyData.canLayAll0, PyData.depth, PyData.depthAll]
theorem eqv2 (i j k l : Int) : PyData.eqv (.tuple [.int i, .int j]) (.tuple [.int k, .int l]) = (decide (i = k) && decide (j = l)) := by
  simp only [PyData.eqv, PyData.eqvAll, Bool.and_true]
  congr 1
theorem dp2 {H : Hp} {p : Addr} {i j : Int} (h : H p = some (.tup [.int i, .int j])) : Dp K H (.ref p) (.tuple [.int i, .int j]) := .tup (st_of h) (.cons (.int i) (.cons (.int j) .nil))
theorem rv_eq2 {H : Hp} {p q : Addr} {i j k l : Int} (hp : H p = some (.tup [.int i, .int j])) (hq : H q = some (.tup [.int k, .int l])) : RV (rEqD K) (.ref p) (.ref q) H (.bl (decide (i = k) && decide (j = l))) := fun H1 e Q f =>
  ⟨_, _, dp2 (e _ _ hp), dp2 (e _ _ hq), shp2 _ _, shp2 _ _, by rw [eqv2]; exact f H1 (Ex.refl H1)⟩
theorem room_hu {k : Nat} {A : Around} (r : Room k A) : A.units + 64 < cLine := r.units
/-- a pair of integers -/
def ints2 (u : U) : Bool := tv u fun us => two us fun a b => gInt a && gInt b
theorem ints2_two {u : U} (h : ints2 u = true) : ∃ i j, u = .tup [.int i, .int j] := by
  cases u with
  | tup us =>
    match us, h with
    | [a, b], h =>
      have h1 : (gInt a && gInt b) = true := h
      rw [Bool.and_eq_true] at h1
      obtain ⟨i, rfl⟩ := gInt_int h1.1
      obtain ⟨j, rfl⟩ := gInt_int h1.2
      exact ⟨i, j, rfl⟩
  | _ => cases h
theorem jd_stamp {f f1 f2 f3 f4 : Addr} {fd d1 d2 d3 d4 : FuncData} (D : Df K mg "is_stamp" sStamp ["thing"] f fd) (S : Bs K mg C) (JP : Jd P wd K mg base C 1 "is_pair" "thing" f1 d1 gPair) (JI : Jd P wd K mg base C 1 "is_integer" "thing" f2 d2 gInt)
    (JF : Jd P wd K mg base C 2 "is_from_one" "thing" f3 d3 gFrom) (JH : Jd P wd K mg base C 2 "is_hand" "thing" f4 d4 gHand) : Jd P wd K mg base C 3 "is_stamp" "thing" f fd gStamp := by
  refine ⟨D.F.ok scStamp lenJ (fun cdv A outer s H vs Q E hr h => ?_), D.g, D.F.kp, D.b⟩
  obtain ⟨v, u, w, rfl, hat, fi, k⟩ := h
  refine ⟨_, pss_cons (ps_if (PW.pt (pw_or (pt_not (pt_val (pe_J JP hr (by decide) (by rfl) pass0 (pv 0)))) (pw_or (pt_not (pt_val (pe_J JI hr (by decide) (by rfl) pass0 (pe_ix ix_tup (pv 0) pe_int (fun _ _ => rfl)))))
      (pw_or1 (pt_not (pt_val (pe_J JI hr (by decide) (by rfl) pass0 (pe_ix ix_tup (pv 0) pe_int (fun _ _ => rfl)))))))))
      (pss_one (ps_ret pe_bl)) pss_nil)
    (pss_one (ps_ret (pe_or (pe_cmpR (op_eqD (room_hu hr)) (pv 0) (pe_tup (pa_cons pe_int (pa_cons pe_int pa_nil))) (nomark _)) (pe_one (pe_and (pe_J JF hr (by decide) (by rfl) pass0 (pe_ix ix_tup (pv 0) pe_int (fun _ _ => rfl)))
      (pe_one (pe_J JH hr (by decide) (by rfl) pass0 (pe_ix ix_tup (pv 0) pe_int (fun _ _ => rfl))))))))), ?_⟩
  have e0 : (!gPair u || (!(tv u fun us => two us fun a b => gInt a) || !ints2 u)) = !ints2 u := by
    cases u with
    | tup us =>
      match us with
      | [] => rfl
      | [a] => rfl
      | [a, b] =>
        show (!true || (!gInt a || !(gInt a && gInt b))) = !(gInt a && gInt b)
        cases gInt a <;> cases gInt b <;> rfl
      | a :: b :: c :: r => simp [gPair, tv, two, ints2]
    | _ => rfl
  refine s_if (b := !gPair u || (!(tv u fun us => two us fun a b => gInt a) || !ints2 u)) (et_or (et_not (et_B (ev_J (ev_var rfl) hat fi))) fun q => ?_) (fun q H1 e => ?_) (fun q H1 e => ?_)
  · rw [Bool.not_eq_false'] at q
    obtain ⟨a, b, rfl⟩ := gPair_two q
    obtain ⟨p, x, y, rfl, hp, ha, hb⟩ := pair_at hat
    refine et_or (et_not (et_B (ev_J (g := gInt) (u := a) (ev_ixT (j := 0) (ev_var rfl) hp rfl) ha fi.fst))) fun q2 => et_is (et_not (et_B (ev_J (g := gInt) (u := b) (ev_ixT (j := 1) (ev_var rfl) hp rfl) hb fi.snd))) ?_
    have q3 : (!gInt a) = false := q2
    rw [Bool.not_eq_false'] at q3
    show (!gInt b) = !(gInt a && gInt b)
    rw [q3]
    rfl
  · refine s_ret ev_c fun H2 e2 => ?_
    rw [e0] at q
    have e4 : gStamp u = false := by
      cases u with
      | tup us =>
        match us with
        | [] => rfl
        | [a] => rfl
        | [a, b] =>
          have q' : (!(gInt a && gInt b)) = true := q
          show (iv a fun i => iv b fun j => _) = false
          cases a <;> try rfl
          cases b <;> first | rfl | cases q'
        | a :: b :: c :: r => rfl
      | _ => rfl
    rw [← e4]
    exact k H2 (e.trans e2)
  · rw [e0, Bool.not_eq_false'] at q
    obtain ⟨i, j, rfl⟩ := ints2_two q
    obtain ⟨p, x, y, rfl, hp, ha, hb⟩ := pair_at (ex_at e hat)
    have hx := at_int ha
    have hy := at_int hb
    subst hx hy
    refine s_ret (ev_orV (ev_opU (ev_var rfl) (eu_tup (ea_cons ev_c (ea_cons ev_c ea_nil)) (by decide)) fun q H1 hq e1 => rv_eq2 (e1 _ _ hp) hq) fun _ => ev_andV (ev_J (ev_ixT (j := 0) (ev_var rfl) hp rfl) ha fi.fst) fun _ => ev_J (ev_ixT (j := 1) (ev_var rfl) hp rfl) hb fi.snd) fun H2 e2 => ?_
    exact k H2 (e.trans e2)
/-! ### rising -/
def spAsc : Sp := fun vs H Q _ => ∃ (a : Addr) (ns : List Int), vs = [.ref a] ∧ H a = some (.tup (ns.map V.int)) ∧ 1 ≤ ns.length ∧ ns.length ≤ 1000 ∧ ∀ H', Same H H' → Q (.bl (ascI ns)) H'
theorem scAsc : FnScope ["things", "k"] ["things"] (defScope sAscending) := ⟨rfl, rfl, rfl, by decide +kernel, rfl, by decide +kernel, by decide +kernel⟩
theorem given_all (n : Nat) (v : Nat → V) : given n (fun _ => true) v = (List.range n).map v := by
  unfold given
  rw [List.filter_eq_self.mpr fun _ _ => rfl]
theorem getD_at {ns : List Int} {i : Nat} (h : i < ns.length) : (ns.map V.int)[i]? = some (.int (ns.getD i 0)) := by
  rw [List.getElem?_map, List.getD_eq_getElem?_getD, List.getElem?_eq_getElem h]
  rfl
theorem ev_cb1 {r : List V → Hp → VK → Prop} {σ : L2.St} {H : Hp} {te : TE} {xs : List V} {z : V} (h : EvL te σ H xs) (hr : ∀ p H1, H1 p = some (.lst xs) → Ex H H1 → ∀ Q : VK, (∀ H2, Ex H1 H2 → Q z H2) → r [.ref p] H1 Q) : Ev (tCB r (tCons te tNil)) σ H z :=
  fun H0 e Q q => h H0 e _ fun p H1 hp e1 h1 => hr p H1 h1 (e.trans e1) Q fun H2 e2 => q H2 (e1.trans e2)
theorem asc_reads {σ : L2.St} {H : Hp} {a : Addr} {ns : List Int} (h0 : σ = [some (.ref a), none]) (ha : H a = some (.tup (ns.map V.int))) (h1 : 1 ≤ ns.length) (h2 : ns.length ≤ 1000) :
    Ev (tCB (rAll K) (tCons (tLc (iRng1 (tCons (tOp (rI0 fun i j => .int (i - j)) (tCB (rLenQ K) (tCons (tVar 0) tNil)) (tC (.int 1))) tNil)) (gName 1) tYes (tOp (rI0 fun i j => .bl (decide (i < j))) (tOp (rIxT K) (tVar 0) (tVar 1)) (tOp (rIxT K) (tVar 0) (tOp (rI0 fun i j => .int (i + j)) (tVar 1) (tC (.int 1))))) [1]) tNil)) σ H (.bl (ascI ns)) := by
  subst h0
  have hl : (ns.map V.int).length = ns.length := List.length_map ..
  have hn : (((ns.map V.int).length : Nat) : Int) - 1 = ((ns.length - 1 : Nat) : Int) := by
    rw [hl]
    omega
  have main : EvL (tLc (iRng1 (tCons (tOp (rI0 fun i j => .int (i - j)) (tCB (rLenQ K) (tCons (tVar 0) tNil)) (tC (.int 1))) tNil)) (gName 1) tYes (tOp (rI0 fun i j => .bl (decide (i < j))) (tOp (rIxT K) (tVar 0) (tVar 1)) (tOp (rIxT K) (tVar 0) (tOp (rI0 fun i j => .int (i + j)) (tVar 1) (tC (.int 1))))) [1]) [some (.ref a), none] H
      (given ((((ns.map V.int).length : Nat) : Int) - 1).toNat (fun _ => true) fun k => .bl (decide (ns.getD k 0 < ns.getD (k + 1) 0))) :=
    el_lcR1 (σ := [some (.ref a), none]) (j := 1) (vs := [1]) (n := (((ns.map V.int).length : Nat) : Int) - 1) (fun _ => true) (fun k => .bl (decide (ns.getD k 0 < ns.getD (k + 1) 0))) (ea_cons (ev_op (ev_lenT (ev_var rfl) ha) ev_c rv_I0) ea_nil) (by omega) (fun _ => rfl) (fun _ _ _ _ => et_yes) (fun i H2 e2 hi _ => by
      have hi' : i + 1 < ns.length := by omega
      have i1 : atI (ns.map V.int) (i : Int) = some (.int (ns.getD i 0)) := atI_nat (getD_at (by omega))
      have i2 : atI (ns.map V.int) ((i : Int) + 1) = some (.int (ns.getD (i + 1) 0)) := atI_nat (j := i + 1) (getD_at hi')
      exact ev_op (ev_op (ev_var rfl) (ev_var rfl) (rv_ixT (st_of (e2 _ _ ha)) i1)) (ev_op (ev_var rfl) (ev_op (ev_var rfl) ev_c rv_I0) (rv_ixT (st_of (e2 _ _ ha)) i2)) rv_I0)
  refine ev_cb1 main fun p H2 h2 e2 Q q => ⟨p, (List.range (ns.length - 1)).map fun k => decide (ns.getD k 0 < ns.getD (k + 1) 0), rfl, sq_of ?_, ?_⟩
  · rw [h2, hn, given_all, Int.toNat_natCast, List.map_map]
    rfl
  · have e : ((List.range (ns.length - 1)).map fun k => decide (ns.getD k 0 < ns.getD (k + 1) 0)).all id = ascI ns := by
      rw [List.all_map]
      rfl
    rw [e]
    exact q H2 (Ex.refl H2)
theorem ok_asc {f : Addr} {fd : FuncData} (F : Fun K "is_ascending" "is_ascending" sAscending f fd) (B : Bt mg) : FnOk P wd K mg base CX0 1 f fd ["things"] spAsc := by
  refine F.ok scAsc (fun vs H Q E h => ?_) (fun cdv A outer s H vs Q E hr h => ?_)
  · obtain ⟨n, m, rfl, _⟩ := h
    rfl
  · obtain ⟨a, ns, rfl, ha, h1, h2, k⟩ := h
    refine ⟨_, pss_one (ps_ret (pe_callB (cr_all rfl) (by rfl) B.all boot_all' (pa_cons (pe_lc (own := [("k", 1)]) (g := gName 1) (tt := tYes) rfl scAsc.nd (pi_range1 (by rfl) B.range (pa_cons (pe_op op_sub (pe_callB call_len_seq (by rfl) B.len PySem.boot_len (pa_cons (pv 0) pa_nil)) pe_int) pa_nil)) (blkOk_by (N := ["things", "k"]) (sc := defScope sAscending) (by decide +kernel))
      (fun _ _ _ _ _ => pg_name (i := 1) scAsc.nd rfl (Or.inl rfl)) (fun _ _ _ _ _ => pts_nil) (fun _ _ _ _ _ => pe_cmpR op_lt (pe_ix (show IxR _ (rIxT K) from ix_tup) (pv 0) (pv 1) (fun _ _ => rfl)) (pe_ix (show IxR _ (rIxT K) from ix_tup) (pv 0) (pe_op op_add (pv 1) pe_int) (fun _ _ => rfl)) (nomark _))) pa_nil))), ?_⟩
    exact s_ret (asc_reads rfl ha h1 h2) k
/-! ### members -/
theorem ints_of {w : Addr} {H : Hp} : ∀ {us : List U} {xs : List V}, AtL w C H xs us → us.all gInt = true → xs = (us.map intU).map V.int
  | _, _, .nil, _ => rfl
  | u :: us, _, .cons h l, q => by
    rw [List.all_cons, Bool.and_eq_true] at q
    obtain ⟨i, rfl⟩ := gInt_int q.1
    rw [ints_of l q.2, at_int h]
    rfl
theorem home_int {u : U} (h : gHome u = true) : gInt u = true := by
  cases u with
  | int i => rfl
  | _ => cases h
theorem homes_ints {us : List U} (h : us.all gHome = true) : us.all gInt = true := List.all_eq_true.mpr fun u hu => home_int (List.all_eq_true.mp h u hu)
theorem scMembers : FnScope ["thing", "item"] ["thing"] (defScope sMembers) := ⟨rfl, rfl, rfl, by decide +kernel, rfl, by decide +kernel, by decide +kernel⟩
def lenB (lo hi : Nat) (u : U) : Bool := tv u fun us => decide (lo ≤ us.length) && decide (us.length ≤ hi)
theorem spv_asc {H : Hp} {a : Addr} {ns : List Int} (ha : H a = some (.tup (ns.map V.int))) (h1 : 1 ≤ ns.length) (h2 : ns.length ≤ 1000) : SpV spAsc [.ref a] H (.bl (ascI ns)) := fun H1 e Q q E => ⟨a, ns, rfl, e _ _ ha, h1, h2, q⟩
theorem jd_members {f f1 f2 : Addr} {fd d1 d2 : FuncData} (D : Df K mg "is_members" sMembers ["thing"] f fd) (S : Bs K mg C) (N : Cn mg) (J : Jd P wd K mg base C 2 "is_home" "thing" f1 d1 gHome) (DA : Df K mg "is_ascending" sAscending ["things"] f2 d2) :
    Jd P wd K mg base C 4 "is_members" "thing" f fd gMembers := by
  refine ⟨D.F.ok scMembers lenJ (fun cdv A outer s H vs Q E hr h => ?_), D.g, D.F.kp, D.b⟩
  obtain ⟨v, u, w, rfl, hat, fi, k⟩ := h
  obtain ⟨t, h9⟩ := N.homes
  have GA : FnOk P wd K mg base CX0 3 f2 d2 ["things"] spAsc := (ok_asc DA.F S.B).mono (by decide)
  refine ⟨_, pss_cons (ps_if (PW.pt (pw_or (pt_not (pt_val (pe_isiX S (by rfl) (by rfl) S.B.tup boot_tuple' (by decide) (pv 0) (by decide) (by decide))))
      (pw_or1 (pt_not (pt_chain op_le op_le pe_int (pe_callB call_len_seq (by rfl) S.B.len PySem.boot_len (pa_cons (pv 0) pa_nil)) (pe_glob (v := .int 9) rfl h9 ⟨_, rfl⟩))))))
      (pss_one (ps_ret pe_bl)) pss_nil)
    (pss_one (ps_ret (pe_and (pe_callB (cr_all rfl) (by rfl) S.B.all boot_all' (pa_cons (pe_lc (own := [("item", 1)]) (g := gName 1) (tt := tYes) rfl scMembers.nd (pi_tup (pv 0)) (blkOk_by (N := ["thing", "item"]) (sc := defScope sMembers) (by decide +kernel))
      (fun _ _ _ _ _ => pg_name (i := 1) scMembers.nd rfl (Or.inl rfl)) (fun _ _ _ _ _ => pts_nil) (fun _ _ _ _ _ => pe_J J hr (by decide) (by rfl) pass0 (pv 1))) pa_nil))
      (pe_one (pe_call GA hr (by rfl) DA.g DA.F.kp DA.b .nil pass0 (pa_cons (pv 0) pa_nil)))))), ?_⟩
  refine s_if (b := !isT u "tuple" || !lenB 1 9 u) (et_or (et_not (et_B (ev_isi (ev_var rfl) hat))) fun q => ?_) (fun q H1 e => ?_) (fun q H1 e => ?_)
  · rw [Bool.not_eq_false'] at q
    obtain ⟨us, rfl⟩ := isT_tup q
    obtain ⟨a, xs, rfl, ha, _, hl⟩ := at_tup hat
    exact et_not (et_test (ev_is (ev_chain ev_c (ev_lenTU (K := K) (ev_var rfl) ha hl) ev_c rv_I0 fun _ => rv_I0) (by rw [show (9 : Int) = ((9 : Nat) : Int) from rfl, show (1 : Int) = ((1 : Nat) : Int) from rfl, dec_le, dec_le]; rfl)))
  · refine s_ret ev_c fun H2 e2 => ?_
    have e3 : gMembers u = false := by
      cases u with
      | tup us =>
        simp [isT, isS, tyU] at q
        show ((lenB 1 9 (.tup us) && _) && _) = false
        rw [q]
        rfl
      | _ => rfl
    rw [← e3]
    exact k H2 (e.trans e2)
  · rw [Bool.or_eq_false_iff, Bool.not_eq_false', Bool.not_eq_false'] at q
    obtain ⟨us, rfl⟩ := isT_tup q.1
    obtain ⟨a, xs, rfl, ha, _, hl⟩ := at_tup (ex_at e hat)
    have hb : (decide (1 ≤ us.length) && decide (us.length ≤ 9)) = true := q.2
    rw [Bool.and_eq_true] at hb
    have b1 : 1 ≤ us.length := of_decide_eq_true hb.1
    have b2 : us.length ≤ 9 := of_decide_eq_true hb.2
    refine s_ret (ev_andV (b := ascI (us.map intU)) (ev_allT (g := gHome) (ev_var rfl) ha fi.len hl (fun _ => rfl) fun x u hu hx => ev_J (ev_var rfl) hx (fi.tup u hu)) fun q2 => ?_) fun H2 e2 => ?_
    · have hx := ints_of hl (homes_ints q2)
      rw [hx] at ha
      exact ev_call (ea_cons (ev_var rfl) ea_nil) (spv_asc ha (by rw [List.length_map]; exact b1) (by rw [List.length_map]; omega))
    · have e3 : gMembers (.tup us) = (us.all gHome && ascI (us.map intU)) := by
        show ((lenB 1 9 (.tup us) && us.all gHome) && _) = _
        rw [q.2]
        rfl
      rw [← e3]
      exact k H2 (e.trans e2)
end
end Hs
/-! tuples of integers and texts: which is less -/
namespace Hk
open PySem PySem.Spec PyProof.Rows L2
/-- two keys of one kind -/
def kin : L2.Key → L2.Key → Bool
  | .inl _, .inl _ => true
  | .inr _, .inr _ => true
  | _, _ => false
def kEq : L2.Key → L2.Key → Bool
  | .inl i, .inl j => i == j
  | .inr x, .inr y => x == y
  | _, _ => false
def kLt : L2.Key → L2.Key → Bool
  | .inl i, .inl j => decide (i < j)
  | .inr x, .inr y => decide (x.cps.toList < y.cps.toList)
  | _, _ => false
/-- by the first pair that differs -/
def ltK : List L2.Key → List L2.Key → Bool
  | [], [] => false
  | [], _ :: _ => true
  | _ :: _, [] => false
  | k :: ks, l :: ls => if kEq k l = true then ltK ks ls else kLt k l
def kinds : List L2.Key → List L2.Key → Bool
  | k :: ks, l :: ls => kin k l && kinds ks ls
  | _, _ => true
theorem kEq_iff {k l : L2.Key} : kEq k l = true ↔ k = l := by
  cases k with
  | inl i => cases l with
    | inl j => simp [kEq]
    | inr y => simp [kEq]
  | inr x => cases l with
    | inl j => simp [kEq]
    | inr y => simp [kEq]
def d0 : L2.Key := .inl 0
theorem lexAt_is : ∀ (ks ls : List L2.Key) (i : Nat) (e r : Nat → Bool), (∀ j, e (i + j) = kEq (ks.getD j d0) (ls.getD j d0)) → (∀ j, r (i + j) = kLt (ks.getD j d0) (ls.getD j d0)) →
    Ob.lexAt e r (decide (ks.length < ls.length)) i (min ks.length ls.length) = ltK ks ls
  | [], [], i, e, r, _, _ => rfl
  | [], _ :: _, i, e, r, _, _ => by
    show Ob.lexAt e r _ i 0 = true
    rw [Ob.lexAt_zero]
    simp
  | _ :: _, [], i, e, r, _, _ => by
    show Ob.lexAt e r _ i 0 = false
    rw [Ob.lexAt_zero]
    simp
  | k :: ks, l :: ls, i, e, r, he, hr => by
    have h0 := he 0
    have h1 := hr 0
    rw [Nat.add_zero] at h0 h1
    have ih := lexAt_is ks ls (i + 1) e r (fun j => by
      have := he (j + 1)
      rw [show i + 1 + j = i + (j + 1) from by omega, this]
      rfl) (fun j => by
      have := hr (j + 1)
      rw [show i + 1 + j = i + (j + 1) from by omega, this]
      rfl)
    have el : decide ((k :: ks).length < (l :: ls).length) = decide (ks.length < ls.length) := by
      rw [List.length_cons, List.length_cons]
      by_cases q : ks.length < ls.length
      · rw [decide_eq_true q, decide_eq_true (by omega)]
      · rw [decide_eq_false q, decide_eq_false (by omega)]
    have em : min (k :: ks).length (l :: ls).length = min ks.length ls.length + 1 := by
      rw [List.length_cons, List.length_cons]
      omega
    rw [el, em, Ob.lexAt_succ, ih, h0, h1]
    rfl
section
variable {X : Cx}
def rLtK (K : PySem.W.Frag) : R2 := fun x y H Q => ∃ (a b : Addr) (ks ls : List L2.Key), x = .ref a ∧ y = .ref b ∧ SqT K H a (ks.map kV) ∧ SqT K H b (ls.map kV) ∧ kinds ks ls = true ∧ Q (.bl (ltK ks ls)) H
theorem rel_at : ∀ {ks : List L2.Key} {us : List Value}, Vals (ks.map kV) us → ∀ j (h : j < us.length), RelV (kV (ks.getD j d0)) us[j]
  | [], us, r, j, h => by
    cases r
    exact absurd h (Nat.not_lt_zero _)
  | k :: ks, us, r, j, h => by
    rw [List.map_cons] at r
    cases r with
    | cons r1 r2 =>
      cases j with
      | zero => exact r1
      | succ j => exact rel_at r2 j (Nat.lt_of_succ_lt_succ h)
theorem kinds_at : ∀ {ks ls : List L2.Key}, kinds ks ls = true → ∀ j, j < ks.length → j < ls.length → kin (ks.getD j d0) (ls.getD j d0) = true
  | [], _, _, j, h, _ => absurd h (Nat.not_lt_zero _)
  | _ :: _, [], _, j, _, h => absurd h (Nat.not_lt_zero _)
  | k :: ks, l :: ls, q, j, h1, h2 => by
    unfold kinds at q
    rw [Bool.and_eq_true] at q
    cases j with
    | zero => exact q.1
    | succ j => exact kinds_at q.2 j (Nat.lt_of_succ_lt_succ h1) (Nat.lt_of_succ_lt_succ h2)
theorem op_ltK (hu : X.A.units < cLine) : OpR X (compareOp .Lt) (rLtK X.K) := by
  intro pins s σ H x y v u Q I rx ry h
  obtain ⟨a, b, ks, ls, rfl, rfl, ha, hb, hk, q⟩ := h
  cases rx
  cases ry
  obtain ⟨xs, r1, p1, _⟩ := I.tuple ha
  obtain ⟨ys, r2, p2, _⟩ := I.tuple hb
  have l1 : xs.toArray.size = ks.length := by
    have := r1.length
    rw [List.length_map] at this
    rw [List.size_toArray, this]
  have l2 : ys.toArray.size = ls.length := by
    have := r2.length
    rw [List.length_map] at this
    rw [List.size_toArray, this]
  have main := Ob.RcOp.tuples_lt (A := X.A) (s := s) (e := fun j => kEq (ks.getD j d0) (ls.getD j d0)) (r := fun j => kLt (ks.getD j d0) (ls.getD j d0)) p1 p2 hu (fun j h1 h2 => by
    have v1 := rel_at r1 j (by simpa using h1)
    have v2 := rel_at r2 j (by simpa using h2)
    have kk := kinds_at hk j (l1 ▸ h1) (l2 ▸ h2)
    have g1 : xs.toArray[j] = xs[j]'(by simpa using h1) := by simp
    have g2 : ys.toArray[j] = ys[j]'(by simpa using h2) := by simp
    rw [g1, g2]
    generalize ks.getD j d0 = k at v1 kk ⊢
    generalize ls.getD j d0 = l at v2 kk ⊢
    cases k with
    | inl i => cases l with
      | inl j =>
        obtain ⟨t, e1⟩ := v1
        obtain ⟨t', e2⟩ := v2
        rw [e1, e2]
        exact SeqAt.EqAt.int_int _ _ _ _
      | inr y => cases kk
    | inr z => cases l with
      | inl j => cases kk
      | inr y =>
        obtain ⟨t, e1⟩ := v1
        obtain ⟨t', e2⟩ := v2
        rw [e1, e2]
        exact SeqAt.EqAt.str_str _ _ _ _) (fun j h1 h2 _ => by
    have v1 := rel_at r1 j (by simpa using h1)
    have v2 := rel_at r2 j (by simpa using h2)
    have kk := kinds_at hk j (l1 ▸ h1) (l2 ▸ h2)
    have g1 : xs.toArray[j] = xs[j]'(by simpa using h1) := by simp
    have g2 : ys.toArray[j] = ys[j]'(by simpa using h2) := by simp
    rw [g1, g2]
    generalize ks.getD j d0 = k at v1 kk ⊢
    generalize ls.getD j d0 = l at v2 kk ⊢
    cases k with
    | inl i => cases l with
      | inl j =>
        obtain ⟨t, e1⟩ := v1
        obtain ⟨t', e2⟩ := v2
        rw [e1, e2]
        exact Ob.RcOp.lt_int _ _ _ _
      | inr y => cases kk
    | inr z => cases l with
      | inl j => cases kk
      | inr y =>
        obtain ⟨t, e1⟩ := v1
        obtain ⟨t', e2⟩ := v2
        rw [e1, e2]
        exact fun prog w E Q h => PyProof.Rows.lt_str h)
  rw [l1, l2, lexAt_is ks ls 0 _ _ (fun j => by rw [Nat.zero_add]) (fun j => by rw [Nat.zero_add])] at main
  exact main X.prog X.w X.xe (EP X pins σ Q) ⟨.bl (ltK ks ls), H, I, rfl, q⟩
end
/-! ### a strict order -/
theorem strLt_irrefl (a : List Nat) : ¬ a < a := List.lt_irrefl a
theorem kLt_irrefl (k : L2.Key) : kLt k k = false := by
  cases k with
  | inl i => simp [kLt]
  | inr x => exact decide_eq_false (List.lt_irrefl _)
end Hk
/-! any value against an empty tuple; a tuple of such against four empty ones; is_ascending of anything that compares -/
namespace Hs
open PySem PySem.Spec PyProof.Rows L2 Hu Evl
/-- compared with (): nothing, a flag, an integer, a text, a tuple, a list -/
inductive Nc (K : PySem.W.Frag) (H : Hp) : V → Bool → Prop
  | non : Nc K H .non false
  | bl (b : Bool) : Nc K H (.bl b) false
  | int (i : Int) : Nc K H (.int i) false
  | str (z : Str) : Nc K H (.str z) false
  | tup {a : Addr} {xs : List V} : SqT K H a xs → Nc K H (.ref a) xs.isEmpty
  | lst {a : Addr} {xs : List V} : SqL K H a xs → Nc K H (.ref a) false
section
variable {X : Cx} {pins : List (Addr × Obj)} {σ : L2.St} {H : Hp} {s : Shared} {x : V} {u : Value} {e : Bool} {c : Addr}
theorem empty_arr {α : Type} {xs : List V} {its : List Value} (h : Vals xs its) : (its.toArray.size == 0) = xs.isEmpty := by
  rw [List.size_toArray, ← h.length]
  cases xs <;> rfl
theorem vals_nil {its : List Value} (h : Vals [] its) : its = [] := by
  cases h
  rfl
theorem Nc.rc {A : Around} (n : Nc X.K H x e) (I : Inv X pins σ H s) (r : RelV x u) (hc : SqT X.K H c []) (hu2 : A.units < cLine) : SeqAt.EqAt A s u (.ref c) e := by
  obtain ⟨cs, rc, pc, _⟩ := I.tuple hc
  have ec := vals_nil rc
  subst ec
  cases n with
  | non =>
    cases r
    exact SeqAt.EqAt.none_tuple pc hu2
  | bl b =>
    cases r
    exact SeqAt.EqAt.bool_tuple b pc hu2
  | int i =>
    obtain ⟨t, rfl⟩ := r
    exact SeqAt.EqAt.int_tuple i t pc hu2
  | str z =>
    obtain ⟨t, rfl⟩ := r
    exact SeqAt.EqAt.str_tuple z t pc hu2
  | @tup a xs h =>
    cases r
    obtain ⟨its, r1, p1, _⟩ := I.tuple h
    by_cases q : a = c
    · subst q
      have := I.tuple_inj h hc
      subst this
      exact SeqAt.EqAt.same _
    · have m := SeqAt.RcAt.tuples (A := A) (s := s) (e := fun _ => true) p1 pc hu2 (fun j h1 h2 => absurd h2 (by simp))
      have e1 : ((List.range (min its.toArray.size (#[] : Array Value).size)).all (fun _ => true) && its.toArray.size == (#[] : Array Value).size) = xs.isEmpty := by
        rw [← empty_arr (α := Unit) r1]
        simp
      rw [show ([] : List Value).toArray = #[] from rfl, e1] at m
      exact SeqAt.EqAt.of_refs q m
  | @lst a xs h =>
    cases r
    obtain ⟨its, r1, p1, _⟩ := I.list h
    exact SeqAt.EqAt.list_tuple p1.isList pc hu2
/-- x == () -/
def rEqN (K : PySem.W.Frag) : R2 := fun x y H Q => ∃ c e, y = .ref c ∧ SqT K H c [] ∧ Nc K H x e ∧ Q (.bl e) H
theorem op_eqN (hu : X.A.units + 64 < cLine) : OpR X (compareOp .Eq) (rEqN X.K) := by
  intro pins s σ H x y v u Q I rx ry h
  obtain ⟨c, e, rfl, hc, n, q⟩ := h
  cases ry
  obtain ⟨cs, rc, pc, _⟩ := I.tuple hc
  have ec := vals_nil rc
  subst ec
  have hu2 : X.A.units < cLine := by omega
  have done : EP X pins σ Q (.bool e) s := ⟨.bl e, H, I, rfl, q⟩
  cases n with
  | non =>
    cases rx
    exact SeqAt.RcAt.none_tuple pc hu2 X.prog X.w X.xe _ done
  | bl b =>
    cases rx
    exact SeqAt.RcAt.bool_tuple b pc hu2 X.prog X.w X.xe _ done
  | int i =>
    obtain ⟨t, rfl⟩ := rx
    exact SeqAt.RcAt.int_tuple i t pc hu2 X.prog X.w X.xe _ done
  | str z =>
    obtain ⟨t, rfl⟩ := rx
    exact SeqAt.RcAt.str_tuple z t pc hu2 X.prog X.w X.xe _ done
  | @tup a xs h =>
    cases rx
    obtain ⟨its, r1, p1, _⟩ := I.tuple h
    have m := SeqAt.RcAt.tuples (A := X.A) (s := s) (e := fun _ => true) p1 pc hu2 (fun j h1 h2 => absurd h2 (by simp))
    have e1 : ((List.range (min its.toArray.size (#[] : Array Value).size)).all (fun _ => true) && its.toArray.size == (#[] : Array Value).size) = xs.isEmpty := by
      rw [← empty_arr (α := Unit) r1]
      simp
    rw [show ([] : List Value).toArray = #[] from rfl, e1] at m
    exact m X.prog X.w X.xe _ done
  | @lst a xs h =>
    cases rx
    obtain ⟨its, r1, p1, _⟩ := I.list h
    exact SeqAt.RcAt.list_tuple p1.isList pc hu2 X.prog X.w X.xe _ done
end
end Hs
namespace Hs
open PySem PySem.Spec PyProof.Rows L2 Hu Evl
/-! ### a tuple against empty ones -/
inductive NcL (K : PySem.W.Frag) (H : Hp) : List V → List Bool → Prop
  | nil : NcL K H [] []
  | cons {x : V} {e : Bool} {xs : List V} {es : List Bool} : Nc K H x e → NcL K H xs es → NcL K H (x :: xs) (e :: es)
theorem NcL.len {K : PySem.W.Frag} {H : Hp} {xs : List V} {es : List Bool} (h : NcL K H xs es) : xs.length = es.length := by
  induction h with
  | nil => rfl
  | cons _ _ ih => rw [List.length_cons, List.length_cons, ih]
theorem NcL.at {K : PySem.W.Frag} {H : Hp} {xs : List V} {es : List Bool} (h : NcL K H xs es) : ∀ (j : Nat) (x : V), xs[j]? = some x → Nc K H x (es.getD j true) := by
  induction h with
  | nil => exact fun j x e => by simp at e
  | cons h1 _ ih =>
    refine fun j x e => ?_
    cases j with
    | zero =>
      cases e
      exact h1
    | succ j => exact ih j x e
theorem range_all : ∀ es : List Bool, (List.range es.length).all (fun j => es.getD j true) = es.all id
  | [] => rfl
  | e :: es => by
    rw [List.length_cons, List.range_succ_eq_map, List.all_cons, List.all_map, List.all_cons, ← range_all es]
    rfl
section
variable {X : Cx}
theorem valsGet {xs : List V} {us : List Value} (h : Vals xs us) (j : Nat) (hj : j < us.length) : ∃ x, xs[j]? = some x ∧ RelV x us[j] := by
  induction h generalizing j with
  | nil => exact absurd hj (Nat.not_lt_zero _)
  | cons h1 h2 ih =>
    cases j with
    | zero => exact ⟨_, rfl, h1⟩
    | succ j => exact ih j (Nat.lt_of_succ_lt_succ hj)
/-- x == ((), .., ()) -/
def rEqNs (K : PySem.W.Frag) : R2 := fun x y H Q => ∃ (a b : Addr) (xs : List V) (cs : List Addr) (es : List Bool), x = .ref a ∧ y = .ref b ∧ SqT K H a xs ∧ SqT K H b (cs.map V.ref) ∧ (∀ c ∈ cs, SqT K H c []) ∧ cs.length = xs.length ∧ NcL K H xs es ∧ Q (.bl (es.all id)) H
theorem op_eqNs (hu : X.A.units + 64 < cLine) : OpR X (compareOp .Eq) (rEqNs X.K) := by
  intro pins s σ H x y v u Q I rx ry h
  obtain ⟨a, b, xs, cs, es, rfl, rfl, ha, hb, hc, hl, n, q⟩ := h
  cases rx
  cases ry
  obtain ⟨its, r1, p1, _⟩ := I.tuple ha
  obtain ⟨its2, r2, p2, _⟩ := I.tuple hb
  have l1 := r1.length
  have l2 := r2.length
  rw [List.length_map] at l2
  have m := SeqAt.RcAt.tuples (A := X.A) (s := s) (e := fun j => es.getD j true) p1 p2 (by omega) (fun j h1 h2 => by
    have g1 : its.toArray[j] = its[j]'(by simpa using h1) := by simp
    have g2 : its2.toArray[j] = its2[j]'(by simpa using h2) := by simp
    rw [g1, g2]
    obtain ⟨x, e1, rx⟩ := valsGet r1 j (by simpa using h1)
    obtain ⟨y, e2, ry⟩ := valsGet r2 j (by simpa using h2)
    rw [List.getElem?_map] at e2
    cases e3 : cs[j]? with
    | none =>
      rw [e3] at e2
      cases e2
    | some c =>
      rw [e3] at e2
      have e4 : V.ref c = y := Option.some.inj e2
      subst e4
      have e5 : its2[j]'(by simpa using h2) = Value.ref c := ry
      rw [e5]
      exact (n.at j x e1).rc (A := X.A.in1) I rx (hc c (List.mem_of_getElem? e3)) (show X.A.units + 1 < cLine by omega))
  have e1 : ((List.range (min its.toArray.size its2.toArray.size)).all (fun j => es.getD j true) && its.toArray.size == its2.toArray.size) = es.all id := by
    have z1 : its.toArray.size = es.length := by rw [List.size_toArray, ← l1, n.len]
    have z2 : its2.toArray.size = es.length := by rw [List.size_toArray, ← l2, hl, n.len]
    rw [z1, z2, Nat.min_self, range_all]
    simp
  rw [e1] at m
  exact m X.prog X.w X.xe (EP X pins σ Q) ⟨.bl _, H, I, rfl, q⟩
end
/-! ### is_ascending -/
section
variable {K : PySem.W.Frag} {σ : L2.St} {H : Hp} {t te : TE}
theorem el_rngM {ta : TA} {te : TE} {j : Nat} {vs : List Nat} {n : Int} (v : Nat → V) (h : EvA ta σ H [.int n]) (hn : -1 ≤ n ∧ n ≤ 40000) (hw : ∀ x, wipe ((wipe σ vs).set j (some x)) vs = wipe σ vs)
    (he : ∀ (i : Nat), (i : Int) < n → Ev te ((wipe σ vs).set j (some (.int (i : Int)))) H (v i)) :
    EvL (tLc (iRng1 ta) (gName j) tYes te vs) σ H ((List.range n.toNat).map v) := fun H0 e Q q => h H0 e _ fun H1 e1 => ⟨n, rfl, by omega, by omega, fun Dl hD =>
  lc_range (lo := 0) (n := n.toNat) (Cw H1 (fun _ => true) v Dl) ⟨hD, Ex.new hD, upd_same⟩ (fun i H' hi p => by
    have e0 : (0 : Int) + (i : Int) = (i : Int) := Int.zero_add _
    show wipe ((wipe σ vs).set j (some (.int ((0 : Int) + (i : Int))))) vs = wipe σ vs ∧ tYes ((wipe σ vs).set j (some (.int ((0 : Int) + (i : Int))))) H' fun b H3 => if b = true then te ((wipe σ vs).set j (some (.int ((0 : Int) + (i : Int))))) H3 fun y H4 => ∃ acc, H4 Dl = some (.lst acc) ∧ acc.length < sizeLine ∧ Cw H1 (fun _ => true) v Dl (i + 1) (upd H4 Dl (.lst (acc ++ [y]))) else Cw H1 (fun _ => true) v Dl (i + 1) H3
    rw [e0]
    exact ⟨hw _, cw_turn p (by omega) et_yes (fun _ => (he i (by omega)).mono (e.trans e1))⟩) (fun H' p => q Dl H' (fresh_back e1 p.1) (e1.trans p.2.1) (by rw [← given_all]; exact p.2.2))⟩
end
def ascN (n : Nat) (lt : Nat → Bool) : Bool := (List.range (n - 1)).all lt
/-- is_ascending: ri how an item is taken, r how two compare -/
def spAscG (K : PySem.W.Frag) (ri r : R2) : Sp := fun vs H Q _ => ∃ (a : Addr) (xs : List V) (lt : Nat → Bool), vs = [.ref a] ∧ (SqL K H a xs ∨ SqT K H a xs) ∧ xs.length ≤ 40000 ∧
  (∀ (k : Nat) x, xs[k]? = some x → RV ri (.ref a) (.int (k : Int)) H x) ∧ (∀ (k : Nat) x y, xs[k]? = some x → xs[k + 1]? = some y → RV r x y H (.bl (lt k))) ∧ ∀ H', Same H H' → Q (.bl (ascN xs.length lt)) H'
section
variable {P : Program} {wd : World} {K : PySem.W.Frag} {mg : Str → Option Value} {base : Heap} {C : Addr}
theorem sq_ex {H H' : Hp} {a : Addr} {xs : List V} (e : Ex H H') (h : SqL K H a xs ∨ SqT K H a xs) : SqL K H' a xs ∨ SqT K H' a xs := h.elim (fun h => .inl (ex_l e h)) (fun h => .inr (ex_t e h))
theorem ascG_reads {σ : L2.St} {H : Hp} {a : Addr} {xs : List V} {lt : Nat → Bool} {ri r : R2} (h0 : σ = [some (.ref a), none]) (ha : SqL K H a xs ∨ SqT K H a xs) (hz : xs.length ≤ 40000)
    (hi : ∀ (k : Nat) x, xs[k]? = some x → RV ri (.ref a) (.int (k : Int)) H x) (hr : ∀ (k : Nat) x y, xs[k]? = some x → xs[k + 1]? = some y → RV r x y H (.bl (lt k))) :
    Ev (tCB (rAll K) (tCons (tLc (iRng1 (tCons (tOp (rI0 fun i j => .int (i - j)) (tCB (rLenQ K) (tCons (tVar 0) tNil)) (tC (.int 1))) tNil)) (gName 1) tYes (tOp r (tOp ri (tVar 0) (tVar 1)) (tOp ri (tVar 0) (tOp (rI0 fun i j => .int (i + j)) (tVar 1) (tC (.int 1))))) [1]) tNil)) σ H (.bl (ascN xs.length lt)) := by
  subst h0
  have main : EvL (tLc (iRng1 (tCons (tOp (rI0 fun i j => .int (i - j)) (tCB (rLenQ K) (tCons (tVar 0) tNil)) (tC (.int 1))) tNil)) (gName 1) tYes (tOp r (tOp ri (tVar 0) (tVar 1)) (tOp ri (tVar 0) (tOp (rI0 fun i j => .int (i + j)) (tVar 1) (tC (.int 1))))) [1]) [some (.ref a), none] H
      ((List.range ((xs.length : Int) - 1).toNat).map fun k => .bl (lt k)) :=
    el_rngM (n := (xs.length : Int) - 1) (fun k => .bl (lt k)) (ea_cons (ev_op (ev_cb (ea_cons (ev_var rfl) ea_nil) fun H1 e Q q => ⟨a, xs, rfl, sq_ex e ha, q H1 (Ex.refl H1)⟩) ev_c rv_I0) ea_nil) (by omega) (fun _ => rfl) (fun i hi' => by
      have h1 : i + 1 < xs.length := by omega
      exact ev_op (ev_op (ev_var rfl) (ev_var rfl) (hi i _ (List.getElem?_eq_getElem (by omega)))) (ev_op (ev_var rfl) (ev_op (z := .int ((i + 1 : Nat) : Int)) (ev_var rfl) ev_c rv_I0) (hi (i + 1) _ (List.getElem?_eq_getElem h1))) (hr i _ _ (List.getElem?_eq_getElem (by omega)) (List.getElem?_eq_getElem h1)))
  refine ev_cb1 main fun p H2 h2 e2 Q q => ⟨p, (List.range (xs.length - 1)).map lt, rfl, sq_of ?_, ?_⟩
  · rw [h2, show ((xs.length : Int) - 1).toNat = xs.length - 1 from by omega, List.map_map]
    rfl
  · have e : ((List.range (xs.length - 1)).map lt).all id = ascN xs.length lt := by
      rw [List.all_map]
      rfl
    rw [e]
    exact q H2 (Ex.refl H2)
theorem ok_ascG {ri r : R2} {f : Addr} {fd : FuncData} (F : Fun K "is_ascending" "is_ascending" sAscending f fd) (B : Bt mg) (hix : ∀ X : Cx, X.K = K → IxR X ri) (hop : ∀ X : Cx, X.K = K → X.A.units + 64 < cLine → OpR X (compareOp .Lt) r) :
    FnOk P wd K mg base CX0 1 f fd ["things"] (spAscG K ri r) := by
  refine F.ok scAsc (fun vs H Q E h => ?_) (fun cdv A outer s H vs Q E hr h => ?_)
  · obtain ⟨n, m, _, rfl, _⟩ := h
    rfl
  · obtain ⟨a, xs, lt, rfl, ha, hz, hi, hl, k⟩ := h
    refine ⟨_, pss_one (ps_ret (pe_callB (cr_all rfl) (by rfl) B.all boot_all' (pa_cons (pe_lc (own := [("k", 1)]) (g := gName 1) (tt := tYes) rfl scAsc.nd (pi_range1 (by rfl) B.range (pa_cons (pe_op op_sub (pe_callB call_len_seq (by rfl) B.len PySem.boot_len (pa_cons (pv 0) pa_nil)) pe_int) pa_nil)) (blkOk_by (N := ["things", "k"]) (sc := defScope sAscending) (by decide +kernel))
      (fun _ _ _ _ _ => pg_name (i := 1) scAsc.nd rfl (Or.inl rfl)) (fun _ _ _ _ _ => pts_nil) (fun _ _ _ _ _ => pe_cmpR (hop _ rfl (room_hu hr)) (pe_ix (hix _ rfl) (pv 0) (pv 1) (fun _ _ => rfl)) (pe_ix (hix _ rfl) (pv 0) (pe_op op_add (pv 1) pe_int) (fun _ _ => rfl)) (nomark _))) pa_nil))), ?_⟩
    exact s_ret (ascG_reads rfl ha hz hi hl) k
end
end Hs
namespace Hs
open PySem PySem.Spec PyProof.Rows L2 Hu Evl
abbrev sCount : Stmt := topS 11
abbrev sTO : Stmt := topS 26
abbrev sAhead : Stmt := topS 27
abbrev sVote : Stmt := topS 28
abbrev sHeads : Stmt := topS 29
abbrev sNamed : Stmt := topS 30
abbrev sBlocks : Stmt := topS 31
abbrev sBlk : Stmt := topS 32
/-! ### judges of some values -/
def spJw (C : Addr) (S : U → Prop) (g : U → Bool) : Sp := fun vs H Q _ => ∃ (v : V) (u : U) (w : Addr), vs = [v] ∧ At w C H v u ∧ Fine u ∧ S u ∧ (∃ o, H w = some o) ∧ ∀ H', Same H H' → Q (.bl (g u)) H'
structure Jw (P : Program) (w : World) (K : PySem.W.Frag) (mg : Str → Option Value) (base : Heap) (C : Addr) (k : Nat) (x : Str) (p : Str) (f : Addr) (fd : FuncData) (S : U → Prop) (g : U → Bool) : Prop where
  ok : FnOk P w K mg base CX0 k f fd [p] (spJw C S g)
  g : mg x = some (.ref f)
  kp : PySem.W.keepIn K (.ref f) = true
  b : Binds K fd [p] []
theorem lenJw {C : Addr} {S : U → Prop} {g : U → Bool} {p : Str} : ∀ vs H Q E, spJw C S g vs H Q E → vs.length = [p].length := fun vs H Q E h => by
  obtain ⟨v, u, w, rfl, _⟩ := h
  rfl
theorem ev_Jw {C : Addr} {S : U → Prop} {g : U → Bool} {H : Hp} {v : V} {u : U} {w : Addr} {σ : L2.St} {te : TE} {E : XK} (h : Evl.Ev te σ H v) (hat : At w C H v u) (fi : Fine u) (hs : S u) (hw : ∃ o, H w = some o) : Evl.Ev (tCall (spJw C S g) [] E (tCons te tNil)) σ H (.bl (g u)) :=
  Evl.ev_call (Evl.ea_cons h Evl.ea_nil) fun H1 e Q q E => ⟨v, u, w, rfl, ex_at e hat, fi, hs, hw.imp fun o z => e _ _ z, q⟩
section
variable {X : Cx} {C : Addr} {CX : CXT} {E : XK}
theorem pe_Jw {x p : Str} {k j : Nat} {f : Addr} {fd : FuncData} {S : U → Prop} {g : U → Bool} {e : Expr} {te : TE} {ps pos : Pos} (J : Jw X.prog X.w X.K X.mg X.base C k x p f fd S g) (hr : Room j X.A) (h : k ≤ j) (hg : Gl X x) (hx : Passes CX0 X E) (he : PE X e te) (hdb : (x == ("__debug__" : Str)) = false := by decide)
    (hst : starEach [e] X.env = (false, eval e X.env) :: starEach [] X.env := by rfl) (hpl : (backTo pos (starEach [] X.env)).any (·.1) = false := by rfl) :
    PE X (.Call (.Name x ps) [e] [] pos) (tCall (spJw C S g) [] E (tCons te tNil)) :=
  pe_call J.ok (hr.mono h) hg J.g J.kp J.b .nil hx (pa_cons he pa_nil hst) hdb hst hpl
end
def nilU (u : U) : Bool := match u with | .tup us => us.isEmpty | _ => false
/-- it compares with tuples -/
def okN (u : U) : Prop := match u with | .dct _ | .exc => False | _ => True
theorem nc_at {K : PySem.W.Frag} {w C : Addr} {H : Hp} {v : V} {u : U} (h : At w C H v u) (ok : okN u) : Nc K H v (nilU u) := by
  cases h with
  | non => exact .non
  | bl b => exact .bl b
  | int i => exact .int i
  | str z => exact .str z
  | @tup a xs us ha _ hl =>
    have : us.isEmpty = xs.isEmpty := by cases hl <;> rfl
    show Nc K H (.ref a) us.isEmpty
    rw [this]
    exact .tup (st_of ha)
  | lst ha _ hl => exact .lst (sq_of ha)
  | dct _ _ _ _ _ => exact absurd ok (by simp [okN])
  | exc _ _ _ _ => exact absurd ok (by simp [okN])
theorem Nc.ex {K : PySem.W.Frag} {H H' : Hp} {v : V} {e : Bool} (x : Ex H H') (h : Nc K H v e) : Nc K H' v e := by
  cases h with
  | non => exact .non
  | bl b => exact .bl b
  | int i => exact .int i
  | str z => exact .str z
  | tup h => exact .tup (ex_t x h)
  | lst h => exact .lst (ex_l x h)
theorem rv_eqN {K : PySem.W.Frag} {H : Hp} {v : V} {e : Bool} {c : Addr} (h : Nc K H v e) (hc : H c = some (.tup [])) : RV (rEqN K) v (.ref c) H (.bl e) := fun H1 x Q q => ⟨c, e, rfl, ex_t x (st_of hc), h.ex x, q H1 (Ex.refl H1)⟩
/-! ### lists of tuples of keys -/
inductive TkL (H : Hp) : List V → List (List L2.Key) → Prop
  | nil : TkL H [] []
  | cons {p : Addr} {ks : List L2.Key} {vs : List V} {kss : List (List L2.Key)} : H p = some (.tup (ks.map kV)) → TkL H vs kss → TkL H (.ref p :: vs) (ks :: kss)
theorem TkL.ex {H H' : Hp} {vs : List V} {kss : List (List L2.Key)} (e : Ex H H') (h : TkL H vs kss) : TkL H' vs kss := by
  induction h with
  | nil => exact .nil
  | cons h _ ih => exact .cons (e _ _ h) ih
theorem TkL.tups {H H' : Hp} {vs : List V} {kss : List (List L2.Key)} (e : ∀ b zs, H b = some (.tup zs) → H' b = some (.tup zs)) (h : TkL H vs kss) : TkL H' vs kss := by
  induction h with
  | nil => exact .nil
  | cons h _ ih => exact .cons (e _ _ h) ih
theorem TkL.len {H : Hp} {vs : List V} {kss : List (List L2.Key)} (h : TkL H vs kss) : vs.length = kss.length := by
  induction h with
  | nil => rfl
  | cons _ _ ih => rw [List.length_cons, List.length_cons, ih]
theorem TkL.snoc {H : Hp} {vs : List V} {kss : List (List L2.Key)} {p : Addr} {ks : List L2.Key} (h : TkL H vs kss) (hp : H p = some (.tup (ks.map kV))) : TkL H (vs ++ [.ref p]) (kss ++ [ks]) := by
  induction h with
  | nil => exact .cons hp .nil
  | cons h _ ih => exact .cons h ih
theorem TkL.get {H : Hp} {vs : List V} {kss : List (List L2.Key)} (h : TkL H vs kss) : ∀ {j : Nat} {v : V}, vs[j]? = some v → ∃ p ks, v = .ref p ∧ kss[j]? = some ks ∧ H p = some (.tup (ks.map kV)) := by
  induction h with
  | nil => exact fun e => by simp at e
  | cons h _ ih =>
    intro j v e
    cases j with
    | zero =>
      cases e
      exact ⟨_, _, rfl, rfl, h⟩
    | succ j => exact ih e
/-- tuples of keys in a row -/
def ascK (kss : List (List L2.Key)) : Bool := ascN kss.length fun k => Hk.ltK (kss.getD k []) (kss.getD (k + 1) [])
def kinK (kss : List (List L2.Key)) : Prop := ∀ ks ∈ kss, ∀ ls ∈ kss, Hk.kinds ks ls = true
section
variable {K : PySem.W.Frag} {σ : L2.St} {H : Hp} {tl te : TE} {xs : List V} {us : List U} {w C : Addr}
theorem ev_callL1 {sp : Sp} {E : XK} {z : V} (h : EvL te σ H xs) (hs : ∀ p H1, H1 p = some (.lst xs) → Ex H H1 → ∀ Q : VK, (∀ H2, Ex H1 H2 → Q z H2) → ∀ E, sp [.ref p] H1 Q E) : Ev (tCall sp [] E (tCons te tNil)) σ H z :=
  fun H0 e Q q => h H0 e _ fun p H1 hp e1 h1 => hs p H1 h1 (e.trans e1) Q (fun H2 e2 => q H2 (e1.trans e2)) _
/-- [f(x) for x in a tuple], each a tuple of keys -/
theorem lc_newK {a : Addr} {j : Nat} {vs : List Nat} {f : U → List L2.Key} (h : Ev tl σ H (.ref a)) (hx : H a = some (.tup xs)) (hz : us.length ≤ 40000) (hl : AtL w C H xs us) (hw : ∀ x, wipe ((wipe σ vs).set j (some x)) vs = wipe σ vs)
    (he : ∀ (x : V) (u : U) G, u ∈ us → Ex H G → At w C G x u → ∀ Q : VK, (∀ p G', Ex G G' → G' p = some (.tup ((f u).map kV)) → Q (.ref p) G') → te ((wipe σ vs).set j (some x)) G Q) :
    ∀ H0, Ex H H0 → ∀ Q : VK, (∀ p ys H', H0 p = none → Ex H0 H' → H' p = some (.lst ys) → TkL H' ys (us.map f) → Q (.ref p) H') → tLc (iTup K tl) (gName j) tYes te vs σ H0 Q := fun H0 e Q q => h H0 e _ fun H1 e1 => ⟨a, rfl, ⟨xs, st_of ((e.trans e1) _ _ hx)⟩, fun Dl hD =>
  lc_tup (xs := xs) (fun i H' => Ex H1 H' ∧ ∃ ys, H' Dl = some (.lst ys) ∧ TkL H' ys ((us.take i).map f)) ⟨Ex.new hD, [], upd_same, .nil⟩ (fun i H' _ p => st_of (((e.trans e1).trans p.1) _ _ hx)) (fun i x H2 hi p => by
    obtain ⟨p1, ys, p2, p3⟩ := p
    have hlen := AtL.length hl
    have hu : i < us.length := by
      have := (List.getElem?_eq_some_iff.mp hi).1
      omega
    obtain ⟨x', hx', hax⟩ := AtL.get hl (List.getElem?_eq_getElem hu)
    rw [hi] at hx'
    cases hx'
    have e2 := (e.trans e1).trans p1
    refine ⟨hw x, he x us[i] H2 (List.getElem_mem hu) e2 (ex_at e2 hax) _ fun b H3 e3 o3 => ⟨ys, e3 _ _ p2, ?_, fun q o hq => ?_, ys ++ [.ref b], upd_same, ?_⟩⟩
    · have hyl := p3.len
      rw [List.length_map, List.length_take] at hyl
      have := bit_line
      unfold bit at this
      omega
    · rw [upd_ne (ne_of_none hq hD)]
      exact e3 _ _ (p1 _ _ hq)
    · have nt : ∀ b' zs, H3 b' = some (.tup zs) → upd H3 Dl (.lst (ys ++ [.ref b])) b' = some (.tup zs) := fun b' zs hb' => by
        rw [upd_ne (fun z => by rw [z, e3 _ _ p2] at hb'; cases hb')]
        exact hb'
      have t3 := (p3.ex e3).tups nt
      rw [List.take_add_one, List.getElem?_eq_getElem hu, List.map_append]
      exact t3.snoc (nt _ _ o3)) (fun H' p => by
    obtain ⟨p1, ys, p2, p3⟩ := p
    rw [AtL.length hl, List.take_length] at p3
    exact q Dl ys H' (fresh_back e1 hD) (e1.trans p1) p2 p3)⟩
/-- [v(x) for x in a tuple], the values found -/
theorem el_mapX {a : Addr} {j : Nat} {vs : List Nat} (v : Nat → V) (h : Ev tl σ H (.ref a)) (hx : H a = some (.tup xs)) (hz : xs.length ≤ 40000) (hw : ∀ x, wipe ((wipe σ vs).set j (some x)) vs = wipe σ vs)
    (he : ∀ (i : Nat) (x : V), xs[i]? = some x → Ev te ((wipe σ vs).set j (some x)) H (v i)) :
    EvL (tLc (iTup K tl) (gName j) tYes te vs) σ H ((List.range xs.length).map v) := fun H0 e Q q => h H0 e _ fun H1 e1 => ⟨a, rfl, ⟨xs, st_of ((e.trans e1) _ _ hx)⟩, fun Dl hD =>
  lc_tup (xs := xs) (Cw H1 (fun _ => true) v Dl) ⟨hD, Ex.new hD, upd_same⟩ (fun i H' _ p => st_of (((e.trans e1).trans p.2.1) _ _ hx)) (fun i x H' hi p => ⟨hw x, cw_turn p (by have := (List.getElem?_eq_some_iff.mp hi).1; omega) et_yes (fun _ => (he i x hi).mono (e.trans e1))⟩)
    (fun H' p => q Dl H' (fresh_back e1 p.1) (e1.trans p.2.1) (by rw [← given_all]; exact p.2.2))⟩
end
/-! ### is_ascending of texts, of tuples of keys -/
abbrev rLtS : R2 := fun x y H Q => ∃ i j, x = .str i ∧ y = .str j ∧ Q (.bl (decide (i.cps.toList < j.cps.toList))) H
def e0z : Str := ⟨#[]⟩
def ascZ (zs : List Str) : Bool := ascN zs.length fun k => decide ((zs.getD k e0z).cps.toList < (zs.getD (k + 1) e0z).cps.toList)
theorem getD_some {α : Type} {xs : List α} {k : Nat} {x d : α} (h : xs[k]? = some x) : xs.getD k d = x := by
  rw [List.getD_eq_getElem?_getD, h]
  rfl
section
variable {P : Program} {wd : World} {K : PySem.W.Frag} {mg : Str → Option Value} {base : Heap} {C : Addr}
theorem asc_strL {H : Hp} {a : Addr} {zs : List Str} (ha : H a = some (.lst (zs.map V.str))) (hz : zs.length ≤ 40000) (Q : VK) (q : ∀ H2, Ex H H2 → Q (.bl (ascZ zs)) H2) (E : XK) : spAscG K (rIxL K) rLtS [.ref a] H Q E := by
  refine ⟨a, zs.map V.str, (fun k => decide ((zs.getD k e0z).cps.toList < (zs.getD (k + 1) e0z).cps.toList)), rfl, .inl (sq_of ha), (by rw [List.length_map]; exact hz), fun k x hx => rv_ixL (sq_of ha) (atI_nat hx), fun k x y hx hy => ?_, ?_⟩
  · rw [List.getElem?_map] at hx hy
    cases h1 : zs[k]? with
    | none => rw [h1] at hx; cases hx
    | some z => cases h2 : zs[k + 1]? with
      | none => rw [h2] at hy; cases hy
      | some z2 =>
        rw [h1] at hx
        rw [h2] at hy
        cases hx
        cases hy
        dsimp only
        rw [getD_some h1, getD_some h2]
        exact fun H1 e Q q => ⟨z, z2, rfl, rfl, q H1 (Ex.refl H1)⟩
  · rw [List.length_map]
    exact q
theorem asc_tkL {H : Hp} {a : Addr} {ys : List V} {kss : List (List L2.Key)} (ha : H a = some (.lst ys)) (ht : TkL H ys kss) (hk : kinK kss) (hz : kss.length ≤ 40000) (Q : VK) (q : ∀ H2, Ex H H2 → Q (.bl (ascK kss)) H2) (E : XK) : spAscG K (rIxL K) (Hk.rLtK K) [.ref a] H Q E := by
  refine ⟨a, ys, (fun k => Hk.ltK (kss.getD k []) (kss.getD (k + 1) [])), rfl, .inl (sq_of ha), (by rw [ht.len]; exact hz), fun k x hx => rv_ixL (sq_of ha) (atI_nat hx), fun k x y hx hy => ?_, ?_⟩
  · obtain ⟨p, ks, rfl, h1, hp⟩ := ht.get hx
    obtain ⟨p2, ls, rfl, h2, hp2⟩ := ht.get hy
    dsimp only
    rw [getD_some h1, getD_some h2]
    exact fun H1 e Q q => ⟨p, p2, ks, ls, rfl, rfl, st_of (e _ _ hp), st_of (e _ _ hp2), hk _ (List.mem_of_getElem? h1) _ (List.mem_of_getElem? h2), q H1 (Ex.refl H1)⟩
  · rw [ht.len]
    exact q
theorem ok_ascZ {f : Addr} {fd : FuncData} (F : Fun K "is_ascending" "is_ascending" sAscending f fd) (B : Bt mg) : FnOk P wd K mg base CX0 1 f fd ["things"] (spAscG K (rIxL K) rLtS) :=
  ok_ascG F B (fun X e => e ▸ ix_list) (fun X e _ => op_lt_str)
theorem ok_ascK {f : Addr} {fd : FuncData} (F : Fun K "is_ascending" "is_ascending" sAscending f fd) (B : Bt mg) : FnOk P wd K mg base CX0 1 f fd ["things"] (spAscG K (rIxL K) (Hk.rLtK K)) :=
  ok_ascG F B (fun X e => e ▸ ix_list) (fun X e h => e ▸ Hk.op_ltK (by omega))
end
end Hs
namespace Hs
open PySem PySem.Spec PyProof.Rows L2 Hu Evl
/-! ### heads, blocks, votes -/
def gCnt (u : U) : Bool := iv u fun i => decide (0 ≤ i)
def gTO (m : Nat) (u : U) : Bool := tv u fun us => decide (us.length = m)
def gAhead (u : U) : Bool := nilU u || gMembers u
def gVote (u : U) : Bool := isNon u || tv u fun us => two us fun a b => gStamp a && gMembers b
def nth (u : U) (k : Nat) : U := match u with | .tup us => us.getD k .non | _ => .non
def gNamed (u : U) : Bool := gTO 3 u && (gNam (nth u 0) && (gStamp (nth u 1) && gRow (nth u 2)))
def strU (u : U) : Str := match u with | .str z => z | _ => e0z
def gHeads (u : U) : Bool := tv u fun us => us.all gNamed && ascZ (us.map fun u => strU (nth u 0))
def gBlk (u : U) : Bool := gPair u && (gId (nth u 0) && gPiece (nth u 1))
def keyU (u : U) : L2.Key := match u with | .str z => .inr z | .int i => .inl i | _ => .inl 0
def keysU (u : U) : List L2.Key := match u with | .tup us => us.map keyU | _ => []
def gBlocks (u : U) : Bool := tv u fun us => us.all gBlk && ascK (us.map fun u => keysU (nth u 0))
/-- small enough for its rows to be looked through -/
def Sm (u : U) : Prop := wt u ≤ 70000
theorem Sm.len {us : List U} (h : Sm (.tup us)) : us.length ≤ 40000 := by
  have := wt_len us
  unfold Sm at h
  simp only [wt] at h
  omega
section
variable {P : Program} {wd : World} {K : PySem.W.Frag} {mg : Str → Option Value} {base : Heap} {C : Addr}
theorem scCnt : FnScope ["thing"] ["thing"] (defScope sCount) := ⟨rfl, rfl, rfl, by decide +kernel, rfl, by decide +kernel, by decide +kernel⟩
theorem jd_cnt {f fI : Addr} {fd fdI : FuncData} (D : Df K mg "is_count" sCount ["thing"] f fd) (S : Bs K mg C) (J : Jd P wd K mg base C 1 "is_integer" "thing" fI fdI gInt) : Jd P wd K mg base C 2 "is_count" "thing" f fd gCnt := by
  refine ⟨D.F.ok scCnt lenJ (fun cdv A outer s H vs Q E hr h => ?_), D.g, D.F.kp, D.b⟩
  obtain ⟨v, u, w, rfl, hat, fi, k⟩ := h
  refine ⟨_, pss_one (ps_ret (pe_and (pe_J J hr (by decide) (by rfl) pass0 (pv 0)) (pe_one (pe_cmpR op_ge (pv 0) pe_int (nomark _))))), ?_⟩
  refine s_ret (ev_andV (b := gCnt u) (ev_J (ev_var rfl) hat fi) fun q => ?_) fun H1 e => ?_
  · obtain ⟨i, rfl⟩ := gInt_int q
    cases at_int hat
    exact ev_op (ev_var rfl) ev_c rv_I0
  · unfold gCnt
    rw [iv_and]
    exact k H1 e
/-! is_tuple_of -/
theorem scTO : FnScope ["many", "thing"] ["many", "thing"] (defScope sTO) := ⟨rfl, rfl, rfl, by decide +kernel, rfl, by decide +kernel, by decide +kernel⟩
def spTO (C : Addr) : Sp := fun vs H Q _ => ∃ (m : Nat) (v : V) (u : U) (w : Addr), vs = [.int (m : Int), v] ∧ At w C H v u ∧ ∀ H', Same H H' → Q (.bl (gTO m u)) H'
theorem ok_TO {f : Addr} {fd : FuncData} (D : Df K mg "is_tuple_of" sTO ["many", "thing"] f fd) (S : Bs K mg C) : FnOk P wd K mg base CX0 1 f fd ["many", "thing"] (spTO C) := by
  refine D.F.ok scTO (fun vs H Q E h => ?_) (fun cdv A outer s H vs Q E hr h => ?_)
  · obtain ⟨m, v, u, w, rfl, _⟩ := h
    rfl
  · obtain ⟨m, v, u, w, rfl, hat, k⟩ := h
    refine ⟨_, pss_one (ps_ret (pe_and (pe_isiX S (by rfl) (by rfl) S.B.tup boot_tuple' (by decide) (pv 1) (by decide) (by decide)) (pe_one (pe_cmpR op_eq (pe_callB call_len_seq (by rfl) S.B.len PySem.boot_len (pa_cons (pv 1) pa_nil)) (pv 0) (nomark _))))), ?_⟩
    refine s_ret (ev_andV (b := gTO m u) (ev_isi (ev_var rfl) hat) fun q => ?_) fun H1 e => ?_
    · obtain ⟨us, rfl⟩ := isT_tup q
      obtain ⟨a, xs, rfl, ha, _, hl⟩ := at_tup hat
      have := ev_op (r := rEq) (σ := [some (V.int (m : Int)), some (V.ref a)]) (ev_lenT (K := K) (te := tVar 1) (ev_var rfl) ha) (ev_var (i := 0) rfl) (rv_eq rfl)
      rw [dec_eq, AtL.length hl] at this
      exact this
    · unfold gTO
      rw [tv_and]
      exact k H1 e
structure JTO (P : Program) (wd : World) (K : PySem.W.Frag) (mg : Str → Option Value) (base : Heap) (C : Addr) (f : Addr) (fd : FuncData) : Prop where
  D : Df K mg "is_tuple_of" sTO ["many", "thing"] f fd
  ok : FnOk P wd K mg base CX0 1 f fd ["many", "thing"] (spTO C)
theorem ev_TO {σ : L2.St} {H : Hp} {tm te : TE} {E : XK} {m : Nat} {v : V} {u : U} {w : Addr} (hm : Ev tm σ H (.int (m : Int))) (h : Ev te σ H v) (hat : At w C H v u) : Ev (tCall (spTO C) [] E (tCons tm (tCons te tNil))) σ H (.bl (gTO m u)) :=
  ev_call (ea_cons hm (ea_cons h ea_nil)) fun H1 e Q q E => ⟨m, v, u, w, rfl, ex_at e hat, q⟩
theorem gTO_of {m : Nat} {u : U} (h : gTO m u = true) : ∃ us, u = .tup us ∧ us.length = m := by
  cases u with
  | tup us => exact ⟨us, rfl, of_decide_eq_true h⟩
  | _ => cases h
theorem atl_get {w : Addr} {H : Hp} {xs : List V} {us : List U} (h : AtL w C H xs us) {k : Nat} (hk : k < us.length) : ∃ x, xs[k]? = some x ∧ At w C H x (us.getD k .non) := by
  obtain ⟨x, hx, ha⟩ := AtL.get h (List.getElem?_eq_getElem hk)
  refine ⟨x, hx, ?_⟩
  rw [getD_some (List.getElem?_eq_getElem hk)]
  exact ha
/-- an item of a tuple, with its data -/
theorem ev_nth {σ : L2.St} {H : Hp} {te : TE} {v : V} {u : U} {w : Addr} {m k : Nat} (h : Ev te σ H v) (hat : At w C H v u) (hm : gTO m u = true) (hk : k < m) : ∃ x, Ev (tOp (rIxT K) te (tC (.int (k : Int)))) σ H x ∧ At w C H x (nth u k) := by
  obtain ⟨us, rfl, rfl⟩ := gTO_of hm
  obtain ⟨a, xs, rfl, ha, _, hl⟩ := at_tup hat
  obtain ⟨x, hx, hax⟩ := atl_get hl hk
  exact ⟨x, ev_ixT h ha hx, hax⟩
theorem fine_nth {m k : Nat} {u : U} (hm : gTO m u = true) (hk : k < m) (fi : Fine u) : Fine (nth u k) := by
  obtain ⟨us, rfl, rfl⟩ := gTO_of hm
  show Fine (us.getD k .non)
  rw [getD_some (List.getElem?_eq_getElem hk)]
  exact fi.tup _ (List.getElem_mem hk)
/-! is_ahead -/
theorem scAhead : FnScope ["thing"] ["thing"] (defScope sAhead) := ⟨rfl, rfl, rfl, by decide +kernel, rfl, by decide +kernel, by decide +kernel⟩
theorem jw_ahead {f f1 : Addr} {fd d1 : FuncData} (D : Df K mg "is_ahead" sAhead ["thing"] f fd) (S : Bs K mg C) (J : Jd P wd K mg base C 4 "is_members" "thing" f1 d1 gMembers) : Jw P wd K mg base C 5 "is_ahead" "thing" f fd okN gAhead := by
  refine ⟨D.F.ok scAhead lenJw (fun cdv A outer s H vs Q E hr h => ?_), D.g, D.F.kp, D.b⟩
  obtain ⟨v, u, w, rfl, hat, fi, hs, hw, k⟩ := h
  refine ⟨_, pss_one (ps_ret (pe_or (pe_cmpR (op_eqN (room_hu hr)) (pv 0) (pe_tup pa_nil) (nomark _)) (pe_one (pe_J J hr (by decide) (by rfl) pass0 (pv 0))))), ?_⟩
  exact s_ret (ev_orV (ev_opU (ev_var rfl) (eu_tup ea_nil (by decide)) fun q H1 hq e1 => rv_eqN ((nc_at hat hs).ex e1) hq) fun _ => ev_J (ev_var rfl) hat fi) fun H1 e => k H1 e
/-! is_vote -/
theorem scVote : FnScope ["thing"] ["thing"] (defScope sVote) := ⟨rfl, rfl, rfl, by decide +kernel, rfl, by decide +kernel, by decide +kernel⟩
theorem jd_vote {f f1 f2 f3 : Addr} {fd d1 d2 d3 : FuncData} (D : Df K mg "is_vote" sVote ["thing"] f fd) (S : Bs K mg C) (JP : Jd P wd K mg base C 1 "is_pair" "thing" f1 d1 gPair) (JS : Jd P wd K mg base C 3 "is_stamp" "thing" f2 d2 gStamp)
    (JM : Jd P wd K mg base C 4 "is_members" "thing" f3 d3 gMembers) : Jd P wd K mg base C 5 "is_vote" "thing" f fd gVote := by
  refine ⟨D.F.ok scVote lenJ (fun cdv A outer s H vs Q E hr h => ?_), D.g, D.F.kp, D.b⟩
  obtain ⟨v, u, w, rfl, hat, fi, k⟩ := h
  refine ⟨_, pss_one (ps_ret (pe_or (pe_cmpR op_isN1 (pv 0) pe_non (nomark _)) (pe_one (pe_and (pe_J JP hr (by decide) (by rfl) pass0 (pv 0)) (pe_and (pe_J JS hr (by decide) (by rfl) pass0 (pe_ix ix_tup (pv 0) pe_int (fun _ _ => rfl))) (pe_one (pe_J JM hr (by decide) (by rfl) pass0 (pe_ix ix_tup (pv 0) pe_int (fun _ _ => rfl))))))))), ?_⟩
  refine s_ret (ev_orV (a := isNon u) (ev_is (ev_isN (ev_var rfl)) (by rw [at_non hat])) fun _ => ev_andV (b := tv u fun us => two us fun a b => gStamp a && gMembers b) (ev_J (ev_var rfl) hat fi) fun q => ?_) fun H1 e => ?_
  · obtain ⟨a, b, rfl⟩ := gPair_two q
    obtain ⟨p, x, y, rfl, hp, ha, hb⟩ := pair_at hat
    exact ev_andV (ev_J (ev_ixT (j := 0) (ev_var rfl) hp rfl) ha fi.fst) fun _ => ev_J (ev_ixT (j := 1) (ev_var rfl) hp rfl) hb fi.snd
  · rw [pair_and]
    exact k H1 e
/-! _is_named_head -/
theorem scNamed : FnScope ["thing"] ["thing"] (defScope sNamed) := ⟨rfl, rfl, rfl, by decide +kernel, rfl, by decide +kernel, by decide +kernel⟩
theorem jd_named {f f1 f2 f3 f4 : Addr} {fd d1 d2 d3 d4 : FuncData} (D : Df K mg "_is_named_head" sNamed ["thing"] f fd) (S : Bs K mg C) (JT : JTO P wd K mg base C f1 d1) (JN : Jd P wd K mg base C 2 "is_name" "thing" f2 d2 gNam)
    (JS : Jd P wd K mg base C 3 "is_stamp" "thing" f3 d3 gStamp) (JR : Jd P wd K mg base C 4 "is_row" "thing" f4 d4 gRow) : Jd P wd K mg base C 5 "_is_named_head" "thing" f fd gNamed := by
  refine ⟨D.F.ok scNamed lenJ (fun cdv A outer s H vs Q E hr h => ?_), D.g, D.F.kp, D.b⟩
  obtain ⟨v, u, w, rfl, hat, fi, k⟩ := h
  refine ⟨_, pss_one (ps_ret (pe_and (pe_call JT.ok (hr.mono (by decide)) (by rfl) JT.D.g JT.D.F.kp JT.D.b .nil pass0 (pa_cons pe_int (pa_cons (pv 0) pa_nil))) (pe_and (pe_J JN hr (by decide) (by rfl) pass0 (pe_ix ix_tup (pv 0) pe_int (fun _ _ => rfl)))
    (pe_and (pe_J JS hr (by decide) (by rfl) pass0 (pe_ix ix_tup (pv 0) pe_int (fun _ _ => rfl))) (pe_one (pe_J JR hr (by decide) (by rfl) pass0 (pe_ix ix_tup (pv 0) pe_int (fun _ _ => rfl)))))))), ?_⟩
  refine s_ret (ev_andV (a := gTO 3 u) (ev_TO (m := 3) ev_c (ev_var rfl) hat) fun q => ?_) fun H1 e => k H1 e
  obtain ⟨x0, e0, h0⟩ := ev_nth (K := K) (σ := [some v]) (te := tVar 0) (k := 0) (ev_var rfl) hat q (by decide)
  obtain ⟨x1, e1, h1⟩ := ev_nth (K := K) (σ := [some v]) (te := tVar 0) (k := 1) (ev_var rfl) hat q (by decide)
  obtain ⟨x2, e2, h2⟩ := ev_nth (K := K) (σ := [some v]) (te := tVar 0) (k := 2) (ev_var rfl) hat q (by decide)
  exact ev_andV (ev_J e0 h0 (fine_nth q (by decide) fi)) fun _ => ev_andV (ev_J e1 h1 (fine_nth q (by decide) fi)) fun _ => ev_J e2 h2 (fine_nth q (by decide) fi)
/-! _is_block -/
theorem scBlk : FnScope ["thing"] ["thing"] (defScope sBlk) := ⟨rfl, rfl, rfl, by decide +kernel, rfl, by decide +kernel, by decide +kernel⟩
theorem jd_blk {f f1 f2 f3 : Addr} {fd d1 d2 d3 : FuncData} (D : Df K mg "_is_block" sBlk ["thing"] f fd) (S : Bs K mg C) (JP : Jd P wd K mg base C 1 "is_pair" "thing" f1 d1 gPair) (JI : Jd P wd K mg base C 3 "is_block_id" "thing" f2 d2 gId)
    (JC : Jd P wd K mg base C 2 "is_piece" "thing" f3 d3 gPiece) : Jd P wd K mg base C 5 "_is_block" "thing" f fd gBlk := by
  refine ⟨D.F.ok scBlk lenJ (fun cdv A outer s H vs Q E hr h => ?_), D.g, D.F.kp, D.b⟩
  obtain ⟨v, u, w, rfl, hat, fi, k⟩ := h
  refine ⟨_, pss_one (ps_ret (pe_and (pe_J JP hr (by decide) (by rfl) pass0 (pv 0)) (pe_and (pe_J JI hr (by decide) (by rfl) pass0 (pe_ix ix_tup (pv 0) pe_int (fun _ _ => rfl))) (pe_one (pe_J JC hr (by decide) (by rfl) pass0 (pe_ix ix_tup (pv 0) pe_int (fun _ _ => rfl))))))), ?_⟩
  refine s_ret (ev_andV (ev_J (ev_var rfl) hat fi) fun q => ?_) fun H1 e => k H1 e
  obtain ⟨a, b, rfl⟩ := gPair_two q
  obtain ⟨p, x, y, rfl, hp, ha, hb⟩ := pair_at hat
  exact ev_andV (ev_J (ev_ixT (j := 0) (ev_var rfl) hp rfl) ha fi.fst) fun _ => ev_J (ev_ixT (j := 1) (ev_var rfl) hp rfl) hb fi.snd
end
end Hs
namespace Hs
open PySem PySem.Spec PyProof.Rows L2 Hu Evl
abbrev sTable : Stmt := topS 55
abbrev sKept : Stmt := topS 56
abbrev sLeases : Stmt := topS 57
abbrev sLease : Stmt := topS 58
def gLease (u : U) : Bool := gTO 4 u && (gNam (nth u 0) && gHand (nth u 1)) && (gCnt (nth u 2) && gCnt (nth u 3))
def keyL (u : U) : List L2.Key := [keyU (nth u 0), keyU (nth u 1)]
def gLeases (u : U) : Bool := tv u fun us => us.all gLease && ascK (us.map keyL)
theorem gNam_str {u : U} (h : gNam u = true) : ∃ z, u = .str z := by
  cases u with
  | str z => exact ⟨z, rfl⟩
  | _ => cases h
theorem and3 {a b c : Bool} (h : (a && (b && c)) = true) : a = true ∧ b = true ∧ c = true := by
  rw [Bool.and_eq_true, Bool.and_eq_true] at h
  exact h
theorem and2 {a b : Bool} (h : (a && b) = true) : a = true ∧ b = true := by
  rw [Bool.and_eq_true] at h
  exact h
section
variable {P : Program} {wd : World} {K : PySem.W.Frag} {mg : Str → Option Value} {base : Heap} {C : Addr}
theorem names_at {w : Addr} {H : Hp} : ∀ {us : List U} {xs : List V}, AtL w C H xs us → us.all gNamed = true → ∀ (i : Nat) (x : V), xs[i]? = some x → ∃ p ys, x = .ref p ∧ H p = some (.tup ys) ∧ ys[0]? = some (.str ((us.map fun u => strU (nth u 0)).getD i e0z))
  | [], _, .nil, _, i, x, h => by simp at h
  | u :: us, _, .cons hu l, q, i, x, h => by
    rw [List.all_cons] at q
    obtain ⟨q1, q2⟩ := and2 q
    cases i with
    | zero =>
      cases h
      obtain ⟨a1, a2, _⟩ := and3 (a := gTO 3 u) (b := gNam (nth u 0)) (c := gStamp (nth u 1) && gRow (nth u 2)) q1
      obtain ⟨vs, rfl, hl⟩ := gTO_of a1
      obtain ⟨p, ys, rfl, hp, _, hys⟩ := at_tup hu
      obtain ⟨y, hy, hay⟩ := atl_get hys (k := 0) (by omega)
      obtain ⟨z, hz⟩ := gNam_str a2
      have hz' : vs.getD 0 .non = .str z := hz
      rw [hz'] at hay
      rw [at_str hay] at hy
      refine ⟨p, ys, rfl, hp, ?_⟩
      rw [hy]
      show some (V.str z) = some (V.str (strU (vs.getD 0 .non)))
      rw [hz']
      rfl
    | succ i => exact names_at l q2 i x h
theorem scHeads : FnScope ["thing", "item"] ["thing"] (defScope sHeads) := ⟨rfl, rfl, rfl, by decide +kernel, rfl, by decide +kernel, by decide +kernel⟩
theorem range_names (zs : List Str) (n : Nat) (h : n = zs.length) : (List.range n).map (fun i => V.str (zs.getD i e0z)) = zs.map V.str := by
  subst h
  refine List.ext_getElem? fun j => ?_
  rw [List.getElem?_map, List.getElem?_map]
  by_cases q : j < zs.length
  · rw [List.getElem?_range q, List.getElem?_eq_getElem q]
    show some (V.str (zs.getD j e0z)) = _
    rw [getD_some (List.getElem?_eq_getElem q)]
    rfl
  · rw [List.getElem?_eq_none (by simpa using q), List.getElem?_eq_none (by simpa using q)]
    rfl
theorem jw_heads {f f1 f2 : Addr} {fd d1 d2 : FuncData} (D : Df K mg "is_heads" sHeads ["thing"] f fd) (S : Bs K mg C) (J : Jd P wd K mg base C 5 "_is_named_head" "thing" f1 d1 gNamed) (DA : Df K mg "is_ascending" sAscending ["things"] f2 d2) :
    Jw P wd K mg base C 6 "is_heads" "thing" f fd Sm gHeads := by
  refine ⟨D.F.ok scHeads lenJw (fun cdv A outer s H vs Q E hr h => ?_), D.g, D.F.kp, D.b⟩
  obtain ⟨v, u, w, rfl, hat, fi, hs, hw, k⟩ := h
  have GA : FnOk P wd K mg base CX0 5 f2 d2 ["things"] (spAscG K (rIxL K) rLtS) := (ok_ascZ DA.F S.B).mono (by decide)
  refine ⟨_, pss_cons (ps_if (PW.pt (pw_or (pt_not (pt_val (pe_isiX S (by rfl) (by rfl) S.B.tup boot_tuple' (by decide) (pv 0) (by decide) (by decide))))
      (pw_or1 (pt_not (pt_val (pe_callB (cr_all rfl) (by rfl) S.B.all boot_all' (pa_cons (pe_lc (own := [("item", 1)]) (g := gName 1) (tt := tYes) rfl scHeads.nd (pi_tup (pv 0)) (blkOk_by (N := ["thing", "item"]) (sc := defScope sHeads) (by decide +kernel))
        (fun _ _ _ _ _ => pg_name (i := 1) scHeads.nd rfl (Or.inl rfl)) (fun _ _ _ _ _ => pts_nil) (fun _ _ _ _ _ => pe_J J hr (by decide) (by rfl) pass0 (pv 1))) pa_nil)))))))
      (pss_one (ps_ret pe_bl)) pss_nil)
    (pss_one (ps_ret (pe_call GA (hr.mono (by decide)) (by rfl) DA.g DA.F.kp DA.b .nil pass0 (pa_cons (pe_lc (own := [("item", 1)]) (g := gName 1) (tt := tYes) rfl scHeads.nd (pi_tup (pv 0)) (blkOk_by (N := ["thing", "item"]) (sc := defScope sHeads) (by decide +kernel))
        (fun _ _ _ _ _ => pg_name (i := 1) scHeads.nd rfl (Or.inl rfl)) (fun _ _ _ _ _ => pts_nil) (fun _ _ _ _ _ => pe_ix (show IxR _ (rIxT K) from ix_tup) (pv 1) pe_int (fun _ _ => rfl))) pa_nil)))), ?_⟩
  refine s_if (b := !isT u "tuple" || !(tv u fun us => us.all gNamed)) (et_or (et_not (et_B (ev_isi (ev_var rfl) hat))) fun q => ?_) (fun q H1 e => ?_) (fun q H1 e => ?_)
  · rw [Bool.not_eq_false'] at q
    obtain ⟨us, rfl⟩ := isT_tup q
    obtain ⟨a, xs, rfl, ha, _, hl⟩ := at_tup hat
    exact et_not (et_B (ev_allT (g := gNamed) (ev_var rfl) ha fi.len hl (fun _ => rfl) fun x u hu hx => ev_J (ev_var rfl) hx (fi.tup u hu)))
  · refine s_ret ev_c fun H2 e2 => ?_
    have e3 : gHeads u = false := by
      cases u with
      | tup us =>
        simp [isT, isS, tyU, tv] at q
        show (us.all gNamed && _) = false
        rw [Bool.and_eq_false_iff]
        exact .inl (by simpa using q)
      | _ => rfl
    rw [← e3]
    exact k H2 (e.trans e2)
  · rw [Bool.or_eq_false_iff, Bool.not_eq_false', Bool.not_eq_false'] at q
    obtain ⟨us, rfl⟩ := isT_tup q.1
    have q2 : us.all gNamed = true := q.2
    obtain ⟨a, xs, rfl, ha, _, hl⟩ := at_tup (ex_at e hat)
    have hlen := AtL.length hl
    dsimp only [tNext]
    refine s_ret (ev_callL1 (xs := (us.map fun u => strU (nth u 0)).map V.str) (z := .bl (ascZ (us.map fun u => strU (nth u 0)))) ?_ fun p H2 h2 e2 Q q E => asc_strL h2 (by rw [List.length_map]; exact Sm.len hs) Q q E) fun H2 e2 => ?_
    · rw [← range_names _ xs.length (by rw [List.length_map]; exact hlen)]
      exact el_mapX _ (ev_var rfl) ha (by rw [hlen]; exact Sm.len hs) (fun _ => rfl) fun i x hx => by
        obtain ⟨p, ys, rfl, hp, hy⟩ := names_at hl q2 i x hx
        exact ev_ixT (j := 0) (ev_var rfl) hp hy
    · have e3 : gHeads (.tup us) = ascZ (us.map fun u => strU (nth u 0)) := by
        show (us.all gNamed && _) = _
        rw [q2]
        rfl
      rw [← e3]
      exact k H2 (e.trans e2)
/-- a call with a new list of which something is known -/
theorem ev_callX {sp : Sp} {E : XK} {z : V} {te : TE} {σ : L2.St} {H : Hp} {R : List V → Hp → Prop} (h : ∀ H0, Ex H H0 → ∀ Q : VK, (∀ p ys H', H0 p = none → Ex H0 H' → H' p = some (.lst ys) → R ys H' → Q (.ref p) H') → te σ H0 Q)
    (hs : ∀ p ys H1, H1 p = some (.lst ys) → R ys H1 → ∀ Q : VK, (∀ H2, Ex H1 H2 → Q z H2) → ∀ E, sp [.ref p] H1 Q E) : Ev (tCall sp [] E (tCons te tNil)) σ H z :=
  fun H0 e Q q => h H0 e _ fun p ys H1 hp e1 h1 r => hs p ys H1 h1 r Q (fun H2 e2 => q H2 (e1.trans e2)) _
/-! is_blocks -/
theorem scBlocks : FnScope ["thing", "item"] ["thing"] (defScope sBlocks) := ⟨rfl, rfl, rfl, by decide +kernel, rfl, by decide +kernel, by decide +kernel⟩
theorem gHand_int {u : U} (h : gHand u = true) : ∃ i, u = .int i := by
  cases u with
  | int i => exact ⟨i, rfl⟩
  | _ => cases h
theorem gFrom_int {u : U} (h : gFrom u = true) : ∃ i, u = .int i := by
  cases u with
  | int i => exact ⟨i, rfl⟩
  | _ => cases h
theorem gId_two {u : U} (h : gId u = true) : ∃ i j, u = .tup [.int i, .int j] := by
  cases u with
  | tup us =>
    match us, h with
    | [a, b], h =>
      obtain ⟨h1, h2⟩ := and2 (a := gHand a) (b := gFrom b) h
      obtain ⟨i, rfl⟩ := gHand_int h1
      obtain ⟨j, rfl⟩ := gFrom_int h2
      exact ⟨i, j, rfl⟩
  | _ => cases h
theorem two_ints {w : Addr} {H : Hp} {v : V} {i j : Int} (h : At w C H v (.tup [.int i, .int j])) : ∃ p, v = .ref p ∧ H p = some (.tup [.int i, .int j]) := by
  obtain ⟨p, x, y, rfl, hp, hx, hy⟩ := pair_at h
  rw [at_int hx, at_int hy] at hp
  exact ⟨p, rfl, hp⟩
theorem gBlk_is {u : U} (h : gBlk u = true) : ∃ i j b, u = .tup [.tup [.int i, .int j], b] := by
  obtain ⟨h1, h2, _⟩ := and3 h
  obtain ⟨a, b, rfl⟩ := gPair_two h1
  obtain ⟨i, j, e⟩ := gId_two h2
  have e' : a = .tup [.int i, .int j] := e
  exact ⟨i, j, b, by rw [e']⟩
theorem kin_blks {us : List U} (h : us.all gBlk = true) : kinK (us.map fun u => keysU (nth u 0)) := fun ks h1 ls h2 => by
  obtain ⟨u, hu, rfl⟩ := List.mem_map.mp h1
  obtain ⟨x, hx, rfl⟩ := List.mem_map.mp h2
  obtain ⟨i, j, b, rfl⟩ := gBlk_is (List.all_eq_true.mp h u hu)
  obtain ⟨i', j', b', rfl⟩ := gBlk_is (List.all_eq_true.mp h x hx)
  rfl
theorem jw_blocks {f f1 f2 : Addr} {fd d1 d2 : FuncData} (D : Df K mg "is_blocks" sBlocks ["thing"] f fd) (S : Bs K mg C) (J : Jd P wd K mg base C 5 "_is_block" "thing" f1 d1 gBlk) (DA : Df K mg "is_ascending" sAscending ["things"] f2 d2) :
    Jw P wd K mg base C 6 "is_blocks" "thing" f fd Sm gBlocks := by
  refine ⟨D.F.ok scBlocks lenJw (fun cdv A outer s H vs Q E hr h => ?_), D.g, D.F.kp, D.b⟩
  obtain ⟨v, u, w, rfl, hat, fi, hs, hw, k⟩ := h
  have GA : FnOk P wd K mg base CX0 5 f2 d2 ["things"] (spAscG K (rIxL K) (Hk.rLtK K)) := (ok_ascK DA.F S.B).mono (by decide)
  refine ⟨_, pss_cons (ps_if (PW.pt (pw_or (pt_not (pt_val (pe_isiX S (by rfl) (by rfl) S.B.tup boot_tuple' (by decide) (pv 0) (by decide) (by decide))))
      (pw_or1 (pt_not (pt_val (pe_callB (cr_all rfl) (by rfl) S.B.all boot_all' (pa_cons (pe_lc (own := [("item", 1)]) (g := gName 1) (tt := tYes) rfl scBlocks.nd (pi_tup (pv 0)) (blkOk_by (N := ["thing", "item"]) (sc := defScope sBlocks) (by decide +kernel))
        (fun _ _ _ _ _ => pg_name (i := 1) scBlocks.nd rfl (Or.inl rfl)) (fun _ _ _ _ _ => pts_nil) (fun _ _ _ _ _ => pe_J J hr (by decide) (by rfl) pass0 (pv 1))) pa_nil)))))))
      (pss_one (ps_ret pe_bl)) pss_nil)
    (pss_one (ps_ret (pe_call GA (hr.mono (by decide)) (by rfl) DA.g DA.F.kp DA.b .nil pass0 (pa_cons (pe_lc (own := [("item", 1)]) (g := gName 1) (tt := tYes) rfl scBlocks.nd (pi_tup (pv 0)) (blkOk_by (N := ["thing", "item"]) (sc := defScope sBlocks) (by decide +kernel))
        (fun _ _ _ _ _ => pg_name (i := 1) scBlocks.nd rfl (Or.inl rfl)) (fun _ _ _ _ _ => pts_nil) (fun _ _ _ _ _ => pe_ix (show IxR _ (rIxT K) from ix_tup) (pv 1) pe_int (fun _ _ => rfl))) pa_nil)))), ?_⟩
  refine s_if (b := !isT u "tuple" || !(tv u fun us => us.all gBlk)) (et_or (et_not (et_B (ev_isi (ev_var rfl) hat))) fun q => ?_) (fun q H1 e => ?_) (fun q H1 e => ?_)
  · rw [Bool.not_eq_false'] at q
    obtain ⟨us, rfl⟩ := isT_tup q
    obtain ⟨a, xs, rfl, ha, _, hl⟩ := at_tup hat
    exact et_not (et_B (ev_allT (g := gBlk) (ev_var rfl) ha fi.len hl (fun _ => rfl) fun x u hu hx => ev_J (ev_var rfl) hx (fi.tup u hu)))
  · refine s_ret ev_c fun H2 e2 => ?_
    have e3 : gBlocks u = false := by
      cases u with
      | tup us =>
        simp [isT, isS, tyU, tv] at q
        show (us.all gBlk && _) = false
        rw [Bool.and_eq_false_iff]
        exact .inl (by simpa using q)
      | _ => rfl
    rw [← e3]
    exact k H2 (e.trans e2)
  · rw [Bool.or_eq_false_iff, Bool.not_eq_false', Bool.not_eq_false'] at q
    obtain ⟨us, rfl⟩ := isT_tup q.1
    have q2 : us.all gBlk = true := q.2
    obtain ⟨a, xs, rfl, ha, _, hl⟩ := at_tup (ex_at e hat)
    dsimp only [tNext]
    refine s_ret (v := .bl (ascK (us.map fun u => keysU (nth u 0)))) (ev_callX (R := fun ys G => TkL G ys (us.map fun u => keysU (nth u 0))) (lc_newK (K := K) (tl := tVar 0) (j := 1) (vs := [1]) (σ := [some (.ref a), none]) (f := fun u => keysU (nth u 0)) (ev_var rfl) ha (Sm.len hs) hl (fun _ => rfl) (fun x u G hu eg hx Q q => ?_)) fun p ys H3 h3 ht Q q E =>
      asc_tkL h3 ht (kin_blks q2) (by rw [List.length_map]; exact Sm.len hs) Q q E) fun H2 e2 => ?_
    · obtain ⟨i, j, b, rfl⟩ := gBlk_is (List.all_eq_true.mp q2 u hu)
      obtain ⟨p, x1, y1, rfl, hp, hx1, _⟩ := pair_at hx
      obtain ⟨p1, rfl, hp1⟩ := two_ints hx1
      exact ev_ixT (K := K) (j := 0) (te := tVar 1) (ev_var rfl) hp rfl G (Ex.refl G) Q fun H5 e5 => q p1 H5 e5 (e5 _ _ hp1)
    · have e3 : gBlocks (.tup us) = ascK (us.map fun u => keysU (nth u 0)) := by
        show (us.all gBlk && _) = _
        rw [q2]
        rfl
      rw [← e3]
      exact k H2 (e.trans e2)
end
end Hs
namespace Hs
open PySem PySem.Spec PyProof.Rows L2 Hu Evl
section
variable {P : Program} {wd : World} {K : PySem.W.Frag} {mg : Str → Option Value} {base : Heap} {C : Addr}
/-! _is_lease -/
theorem scLease : FnScope ["thing"] ["thing"] (defScope sLease) := ⟨rfl, rfl, rfl, by decide +kernel, rfl, by decide +kernel, by decide +kernel⟩
theorem jd_lease {f f1 f2 f3 f4 : Addr} {fd d1 d2 d3 d4 : FuncData} (D : Df K mg "_is_lease" sLease ["thing"] f fd) (S : Bs K mg C) (JT : JTO P wd K mg base C f1 d1) (JN : Jd P wd K mg base C 2 "is_name" "thing" f2 d2 gNam)
    (JH : Jd P wd K mg base C 2 "is_hand" "thing" f3 d3 gHand) (JC : Jd P wd K mg base C 2 "is_count" "thing" f4 d4 gCnt) : Jd P wd K mg base C 3 "_is_lease" "thing" f fd gLease := by
  refine ⟨D.F.ok scLease lenJ (fun cdv A outer s H vs Q E hr h => ?_), D.g, D.F.kp, D.b⟩
  obtain ⟨v, u, w, rfl, hat, fi, k⟩ := h
  refine ⟨_, pss_cons (ps_if (PW.pt (pw_or (pt_not (pt_val (pe_call JT.ok (hr.mono (by decide)) (by rfl) JT.D.g JT.D.F.kp JT.D.b .nil pass0 (pa_cons pe_int (pa_cons (pv 0) pa_nil)))))
      (pw_or (pt_not (pt_val (pe_J JN hr (by decide) (by rfl) pass0 (pe_ix ix_tup (pv 0) pe_int (fun _ _ => rfl))))) (pw_or1 (pt_not (pt_val (pe_J JH hr (by decide) (by rfl) pass0 (pe_ix ix_tup (pv 0) pe_int (fun _ _ => rfl)))))))))
      (pss_one (ps_ret pe_bl)) pss_nil)
    (pss_one (ps_ret (pe_and (pe_J JC hr (by decide) (by rfl) pass0 (pe_ix ix_tup (pv 0) pe_int (fun _ _ => rfl))) (pe_one (pe_J JC hr (by decide) (by rfl) pass0 (pe_ix ix_tup (pv 0) pe_int (fun _ _ => rfl))))))), ?_⟩
  refine s_if (b := !gTO 4 u || (!gNam (nth u 0) || !gHand (nth u 1))) (et_or (et_not (et_B (ev_TO (m := 4) ev_c (ev_var rfl) hat))) fun q => ?_) (fun q H1 e => ?_) (fun q H1 e => ?_)
  · rw [Bool.not_eq_false'] at q
    obtain ⟨x0, e0, h0⟩ := ev_nth (K := K) (σ := [some v]) (te := tVar 0) (k := 0) (ev_var rfl) hat q (by decide)
    obtain ⟨x1, e1, h1⟩ := ev_nth (K := K) (σ := [some v]) (te := tVar 0) (k := 1) (ev_var rfl) hat q (by decide)
    exact et_or (et_not (et_B (ev_J e0 h0 (fine_nth q (by decide) fi)))) fun _ => et_not (et_B (ev_J e1 h1 (fine_nth q (by decide) fi)))
  · refine s_ret ev_c fun H2 e2 => ?_
    have e4 : gLease u = false := by
      unfold gLease
      revert q
      cases gTO 4 u <;> cases gNam (nth u 0) <;> cases gHand (nth u 1) <;> simp
    rw [← e4]
    exact k H2 (e.trans e2)
  · have q' : gTO 4 u = true ∧ gNam (nth u 0) = true ∧ gHand (nth u 1) = true := by
      revert q
      cases gTO 4 u <;> cases gNam (nth u 0) <;> cases gHand (nth u 1) <;> simp
    obtain ⟨q1, q2, q3⟩ := q'
    have hat1 := ex_at e hat
    obtain ⟨x2, e2, h2⟩ := ev_nth (K := K) (σ := [some v]) (te := tVar 0) (k := 2) (ev_var rfl) hat1 q1 (by decide)
    obtain ⟨x3, e3, h3⟩ := ev_nth (K := K) (σ := [some v]) (te := tVar 0) (k := 3) (ev_var rfl) hat1 q1 (by decide)
    dsimp only [tNext]
    refine s_ret (ev_andV (ev_J e2 h2 (fine_nth q1 (by decide) fi)) fun _ => ev_J e3 h3 (fine_nth q1 (by decide) fi)) fun H2 e2 => ?_
    have e4 : gLease u = (gCnt (nth u 2) && gCnt (nth u 3)) := by
      unfold gLease
      rw [q1, q2, q3]
      rfl
    rw [← e4]
    exact k H2 (e.trans e2)
/-! _are_leases -/
theorem gLease_is {u : U} (h : gLease u = true) : ∃ z i t n, u = .tup [.str z, .int i, .int t, .int n] := by
  obtain ⟨h1, h2⟩ := and2 (a := gTO 4 u && (gNam (nth u 0) && gHand (nth u 1))) h
  obtain ⟨h3, h4, h5⟩ := and3 h1
  obtain ⟨h6, h7⟩ := and2 h2
  obtain ⟨us, rfl, hl⟩ := gTO_of h3
  match us, hl with
  | [a, b, c, d], _ =>
    obtain ⟨z, rfl⟩ := gNam_str (u := a) h4
    obtain ⟨i, rfl⟩ := gHand_int (u := b) h5
    cases c <;> cases d <;> first | exact ⟨_, _, _, _, rfl⟩ | cases h6 | cases h7
theorem kin_leases {us : List U} (h : us.all gLease = true) : kinK (us.map keyL) := fun ks h1 ls h2 => by
  obtain ⟨u, hu, rfl⟩ := List.mem_map.mp h1
  obtain ⟨x, hx, rfl⟩ := List.mem_map.mp h2
  obtain ⟨z, i, t, n, rfl⟩ := gLease_is (List.all_eq_true.mp h u hu)
  obtain ⟨z', i', t', n', rfl⟩ := gLease_is (List.all_eq_true.mp h x hx)
  rfl
theorem four_at {w : Addr} {H : Hp} {v : V} {z : Str} {i t n : Int} (h : At w C H v (.tup [.str z, .int i, .int t, .int n])) : ∃ p, v = .ref p ∧ H p = some (.tup [.str z, .int i, .int t, .int n]) := by
  obtain ⟨p, xs, rfl, hp, _, hl⟩ := at_tup h
  cases hl with
  | cons h1 hl => cases hl with
    | cons h2 hl => cases hl with
      | cons h3 hl => cases hl with
        | cons h4 hl => cases hl with
          | nil =>
            rw [at_str h1, at_int h2, at_int h3, at_int h4] at hp
            exact ⟨p, rfl, hp⟩
theorem scLeases : FnScope ["thing", "item"] ["thing"] (defScope sLeases) := ⟨rfl, rfl, rfl, by decide +kernel, rfl, by decide +kernel, by decide +kernel⟩
theorem jw_leases {f f1 f2 : Addr} {fd d1 d2 : FuncData} (D : Df K mg "_are_leases" sLeases ["thing"] f fd) (S : Bs K mg C) (J : Jd P wd K mg base C 3 "_is_lease" "thing" f1 d1 gLease) (DA : Df K mg "is_ascending" sAscending ["things"] f2 d2) :
    Jw P wd K mg base C 6 "_are_leases" "thing" f fd Sm gLeases := by
  refine ⟨D.F.ok scLeases lenJw (fun cdv A outer s H vs Q E hr h => ?_), D.g, D.F.kp, D.b⟩
  obtain ⟨v, u, w, rfl, hat, fi, hs, hw, k⟩ := h
  have GA : FnOk P wd K mg base CX0 5 f2 d2 ["things"] (spAscG K (rIxL K) (Hk.rLtK K)) := (ok_ascK DA.F S.B).mono (by decide)
  refine ⟨_, pss_cons (ps_if (PW.pt (pw_or (pt_not (pt_val (pe_isiX S (by rfl) (by rfl) S.B.tup boot_tuple' (by decide) (pv 0) (by decide) (by decide))))
      (pw_or1 (pt_not (pt_val (pe_callB (cr_all rfl) (by rfl) S.B.all boot_all' (pa_cons (pe_lc (own := [("item", 1)]) (g := gName 1) (tt := tYes) rfl scLeases.nd (pi_tup (pv 0)) (blkOk_by (N := ["thing", "item"]) (sc := defScope sLeases) (by decide +kernel))
        (fun _ _ _ _ _ => pg_name (i := 1) scLeases.nd rfl (Or.inl rfl)) (fun _ _ _ _ _ => pts_nil) (fun _ _ _ _ _ => pe_J J hr (by decide) (by rfl) pass0 (pv 1))) pa_nil)))))))
      (pss_one (ps_ret pe_bl)) pss_nil)
    (pss_one (ps_ret (pe_call GA (hr.mono (by decide)) (by rfl) DA.g DA.F.kp DA.b .nil pass0 (pa_cons (pe_lc (own := [("item", 1)]) (g := gName 1) (tt := tYes) rfl scLeases.nd (pi_tup (pv 0)) (blkOk_by (N := ["thing", "item"]) (sc := defScope sLeases) (by decide +kernel))
        (fun _ _ _ _ _ => pg_name (i := 1) scLeases.nd rfl (Or.inl rfl)) (fun _ _ _ _ _ => pts_nil) (fun _ _ _ _ _ => pe_slice (show SlR _ (rSlA K) from sl_tupA) (pv 1) po_none (po_some pe_int))) pa_nil)))), ?_⟩
  refine s_if (b := !isT u "tuple" || !(tv u fun us => us.all gLease)) (et_or (et_not (et_B (ev_isi (ev_var rfl) hat))) fun q => ?_) (fun q H1 e => ?_) (fun q H1 e => ?_)
  · rw [Bool.not_eq_false'] at q
    obtain ⟨us, rfl⟩ := isT_tup q
    obtain ⟨a, xs, rfl, ha, _, hl⟩ := at_tup hat
    exact et_not (et_B (ev_allT (g := gLease) (ev_var rfl) ha fi.len hl (fun _ => rfl) fun x u hu hx => ev_J (ev_var rfl) hx (fi.tup u hu)))
  · refine s_ret ev_c fun H2 e2 => ?_
    have e3 : gLeases u = false := by
      cases u with
      | tup us =>
        simp [isT, isS, tyU, tv] at q
        show (us.all gLease && _) = false
        rw [Bool.and_eq_false_iff]
        exact .inl (by simpa using q)
      | _ => rfl
    rw [← e3]
    exact k H2 (e.trans e2)
  · rw [Bool.or_eq_false_iff, Bool.not_eq_false', Bool.not_eq_false'] at q
    obtain ⟨us, rfl⟩ := isT_tup q.1
    have q2 : us.all gLease = true := q.2
    obtain ⟨a, xs, rfl, ha, _, hl⟩ := at_tup (ex_at e hat)
    dsimp only [tNext]
    refine s_ret (v := .bl (ascK (us.map keyL))) (ev_callX (R := fun ys G => TkL G ys (us.map keyL)) (lc_newK (K := K) (tl := tVar 0) (j := 1) (vs := [1]) (σ := [some (.ref a), none]) (f := keyL) (ev_var rfl) ha (Sm.len hs) hl (fun _ => rfl) (fun x u G hu eg hx Q q => ?_)) fun p ys H3 h3 ht Q q E =>
      asc_tkL h3 ht (kin_leases q2) (by rw [List.length_map]; exact Sm.len hs) Q q E) fun H2 e2 => ?_
    · obtain ⟨z, i, t, n, rfl⟩ := gLease_is (List.all_eq_true.mp q2 u hu)
      obtain ⟨p, rfl, hp⟩ := four_at hx
      refine ⟨_, rfl, 2, rfl, p, _, rfl, st_of hp, fun h => absurd h.2 (show ¬ (HT.sIx 4 4 (some 2) = 4) from by decide), fun _ p' hp' => q p' _ (Ex.new hp') ?_⟩
      rw [upd_same]
      rfl
    · have e3 : gLeases (.tup us) = ascK (us.map keyL) := by
        show (us.all gLease && _) = _
        rw [q2]
        rfl
      rw [← e3]
      exact k H2 (e.trans e2)
end
end Hs
namespace Hs
open PySem PySem.Spec PyProof.Rows L2 Hu Evl
def gKept (u : U) : Bool := gMembers (nth u 0) && (gAhead (nth u 1) && (gHeads (nth u 2) && gBlocks (nth u 3)))
structure OkK (u : U) : Prop where
  t : gTO 4 u = true
  a : okN (nth u 1)
  h : Sm (nth u 2)
  b : Sm (nth u 3)
section
variable {P : Program} {wd : World} {K : PySem.W.Frag} {mg : Str → Option Value} {base : Heap} {C : Addr}
theorem four_of {u : U} (h : gTO 4 u = true) : ∃ a b c d, u = .tup [a, b, c, d] := by
  obtain ⟨us, rfl, hl⟩ := gTO_of h
  match us, hl with
  | [a, b, c, d], _ => exact ⟨a, b, c, d, rfl⟩
theorem atl_four {w : Addr} {H : Hp} {xs : List V} {a b c d : U} (h : AtL w C H xs [a, b, c, d]) : ∃ x y z t, xs = [x, y, z, t] ∧ At w C H x a ∧ At w C H y b ∧ At w C H z c ∧ At w C H t d := by
  cases h with
  | cons h1 h => cases h with
    | cons h2 h => cases h with
      | cons h3 h => cases h with
        | cons h4 h => cases h with
          | nil => exact ⟨_, _, _, _, rfl, h1, h2, h3, h4⟩
theorem scKept : FnScope ["parts", "members", "ahead", "heads", "blocks"] ["parts"] (defScope sKept) := ⟨rfl, rfl, rfl, by decide +kernel, rfl, by decide +kernel, by decide +kernel⟩
theorem jw_kept {f f1 f2 f3 f4 : Addr} {fd d1 d2 d3 d4 : FuncData} (D : Df K mg "_are_kept" sKept ["parts"] f fd) (S : Bs K mg C) (JM : Jd P wd K mg base C 4 "is_members" "thing" f1 d1 gMembers) (JA : Jw P wd K mg base C 5 "is_ahead" "thing" f2 d2 okN gAhead)
    (JH : Jw P wd K mg base C 6 "is_heads" "thing" f3 d3 Sm gHeads) (JB : Jw P wd K mg base C 6 "is_blocks" "thing" f4 d4 Sm gBlocks) : Jw P wd K mg base C 7 "_are_kept" "parts" f fd OkK gKept := by
  refine ⟨D.F.ok scKept lenJw (fun cdv A outer s H vs Q E hr h => ?_), D.g, D.F.kp, D.b⟩
  obtain ⟨v, u, w, rfl, hat, fi, hs, hw, k⟩ := h
  refine ⟨_, pss_cons (ps_asg (pv 0) (pg_tup rfl (pgs_cons (pg_name (i := 1) scKept.nd rfl (.inl rfl)) (pgs_cons (pg_name (i := 2) scKept.nd rfl (.inl rfl)) (pgs_cons (pg_name (i := 3) scKept.nd rfl (.inl rfl)) (pgs_cons (pg_name (i := 4) scKept.nd rfl (.inl rfl)) pgs_nil))))))
    (pss_one (ps_ret (pe_and (pe_J JM hr (by decide) (by rfl) pass0 (pv 1)) (pe_and (pe_Jw JA hr (by decide) (by rfl) pass0 (pv 2)) (pe_and (pe_Jw JH hr (by decide) (by rfl) pass0 (pv 3)) (pe_one (pe_Jw JB hr (by decide) (by rfl) pass0 (pv 4)))))))), ?_⟩
  obtain ⟨a, b, c, d, rfl⟩ := four_of hs.t
  obtain ⟨p, xs, rfl, hp, _, hl⟩ := at_tup hat
  obtain ⟨x, y, z, t, rfl, h1, h2, h3, h4⟩ := atl_four hl
  refine ⟨_, rfl, p, _, rfl, st_of hp, rfl, x, _, rfl, y, _, rfl, z, _, rfl, t, _, rfl, rfl, ?_⟩
  dsimp only [gName]
  exact s_ret (ev_andV (ev_J (ev_var rfl) h1 (fi.tup a (by simp))) fun _ => ev_andV (ev_Jw (ev_var rfl) h2 (fi.tup b (by simp)) hs.a hw) fun _ => ev_andV (ev_Jw (ev_var rfl) h3 (fi.tup c (by simp)) hs.h hw) fun _ => ev_Jw (ev_var rfl) h4 (fi.tup d (by simp)) hs.b hw) k
end
end Hs
namespace Hs
open PySem PySem.Spec PyProof.Rows L2 Hu Evl
/-- the places of a table's parts -/
structure Ct (mg : Str → Option Value) : Prop where
  p0 : ∃ t, mg "EPOCH" = some (.int 0 t)
  p1 : ∃ t, mg "MEMBERS" = some (.int 1 t)
  p2 : ∃ t, mg "AHEAD" = some (.int 2 t)
  p3 : ∃ t, mg "CLOCK" = some (.int 3 t)
  p4 : ∃ t, mg "HEADS" = some (.int 4 t)
  p5 : ∃ t, mg "BLOCKS" = some (.int 5 t)
  p6 : ∃ t, mg "LEASES" = some (.int 6 t)
  p7 : ∃ t, mg "PROMISE" = some (.int 7 t)
  p8 : ∃ t, mg "VOTED" = some (.int 8 t)
  p9 : ∃ t, mg "NEXT" = some (.int 9 t)
  many : ∃ t, mg "MANY_PARTS" = some (.int 10 t)
  ticks : ∃ t, mg "LEASE_TICKS" = some (.int 8 t)
/-- flat -/
def flU (u : U) : Prop := match u with | .non | .int _ | .str _ => True | _ => False
def isM1 (u : U) : Bool := match u with | .int i => decide (i = -1) | _ => false
structure OkT (u : U) : Prop where
  s : Sm u
  n : ∀ k, okN (nth u k)
  e : flU (nth u 0)
def keptU (u : U) : U := .tup [nth u 1, nth u 2, nth u 4, nth u 5]
def gTable (u : U) : Bool := gTO 10 u && ((gCnt (nth u 3) && gLeases (nth u 6)) && ((gStamp (nth u 7) && gVote (nth u 8)) && ((isNon (nth u 9) || gMembers (nth u 9)) &&
  (if isM1 (nth u 0) = true then nilU (nth u 1) && (nilU (nth u 2) && (nilU (nth u 4) && nilU (nth u 5))) else gCnt (nth u 0) && gKept (keptU u)))))
theorem Sm.nth {u : U} (h : Sm u) (k : Nat) : Sm (nth u k) := by
  cases u with
  | tup us =>
    show wt (us.getD k .non) ≤ 70000
    rw [List.getD_eq_getElem?_getD]
    cases e : us[k]? with
    | none => simp [wt]
    | some x =>
      have h1 := wt_mem (List.mem_of_getElem? e)
      have h2 : wt (.tup us) ≤ 70000 := h
      simp only [wt] at h2
      show wt x ≤ 70000
      omega
  | _ => show wt U.non ≤ 70000; simp [wt]
section
variable {P : Program} {wd : World} {K : PySem.W.Frag} {mg : Str → Option Value} {base : Heap} {C : Addr}
theorem pe_gi {X : Cx} {x : Str} {i : Int} {p : Pos} (hg : Gl X x) (h : ∃ t, X.mg x = some (.int i t)) (hd : (x == ("__debug__" : Str)) = false := by decide) : PE X (.Name x p) (tC (.int i)) := by
  obtain ⟨t, h⟩ := h
  exact pe_glob (v := .int i) hg h ⟨_, rfl⟩ hd
theorem rv_m1 {w : Addr} {H : Hp} {v : V} {u : U} (h : At w C H v u) (fl : flU u) : RV rEq v (.int (-1)) H (.bl (isM1 u)) := fun H1 e Q q => by
  cases h with
  | int i =>
    refine ⟨rfl, ?_⟩
    have : decide (V.int i = V.int (-1)) = isM1 (.int i) := by
      show _ = decide (i = -1)
      by_cases q : i = -1
      · rw [q]
        rfl
      · rw [decide_eq_false q, decide_eq_false fun e => q (V.int.inj e)]
    rw [this]
    exact q H1 (Ex.refl H1)
  | non => exact ⟨rfl, q H1 (Ex.refl H1)⟩
  | bl b => exact absurd fl (by simp [flU])
  | str z => exact ⟨rfl, q H1 (Ex.refl H1)⟩
  | tup _ _ _ => exact absurd fl (by simp [flU])
  | lst _ _ _ => exact absurd fl (by simp [flU])
  | dct _ _ _ _ _ => exact absurd fl (by simp [flU])
  | exc _ _ _ _ => exact absurd fl (by simp [flU])
theorem four_nils {σ : L2.St} {H G : Hp} (eg : Ex H G) {Q : VK} (q : ∀ (p c1 c2 c3 c4 : Addr) G', Ex G G' → G' p = some (.tup ([c1, c2, c3, c4].map V.ref)) → (∀ c ∈ [c1, c2, c3, c4], G' c = some (.tup [])) → Q (.ref p) G') :
    tTup (tCons (tTup tNil) (tCons (tTup tNil) (tCons (tTup tNil) (tCons (tTup tNil) tNil)))) σ G Q := by
  have nil : ∀ G : Hp, EvU (tTup tNil) σ G [] := fun G => eu_tup ea_nil (by decide)
  have step : ∀ (r : TA) (G : Hp) (Q : List V → Hp → Prop), (∀ c G1, Ex G G1 → G1 c = some (.tup []) → r σ G1 (fun vs H2 => Q (.ref c :: vs) H2)) → tCons (tTup tNil) r σ G Q := fun r G Q h => nil G G (Ex.refl G) _ fun c G1 _ e k => h c G1 e k
  refine step _ G _ fun c1 G1 e1 k1 => ?_
  refine step _ G1 _ fun c2 G2 e2 k2 => ?_
  refine step _ G2 _ fun c3 G3 e3 k3 => ?_
  refine step _ G3 _ fun c4 G4 e4 k4 => ?_
  refine ⟨sz_of (by show (4 : Nat) ≤ 100000; decide), fun p hp => ?_⟩
  have n := Ex.new (o := HO.tup [.ref c1, .ref c2, .ref c3, .ref c4]) hp
  refine q p c1 c2 c3 c4 _ ((((e1.trans e2).trans e3).trans e4).trans n) upd_same fun c hc => ?_
  rcases List.mem_cons.mp hc with rfl | hc
  · exact n _ _ (e4 _ _ (e3 _ _ (e2 _ _ k1)))
  rcases List.mem_cons.mp hc with rfl | hc
  · exact n _ _ (e4 _ _ (e3 _ _ k2))
  rcases List.mem_cons.mp hc with rfl | hc
  · exact n _ _ (e4 _ _ k3)
  rcases List.mem_cons.mp hc with rfl | hc
  · exact n _ _ k4
  · cases hc
theorem okN_nc {w : Addr} {H : Hp} {v : V} {u : U} (h : At w C H v u) (n : okN u) : Nc K H v (nilU u) := nc_at h n
theorem scTable : FnScope ["thing", "kept"] ["thing"] (defScope sTable) := ⟨rfl, rfl, rfl, by decide +kernel, rfl, by decide +kernel, by decide +kernel⟩
theorem jw_table {f f1 f2 f3 f4 f5 f6 f7 : Addr} {fd d1 d2 d3 d4 d5 d6 d7 : FuncData} (D : Df K mg "is_table" sTable ["thing"] f fd) (S : Bs K mg C) (N : Ct mg) (JT : JTO P wd K mg base C f1 d1) (JC : Jd P wd K mg base C 2 "is_count" "thing" f2 d2 gCnt)
    (JL : Jw P wd K mg base C 6 "_are_leases" "thing" f3 d3 Sm gLeases) (JS : Jd P wd K mg base C 3 "is_stamp" "thing" f4 d4 gStamp) (JV : Jd P wd K mg base C 5 "is_vote" "thing" f5 d5 gVote) (JM : Jd P wd K mg base C 4 "is_members" "thing" f6 d6 gMembers)
    (JK : Jw P wd K mg base C 7 "_are_kept" "parts" f7 d7 OkK gKept) : Jw P wd K mg base C 8 "is_table" "thing" f fd OkT gTable := by
  refine ⟨D.F.ok scTable lenJw (fun cdv A outer s H vs Q E hr h => ?_), D.g, D.F.kp, D.b⟩
  obtain ⟨v, u, w, rfl, hat, fi, hs, hw, k⟩ := h
  refine ⟨_, pss_cons (ps_if (pt_not (pt_val (pe_call JT.ok (hr.mono (by decide)) (by rfl) JT.D.g JT.D.F.kp JT.D.b .nil pass0 (pa_cons (pe_gi (by rfl) N.many) (pa_cons (pv 0) pa_nil))))) (pss_one (ps_ret pe_bl)) pss_nil)
    (pss_cons (ps_if (PW.pt (pw_or (pt_not (pt_val (pe_J JC hr (by decide) (by rfl) pass0 (pe_ix ix_tup (pv 0) (pe_gi (by rfl) N.p3) (fun _ _ => rfl))))) (pw_or1 (pt_not (pt_val (pe_Jw JL hr (by decide) (by rfl) pass0 (pe_ix ix_tup (pv 0) (pe_gi (by rfl) N.p6) (fun _ _ => rfl)))))))) (pss_one (ps_ret pe_bl)) pss_nil)
    (pss_cons (ps_if (PW.pt (pw_or (pt_not (pt_val (pe_J JS hr (by decide) (by rfl) pass0 (pe_ix ix_tup (pv 0) (pe_gi (by rfl) N.p7) (fun _ _ => rfl))))) (pw_or1 (pt_not (pt_val (pe_J JV hr (by decide) (by rfl) pass0 (pe_ix ix_tup (pv 0) (pe_gi (by rfl) N.p8) (fun _ _ => rfl)))))))) (pss_one (ps_ret pe_bl)) pss_nil)
    (pss_cons (ps_if (PW.pt (pw_and (pt_cmpR op_notN1 (pe_ix ix_tup (pv 0) (pe_gi (by rfl) N.p9) (fun _ _ => rfl)) pe_non (nomark _)) (pw_and1 (pt_not (pt_val (pe_J JM hr (by decide) (by rfl) pass0 (pe_ix ix_tup (pv 0) (pe_gi (by rfl) N.p9) (fun _ _ => rfl)))))))) (pss_one (ps_ret pe_bl)) pss_nil)
    (pss_cons (ps_set (i := 1) scTable.nd rfl (.inl rfl) (pe_tup (pa_cons (pe_ix ix_tup (pv 0) (pe_gi (by rfl) N.p1) (fun _ _ => rfl)) (pa_cons (pe_ix ix_tup (pv 0) (pe_gi (by rfl) N.p2) (fun _ _ => rfl)) (pa_cons (pe_ix ix_tup (pv 0) (pe_gi (by rfl) N.p4) (fun _ _ => rfl)) (pa_cons (pe_ix ix_tup (pv 0) (pe_gi (by rfl) N.p5) (fun _ _ => rfl)) pa_nil))))))
    (pss_cons (ps_if (pt_cmpR op_eq (pe_ix ix_tup (pv 0) (pe_gi (by rfl) N.p0) (fun _ _ => rfl)) (pe_un un_neg pe_int) (nomark _)) (pss_one (ps_ret (pe_cmpR (op_eqNs (room_hu hr)) (pv 1) (pe_tup (pa_cons (pe_tup pa_nil) (pa_cons (pe_tup pa_nil) (pa_cons (pe_tup pa_nil) (pa_cons (pe_tup pa_nil) pa_nil))))) (nomark _)))) pss_nil)
    (pss_one (ps_ret (pe_and (pe_J JC hr (by decide) (by rfl) pass0 (pe_ix ix_tup (pv 0) (pe_gi (by rfl) N.p0) (fun _ _ => rfl))) (pe_one (pe_Jw JK hr (by decide) (by rfl) pass0 (pv 1))))))))))), ?_⟩
  refine q_when (b := !gTO 10 u) (et_not (et_B (ev_TO (m := 10) ev_c (ev_var rfl) hat))) (fun q H1 e => ?_) (fun q H1 e => ?_)
  · refine s_ret ev_c fun H2 e2 => ?_
    have e4 : gTable u = false := by
      unfold gTable
      rw [Bool.not_eq_true'] at q
      rw [q]
      rfl
    rw [← e4]
    exact k H2 (e.trans e2)
  rw [Bool.not_eq_false'] at q
  have nt : ∀ (G : Hp), Ex H G → ∀ (τ : L2.St) (i : Nat), τ[0]? = some (some v) → i < 10 → ∃ x, Ev (tOp (rIxT K) (tVar 0) (tC (.int (i : Int)))) τ G x ∧ At w C G x (nth u i) := fun G eg τ i hi hk => ev_nth (ev_var hi) (ex_at eg hat) q hk
  have fn : ∀ i, i < 10 → Fine (nth u i) := fun i hi => fine_nth q hi fi
  have g0 : gTable u = ((gCnt (nth u 3) && gLeases (nth u 6)) && ((gStamp (nth u 7) && gVote (nth u 8)) && ((isNon (nth u 9) || gMembers (nth u 9)) &&
    (if isM1 (nth u 0) = true then nilU (nth u 1) && (nilU (nth u 2) && (nilU (nth u 4) && nilU (nth u 5))) else gCnt (nth u 0) && gKept (keptU u))))) := by
    unfold gTable
    rw [q, Bool.true_and]
  obtain ⟨x3, e3, h3⟩ := nt H1 e [some v, none] 3 rfl (by decide)
  obtain ⟨x6, e6, h6⟩ := nt H1 e [some v, none] 6 rfl (by decide)
  refine q_when (b := !gCnt (nth u 3) || !gLeases (nth u 6)) (et_or (et_not (et_B (ev_J e3 h3 (fn 3 (by decide))))) fun _ => et_not (et_B (ev_Jw e6 h6 (fn 6 (by decide)) (hs.s.nth 6) (hw.imp fun o z => e _ _ z)))) (fun q2 H2 e2 => ?_) (fun q2 H2 e2 => ?_)
  · refine s_ret ev_c fun H3 e3 => ?_
    have e4 : gTable u = false := by
      rw [g0]
      revert q2
      cases gCnt (nth u 3) <;> cases gLeases (nth u 6) <;> simp
    rw [← e4]
    exact k H3 ((e.trans e2).trans e3)
  have q2' : (gCnt (nth u 3) && gLeases (nth u 6)) = true := by
    revert q2
    cases gCnt (nth u 3) <;> cases gLeases (nth u 6) <;> simp
  rw [q2', Bool.true_and] at g0
  have e12 := e.trans e2
  obtain ⟨x7, e7, h7⟩ := nt H2 e12 [some v, none] 7 rfl (by decide)
  obtain ⟨x8, e8, h8⟩ := nt H2 e12 [some v, none] 8 rfl (by decide)
  refine q_when (b := !gStamp (nth u 7) || !gVote (nth u 8)) (et_or (et_not (et_B (ev_J e7 h7 (fn 7 (by decide))))) fun _ => et_not (et_B (ev_J e8 h8 (fn 8 (by decide))))) (fun q3 H3 e3 => ?_) (fun q3 H3 e3 => ?_)
  · refine s_ret ev_c fun H4 e4 => ?_
    have e4' : gTable u = false := by
      rw [g0]
      revert q3
      cases gStamp (nth u 7) <;> cases gVote (nth u 8) <;> simp
    rw [← e4']
    exact k H4 ((e12.trans e3).trans e4)
  have q3' : (gStamp (nth u 7) && gVote (nth u 8)) = true := by
    revert q3
    cases gStamp (nth u 7) <;> cases gVote (nth u 8) <;> simp
  rw [q3', Bool.true_and] at g0
  have e13 := e12.trans e3
  obtain ⟨x9, e9, h9⟩ := nt H3 e13 [some v, none] 9 rfl (by decide)
  refine q_when (b := !isNon (nth u 9) && !gMembers (nth u 9)) (et_and (et_test (ev_is (ev_op e9 ev_c fun G eg Q q => ⟨rfl, q G (Ex.refl G)⟩) (by rw [at_non h9]))) fun _ => et_not (et_B (ev_J e9 h9 (fn 9 (by decide))))) (fun q4 H4 e4 => ?_) (fun q4 H4 e4 => ?_)
  · refine s_ret ev_c fun H5 e5 => ?_
    have e4' : gTable u = false := by
      rw [g0]
      revert q4
      cases isNon (nth u 9) <;> cases gMembers (nth u 9) <;> simp
    rw [← e4']
    exact k H5 ((e13.trans e4).trans e5)
  have q4' : (isNon (nth u 9) || gMembers (nth u 9)) = true := by
    revert q4
    cases isNon (nth u 9) <;> cases gMembers (nth u 9) <;> simp
  rw [q4', Bool.true_and] at g0
  have e14 := e13.trans e4
  obtain ⟨x1, e1', h1⟩ := nt H4 e14 [some v, none] 1 rfl (by decide)
  obtain ⟨x2, e2', h2⟩ := nt H4 e14 [some v, none] 2 rfl (by decide)
  obtain ⟨x4, e4', h4⟩ := nt H4 e14 [some v, none] 4 rfl (by decide)
  obtain ⟨x5, e5', h5⟩ := nt H4 e14 [some v, none] 5 rfl (by decide)
  refine q_asgU (eu_tup (ea_cons e1' (ea_cons e2' (ea_cons e4' (ea_cons e5' ea_nil)))) (by show (4 : Nat) ≤ 100000; decide)) fun pk H5 hpk e5 hk => ?_
  have e15 := e14.trans e5
  obtain ⟨x0, e0', h0⟩ := nt H5 e15 [some v, some (.ref pk)] 0 rfl (by decide)
  have a1 := ex_at e5 h1
  have a2 := ex_at e5 h2
  have a4 := ex_at e5 h4
  have a5 := ex_at e5 h5
  refine q_when (b := isM1 (nth u 0)) (et_test (ev_op e0' (ev_un ev_c ru_neg) (rv_m1 h0 hs.e))) (fun q5 H6 e6 => ?_) (fun q5 H6 e6 => ?_)
  · refine s_ret (v := .bl (nilU (nth u 1) && (nilU (nth u 2) && (nilU (nth u 4) && nilU (nth u 5))))) (fun G eg Q q => ⟨_, rfl, four_nils (Ex.refl G) fun p c1 c2 c3 c4 G' e7 hp hc => ?_⟩) fun H7 e7 => ?_
    · have ee := (e6.trans eg).trans e7
      refine ⟨pk, p, _, [c1, c2, c3, c4], [nilU (nth u 1), nilU (nth u 2), nilU (nth u 4), nilU (nth u 5)], rfl, rfl, st_of (ee _ _ hk), st_of hp, fun c hc' => st_of (hc c hc'), rfl,
        .cons (nc_at (ex_at ee a1) (hs.n 1)) (.cons (nc_at (ex_at ee a2) (hs.n 2)) (.cons (nc_at (ex_at ee a4) (hs.n 4)) (.cons (nc_at (ex_at ee a5) (hs.n 5)) .nil))), ?_⟩
      have ea : [nilU (nth u 1), nilU (nth u 2), nilU (nth u 4), nilU (nth u 5)].all id = (nilU (nth u 1) && (nilU (nth u 2) && (nilU (nth u 4) && nilU (nth u 5)))) := by
        simp
      rw [ea]
      exact q G' e7
    · have e4' : gTable u = (nilU (nth u 1) && (nilU (nth u 2) && (nilU (nth u 4) && nilU (nth u 5)))) := by rw [g0, if_pos q5]
      rw [← e4']
      exact k H7 ((e15.trans e6).trans e7)
  · have fk : Fine (keptU u) := by
      obtain ⟨us, rfl, hl⟩ := gTO_of q
      refine ⟨?_, ?_⟩
      · have w1 : wt (nth (.tup us) 1) ≤ 70000 := hs.s.nth 1
        have w2 : wt (nth (.tup us) 2) ≤ 70000 := hs.s.nth 2
        have w4 : wt (nth (.tup us) 4) ≤ 70000 := hs.s.nth 4
        have w5 : wt (nth (.tup us) 5) ≤ 70000 := hs.s.nth 5
        unfold keptU
        simp only [wt, wtL]
        omega
      · unfold keptU
        simp only [clean, cleanL]
        exact ⟨(fn 1 (by decide)).c, (fn 2 (by decide)).c, (fn 4 (by decide)).c, (fn 5 (by decide)).c, trivial⟩
    have hkw : pk ≠ w := fun z => by
      obtain ⟨o, ho⟩ := hw
      have := e14 _ _ ho
      rw [← z, hpk] at this
      cases this
    have ak : At w C H6 (.ref pk) (keptU u) := .tup (e6 _ _ hk) hkw (.cons (ex_at e6 a1) (.cons (ex_at e6 a2) (.cons (ex_at e6 a4) (.cons (ex_at e6 a5) .nil))))
    have a0 := ex_at e6 h0
    dsimp only [tNext]
    refine s_ret (ev_andV (ev_J (e0'.mono e6) a0 (fn 0 (by decide))) fun _ => ev_Jw (ev_var rfl) ak fk ⟨rfl, hs.n 2, hs.s.nth 4, hs.s.nth 5⟩ (hw.imp fun o z => (e15.trans e6) _ _ z)) fun H7 e7 => ?_
    have e4' : gTable u = (gCnt (nth u 0) && gKept (keptU u)) := by rw [g0, if_neg (by rw [q5]; decide)]
    rw [← e4']
    exact k H7 ((e15.trans e6).trans e7)
end
end Hs
/-! dicts with pairs of a text and an integer as keys, sorted -/
namespace Hk
open PySem PySem.Spec PyProof.Rows L2
abbrev SI : Type := Str × Int
/-- by the text, then by the integer -/
def ltSI (p q : SI) : Bool := if p.1 = q.1 then decide (p.2 < q.2) else decide (p.1.cps.toList < q.1.cps.toList)
theorem str_ext {x y : Str} (h : x.cps.toList = y.cps.toList) : x = y := by
  cases x with
  | mk a => cases y with
    | mk b =>
      congr 1
      exact Array.toList_inj.mp h
theorem ltSI_iff {p q : SI} : ltSI p q = true ↔ p.1.cps.toList < q.1.cps.toList ∨ (p.1 = q.1 ∧ p.2 < q.2) := by
  unfold ltSI
  by_cases e : p.1 = q.1
  · rw [if_pos e, decide_eq_true_eq]
    constructor
    · exact fun h => .inr ⟨e, h⟩
    · rintro (h | h)
      · rw [e] at h
        exact absurd h (List.lt_irrefl _)
      · exact h.2
  · rw [if_neg e, decide_eq_true_eq]
    constructor
    · exact fun h => .inl h
    · rintro (h | h)
      · exact h
      · exact absurd h.1 e
theorem ltSI_no {p q : SI} : ltSI p q = false ↔ ¬ (p.1.cps.toList < q.1.cps.toList ∨ (p.1 = q.1 ∧ p.2 < q.2)) := by
  rw [← ltSI_iff]
  cases ltSI p q <;> simp
theorem lt_tri (a b : List Nat) : a < b ∨ a = b ∨ b < a := by
  rcases Classical.em (a < b) with h | h
  · exact .inl h
  · rcases Classical.em (b < a) with h2 | h2
    · exact .inr (.inr h2)
    · exact .inr (.inl (List.le_antisymm (List.not_lt.mp h2) (List.not_lt.mp h)))
theorem ltSI_irr (p : SI) : ltSI p p = false := ltSI_no.mpr fun h => by
  rcases h with h | h
  · exact List.lt_irrefl _ h
  · omega
theorem ltSI_trans {p q r : SI} (h1 : ltSI p q = true) (h2 : ltSI q r = true) : ltSI p r = true := by
  rw [ltSI_iff] at *
  rcases h1 with h1 | ⟨e1, h1⟩ <;> rcases h2 with h2 | ⟨e2, h2⟩
  · exact .inl (List.lt_trans h1 h2)
  · exact .inl (by rw [← e2]; exact h1)
  · exact .inl (by rw [e1]; exact h2)
  · exact .inr ⟨e1.trans e2, by omega⟩
theorem ltSI_tri (p q : SI) : ltSI p q = true ∨ p = q ∨ ltSI q p = true := by
  rcases lt_tri p.1.cps.toList q.1.cps.toList with h | h | h
  · exact .inl (ltSI_iff.mpr (.inl h))
  · have e := str_ext h
    rcases Int.lt_trichotomy p.2 q.2 with h | h | h
    · exact .inl (ltSI_iff.mpr (.inr ⟨e, h⟩))
    · exact .inr (.inl (Prod.ext e h))
    · exact .inr (.inr (ltSI_iff.mpr (.inr ⟨e.symm, h⟩)))
  · exact .inr (.inr (ltSI_iff.mpr (.inl h)))
theorem ltSI_asym {p q : SI} (h : ltSI p q = true) : ltSI q p = false := by
  cases z : ltSI q p with
  | false => rfl
  | true =>
    have := ltSI_trans h z
    rw [ltSI_irr] at this
    cases this
theorem swo_si {α : Type} (k : α → SI) : SrtO.Swo fun v u => ltSI (k v) (k u) := by
  refine ⟨fun x y h => ltSI_asym h, fun x y z h1 h2 => ?_⟩
  cases h : ltSI (k z) (k x) with
  | false => rfl
  | true =>
    rcases ltSI_tri (k x) (k y) with q | q | q
    · have b := ltSI_trans h q
      rw [h2] at b
      cases b
    · rw [q, h2] at h
      cases h
    · rw [h1] at q
      cases q
/-- a tuple of a text and an integer -/
def IsSI (h : Heap) (v : Value) (p : SI) : Prop := ∃ (a : Addr) (o : Obj) (t u : Tok) (n : Nat), v = .ref a ∧ h.get? a = some o ∧ o.cls = .type "tuple" ∧ o.data = .seq #[.str p.1 t, .int p.2 u] n
theorem IsSI.keeps {h h' : Heap} {v : Value} {p : SI} (x : IsSI h v p) (k : ∀ b o, h.get? b = some o → o.cls = .type "tuple" → h'.get? b = some o) : IsSI h' v p := by
  obtain ⟨a, o, t, u, n, e, ho, hc, hd⟩ := x
  exact ⟨a, o, t, u, n, e, k a o ho hc, hc, hd⟩
/-- what pair stands there -/
def siOf (h : Heap) (v : Value) : SI := match v with
  | .ref a => match h.get? a with
    | some o => match o.data with
      | .seq xs _ => match xs.toList with
        | [.str z _, .int i _] => (z, i)
        | _ => default
      | _ => default
    | none => default
  | _ => default
theorem IsSI.of {h : Heap} {v : Value} {p : SI} (x : IsSI h v p) : siOf h v = p := by
  obtain ⟨a, o, t, u, n, rfl, ho, hc, hd⟩ := x
  simp only [siOf, ho, hd]
section
variable {prog : Program} {w : World} {A : Around} {s : Shared}
theorem si_cmp {vs : List Value} {k : Value → SI} (hp : ∀ v ∈ vs, IsSI s.heap v (k v)) : SrtO.Cmp prog w A s (tuples' true) (fun p => p.1 ∈ vs) (SrtO.lt2 fun v u => ltSI (k v) (k u)) := by
  intro p q hm hm'
  have h1 := hp _ hm
  have h2 := hp _ hm'
  show wpAny (model prog w) A (keyLt' (tuples' true) p.1 q.1) (fun r s' => s' = s ∧ r = ltSI (k p.1) (k q.1)) (fun _ _ => False) s
  generalize k p.1 = x at h1 ⊢
  generalize k q.1 = y at h2 ⊢
  obtain ⟨a, o, t, u, n, e, ho, hc, hd⟩ := h1
  obtain ⟨a', o', t', u', n', e', ho', hc', hd'⟩ := h2
  rw [e, e']
  refine PySem.W.kat_lt ho hd ho' hd' ?_
  show PySem.W.KatLex prog w A true (decide (2 < 2)) _ [(.str x.1 t, .str y.1 t'), (.int x.2 u, .int y.2 u')] 0 s
  refine PySem.W.kat_cons (SeqAt.EqAt.str_str x.1 t y.1 t' prog w _ _ ?_)
  refine PySem.W.kat_go (fun e1 => ?_) (fun e1 => ?_)
  · have ex : x.1 = y.1 := eq_of_beq e1
    have ef : ltSI x y = decide (x.2 < y.2) := by unfold ltSI; rw [if_pos ex]
    refine PySem.W.kat_yes (PySem.W.kat_cons (SeqAt.EqAt.int_int x.2 u y.2 u' prog w _ _ ?_))
    refine PySem.W.kat_go (fun e2 => ?_) (fun e2 => ?_)
    · have ey : x.2 = y.2 := eq_of_beq e2
      exact PySem.W.kat_yes (PySem.W.kat_nil ⟨rfl, by rw [ef, ey]; simp⟩)
    · refine PySem.W.kat_no (PySem.W.kat_one _ _ (PyProof.Rows.lt_int ?_))
      exact (show s = s ∧ decide (x.2 < y.2) = ltSI x y from ⟨rfl, ef.symm⟩)
  · have ex : ¬ x.1 = y.1 := fun q => by
      rw [q] at e1
      simp at e1
    have ef : ltSI x y = decide (x.1.cps.toList < y.1.cps.toList) := by unfold ltSI; rw [if_neg ex]
    exact PySem.W.kat_no (oneLt_str (show s = s ∧ decide (x.1.cps.toList < y.1.cps.toList) = ltSI x y from ⟨rfl, ef.symm⟩))
theorem si_firsts {h : Heap} {k : Value → SI} : ∀ vs : List Value, (∀ v ∈ vs, IsSI h v (k v)) → ∃ fs : List Value, PySem.W.KatTups h vs fs ∧ fs.length = vs.length ∧ ∀ f ∈ fs, ∃ (z : Str) (t : Tok), f = Value.str z t
  | [], _ => ⟨[], PySem.W.KatTups.nil, rfl, fun f hf => nomatch hf⟩
  | v :: vs, x => by
    obtain ⟨fs, g, hl, hi⟩ := si_firsts vs fun u hu => x u (List.mem_cons_of_mem _ hu)
    obtain ⟨a, o, t, u, n, e, ho, hc, hd⟩ := x v (List.mem_cons_self ..)
    refine ⟨.str (k v).1 t :: fs, ⟨⟨a, o, _, n, e, ho, hc, hd, rfl⟩, g⟩, by rw [List.length_cons, List.length_cons, hl], fun f hf => ?_⟩
    rcases List.mem_cons.mp hf with rfl | hf
    · exact ⟨_, _, rfl⟩
    · exact hi f hf
theorem si_sortable {a : Addr} {vs : List Value} {k : Value → SI} (h0 : 0 < vs.length) (hp : ∀ v ∈ vs, IsSI s.heap v (k v)) (ha : ∀ o, s.heap.get? a = some o → o.cls ≠ .type "tuple") : SrtO.SortableO prog w A s a vs fun v u => ltSI (k v) (k u) := by
  intro h' keep
  have hp' : ∀ v ∈ vs, IsSI h' v (k v) := fun v hm => (hp v hm).keeps fun b o e c => keep b o (fun z => by subst z; exact ha o e c) e
  obtain ⟨fs, h1, h2, h3⟩ := si_firsts vs hp'
  refine ⟨tuples' true, fun Q E hq => ?_, si_cmp hp'⟩
  refine PySem.W.kat_kind (T := .type "str") h1 (by omega) (fun f hm => ?_) (by rfl) ?_
  · obtain ⟨x, t, rfl⟩ := h3 f hm
    exact PySem.W.Looks.now
  · have e : (Value.type "str" != Value.type "tuple") = true := by first | decide +kernel | rfl | decide
    rw [e]
    exact hq
end
/-! ### the keys of a dict, in a row -/
section
variable {prog : Program} {w : World} {d : Addr} {o : Obj} {es : Array DictEntry} {ep : Nat}
theorem walks_dt {A : Around} (hh : A.handled = none) (I : Addr) (hne : d ≠ I) (hdat : o.data = .dict es ep) :
    Walks prog w A I [I, d] [I] es.size (fun i v => ∃ en, es[i]? = some en ∧ v = en.key) (fun i h => h.IsKeyIter I d i es.size ep ∧ h.get? d = some o) where
  sub := fun b hb => by simp at hb; simp [hb]
  frame := fun _ _ _ st hk => ⟨st.1.at fun o e => hk I (by simp) o e, hk d (by simp) _ st.2⟩
  item := fun i s Q E hi st hQ => by
    have hx : es[i]? = some es[i] := Array.getElem?_eq_getElem hi
    exact next_key_item st.1 st.2 hdat rfl hx fun h' hit hs => hQ _ h' s.toks ⟨_, hx, rfl⟩ ⟨hit, hs.2 d hne ▸ st.2⟩ fun b o hb e => (hs.2 b (fun h => hb (by simp [h]))).trans e
  done := fun s Q E st hQ => next_key_end hh st.1 st.2 hdat rfl (Nat.le_refl _) fun h' he => hQ h' s.toks fun b o hb e => he b o (fun h => hb (by simp [h])) e
  self := fun _ _ _ _ st hQ => wpAny_pyIter_keyiter st.1 hQ
theorem kdl_dt (lo : (d == sysModules) = false) (hx : o.ExactDict) (hdat : o.data = .dict es ep) :
    PySem.W.KdlSrc prog w "dict" d d es.size (fun i v => ∃ en, es[i]? = some en ∧ v = en.key) (fun h => h.get? d = some o) where
  type := fun _ hm => ⟨o, hm, hx.1⟩
  there := fun _ hm => ⟨Heap.lt_size hm, Heap.lt_size hm⟩
  keep := fun _ _ hm hk => hk d (.inl rfl) o hm
  notList := by decide
  notTuple := by decide
  hint := fun _ _ _ _ hm hq => PySem.W.kdl_hint_dict ⟨o, hm, hx.1⟩ hq
  iter := fun _ _ hh hm => ⟨_, _, (fun _ _ hq => iter_keys lo hm hx hdat hq), walks_dt hh _ (Nat.ne_of_lt (Heap.lt_size hm)) hdat, ⟨⟨_, Heap.get?_push_size _ rfl, rfl, rfl⟩, Heap.get?_push_of_some _ hm⟩⟩
end
abbrev keySI (p : SI) : List L2.Key := [Sum.inr p.1, Sum.inl p.2]
def adOf : Value → Addr
  | .ref a => a
  | _ => 0
section
variable {X : Cx}
/-- sorted(d): the keys' own tuples, in a new list -/
def rSortDT : List V → Hp → VK → Prop := fun xs H Q => ∃ (a : Addr) (kvs : List (List L2.Key × V)) (ks : List SI), xs = [.ref a] ∧ H a = some (.dT kvs) ∧ kvs.map (·.1) = ks.map keySI ∧
  ∀ (zs : List (Addr × SI)) (p : Addr), (zs.map (·.2)).Perm ks → (zs.map (·.2)).Pairwise (fun x y => ltSI y x = false) → (∀ z ∈ zs, H z.1 = some (.tup [.str z.2.1, .int z.2.2])) → H p = none → Q (.ref p) (upd H p (.lst (zs.map fun z => V.ref z.1)))
theorem vals_refs : ∀ zs : List (Addr × SI), Vals (zs.map fun z => V.ref z.1) (zs.map fun z => Value.ref z.1)
  | [] => .nil
  | z :: zs => .cons rfl (vals_refs zs)
theorem cr_sortDT (hc : X.calm = true) : CallR X (.builtin "sorted") rSortDT := by
  intro pins s σ H xs us Q I r h
  obtain ⟨a, kvs, ks, rfl, ha, hks, q⟩ := h
  obtain rfl := Vals.ref1 r
  obtain ⟨z, lo, xs', rel, o, es, ep, ho, hx, hdat, hes, his, hn⟩ := dt_of I.hok ha
  have l1 : kvs.length = xs'.length := Paired.length rel
  have l2 : es.size = xs'.length := size_of_entries hes
  have l3 : kvs.length = ks.length := by
    have e := congrArg List.length hks
    rw [List.length_map, List.length_map] at e
    exact e
  have h16 : es.size ≤ sizeLine := by omega
  refine Calls.call_function_entry PyProof.Rows.kind_sorted PyProof.Rows.plain_sorted PyProof.Rows.entry_sorted (PyProof.Rows.args_sorted1 _) ?_
  unfold Builtin.«sorted»
  refine wpAny_bind (m := checkCount "sorted" 1 1 _) (wpAny_pure ?_)
  refine wpAny_bind (PySem.W.kdu_collect (A := X.A.in1) (kdl_dt lo hx hdat) (I.ok.hd hc) ho h16 fun h' tk acc hk hacc => ?_)
  -- each of them is a pair that is tracked
  have pr : ∀ (j : Nat) (v : Value), acc.toList[j]? = some v → ∃ (p : SI) (b : Addr), ks[j]? = some p ∧ v = .ref b ∧ H b = some (.tup [.str p.1, .int p.2]) := by
    intro j v hj
    obtain ⟨en, he, rfl⟩ := hacc.2 j v (by rw [← Array.getElem?_toList]; exact hj)
    rw [entry_at hes j] at he
    cases hxj : xs'[j]? with
    | none =>
      rw [hxj] at he
      exact nomatch (show (none : Option DictEntry) = some en from he)
    | some x =>
      rw [hxj] at he
      have een : entryOfKey (tupleKind (mixKind X.prog X.w)) x = en := Option.some.inj he
      obtain ⟨e0, he0, r1, r2, r3⟩ := L2.DX.pget rel hxj
      have k0 : (kvs.map (·.1))[j]? = some e0.1 := by rw [List.getElem?_map, he0]; rfl
      rw [hks, List.getElem?_map] at k0
      cases hkj : ks[j]? with
      | none =>
        rw [hkj] at k0
        cases k0
      | some p =>
        rw [hkj] at k0
        have k1 : keySI p = e0.1 := Option.some.inj k0
        refine ⟨p, x.2.1, rfl, by rw [← een]; rfl, ?_⟩
        rw [r2, ← k1]
        rfl
  have hS : ∀ v ∈ acc.toList, ∃ (p : SI) (b : Addr), v = .ref b ∧ H b = some (.tup [.str p.1, .int p.2]) ∧ IsSI s.heap v p := by
    intro v hv
    obtain ⟨j, hj⟩ := List.mem_iff_getElem?.mp hv
    obtain ⟨p, b, _, rfl, hb⟩ := pr j v hj
    refine ⟨p, b, rfl, hb, ?_⟩
    obtain ⟨_, its, rv, ot, hot, hct, nt, hdt⟩ := (show ObjOk X.prog X.w H s.heap b (.tup [.str p.1, .int p.2]) from I.hok b _ hb)
    obtain ⟨u1, u2, rfl, ⟨t1, rfl⟩, ⟨t2, rfl⟩⟩ := vals2 rv
    exact ⟨b, ot, t1, t2, nt, rfl, hot, hct, hdt⟩
  have hks2 : acc.toList.map (siOf s.heap) = ks := by
    refine List.ext_getElem? fun j => ?_
    rw [List.getElem?_map]
    cases hj : acc.toList[j]? with
    | none =>
      have e1 : acc.size ≤ j := by rw [← Array.length_toList]; exact List.getElem?_eq_none_iff.mp hj
      rw [hacc.1] at e1
      rw [List.getElem?_eq_none (by omega)]
      rfl
    | some v =>
      obtain ⟨p, b, e1, rfl, hb⟩ := pr j v hj
      obtain ⟨p', b', e2, hb', si⟩ := hS _ (List.mem_of_getElem? hj)
      cases e2
      rw [hb] at hb'
      have e3 : p = p' := by
        have e4 := HO.tup.inj (Option.some.inj hb')
        injection e4 with e5 e6
        injection e6 with e7 e8
        exact Prod.ext (V.str.inj e5) (V.int.inj e7)
      rw [e1, e3]
      exact congrArg some si.of
  have hz : acc.toList.length ≤ sizeLine := by rw [Array.length_toList, hacc.1]; exact h16
  have I1 : Inv X pins σ H { s with heap := h', toks := tk } := I.kept hk
  refine wpAny_bind (wpAny_newList ?_ hz)
  have hoL : (h'.push (seqObj "list" acc.toList.toArray 0)).get? h'.objs.size = some (seqObj "list" acc.toList.toArray 0) := Heap.get?_push_size _ rfl
  have kb : ∀ b ob, s.heap.get? b = some ob → (h'.push (seqObj "list" acc.toList.toArray 0)).get? b = some ob := fun b ob e => Heap.get?_push_of_some _ (hk b ob e)
  show wpAny _ _ _ _ _ { s with heap := h'.push (seqObj "list" acc.toList.toArray 0), toks := tk }
  refine wpAny_bind (wpAny_holding (wpAny_call_entry PyProof.Rows.slot_list_sort ⟨_, hoL, rfl⟩ PyProof.Rows.entry_list_sort
    (SrtO.list_sort_ord (s := { s with heap := h'.push (seqObj "list" acc.toList.toArray 0), toks := tk }) (swo_si (siOf s.heap)) hoL hz (fun h2 => si_sortable (by omega) (fun v hv => ?_) fun ob e c => ?_) fun out hs hb => ⟨_, rfl, ?_⟩)
    (PyProof.Rows.args_list_sort _)))
  · obtain ⟨p, b, e, _, si⟩ := hS v hv
    rw [si.of]
    exact si.keeps fun b ob e _ => kb b ob e
  · have e' : some ob = some (seqObj "list" acc.toList.toArray 0) := e.symm.trans hoL
    cases e'
    exact absurd (Value.type.inj c) (by decide)
  obtain ⟨e', he'⟩ := PyProof.Rows.sortedHeap_at (vs := acc.toList) (out := out.toArray) hoL
  have ho3 : ∀ v ∈ out, ∃ (p : SI) (b : Addr), v = .ref b ∧ H b = some (.tup [.str p.1, .int p.2]) ∧ IsSI s.heap v p := fun v hv => hS v (hb.perm.mem_iff.mp hv)
  have hout : (out.map fun v => (adOf v, siOf s.heap v)).map (fun z => Value.ref z.1) = out := by
    rw [List.map_map]
    refine (List.map_congr_left fun v hv => ?_).trans (List.map_id _)
    obtain ⟨p, b, rfl, _⟩ := ho3 v hv
    rfl
  have hlen : ((out.map fun v => (adOf v, siOf s.heap v)).map fun z => V.ref z.1).length ≤ sizeLine := by
    rw [List.length_map, List.length_map, hb.perm.length_eq]
    exact hz
  refine wpAny_pure ⟨_, rfl, .ref h'.objs.size, upd H h'.objs.size (.lst ((out.map fun v => (adOf v, siOf s.heap v)).map fun z => V.ref z.1)), I1.laid (t' := tk) (fun b u e => ?_) (Nat.le_refl _)
    (show ObjOk X.prog X.w _ _ _ (.lst _) from ⟨hlen, out, e', ?_, he'⟩), rfl, q _ _ ?_ ?_ ?_ (I1.hok.fresh (Nat.le_refl _))⟩
  · have hb : b < h'.objs.size := Heap.lt_size e
    rw [PyProof.Rows.sortedHeap_old (Nat.ne_of_lt hb) (by rw [size_push']; exact Nat.lt_succ_of_lt hb)]
    exact Heap.get?_push_of_some _ e
  · have := vals_refs (out.map fun v => (adOf v, siOf s.heap v))
    rw [hout] at this
    exact this
  · rw [List.map_map, ← hks2]
    exact hb.perm.map _
  · rw [List.map_map, List.pairwise_map]
    exact hs
  · intro z hz'
    obtain ⟨v, hv, rfl⟩ := List.mem_map.mp hz'
    obtain ⟨p, b, rfl, hb2, si⟩ := ho3 v hv
    rw [si.of]
    exact hb2
end
end Hk
/-! leases: rows of holder, talk, until; what each deed does to them -/
namespace Hs
open PySem PySem.Spec PyProof.Rows L2 Hu Evl
open Hk (SI ltSI)
abbrev Ls : Type := SI × (Int × Int)
def getL : List Ls → SI → Option (Int × Int)
  | [], _ => none
  | l :: r, k => if l.1 = k then some l.2 else getL r k
def putL : List Ls → SI → Int × Int → List Ls
  | [], k, v => [(k, v)]
  | l :: r, k, v => if l.1 = k then (k, v) :: r else l :: putL r k v
def dropL (L : List Ls) (k : SI) : List Ls := L.filter fun l => decide (l.1 ≠ k)
def ndK (L : List Ls) : Prop := (L.map (·.1)).Nodup
def srt (L : List Ls) : Prop := (L.map (·.1)).Pairwise fun a b => ltSI a b = true
theorem getL_cons (l : Ls) (r : List Ls) (k : SI) : getL (l :: r) k = if l.1 = k then some l.2 else getL r k := rfl
theorem getL_none {L : List Ls} {k : SI} : getL L k = none ↔ ∀ l ∈ L, l.1 ≠ k := by
  induction L with
  | nil => simp [getL]
  | cons l r ih =>
    unfold getL
    by_cases h : l.1 = k
    · rw [if_pos h]
      simp [h]
    · rw [if_neg h, ih]
      simp [h]
theorem getL_mem {L : List Ls} {k : SI} {v : Int × Int} (h : getL L k = some v) : (k, v) ∈ L := by
  induction L with
  | nil => cases h
  | cons l r ih =>
    unfold getL at h
    by_cases q : l.1 = k
    · rw [if_pos q] at h
      cases h
      rw [← q]
      exact List.mem_cons_self ..
    · rw [if_neg q] at h
      exact List.mem_cons_of_mem _ (ih h)
theorem getL_of {L : List Ls} (n : ndK L) {l : Ls} (h : l ∈ L) : getL L l.1 = some l.2 := by
  induction L with
  | nil => cases h
  | cons x r ih =>
    unfold ndK at n
    rw [List.map_cons, List.nodup_cons] at n
    unfold getL
    rcases List.mem_cons.mp h with rfl | h
    · rw [if_pos rfl]
    · have : x.1 ≠ l.1 := fun e => n.1 (by rw [e]; exact List.mem_map.mpr ⟨l, h, rfl⟩)
      rw [if_neg this]
      exact ih n.2 h
theorem getL_put {L : List Ls} {k j : SI} {v : Int × Int} : getL (putL L k v) j = if j = k then some v else getL L j := by
  induction L with
  | nil =>
    unfold putL getL
    by_cases h : k = j
    · rw [if_pos h, if_pos h.symm]
    · rw [if_neg h, if_neg (fun e => h e.symm)]
      rfl
  | cons l r ih =>
    unfold putL
    by_cases q : l.1 = k
    · rw [if_pos q]
      by_cases h : j = k
      · rw [if_pos h]
        unfold getL
        rw [if_pos h.symm]
      · rw [if_neg h]
        rw [getL_cons, getL_cons, if_neg (fun e => h e.symm), if_neg (fun e => h (e.symm.trans q))]
    · rw [if_neg q]
      unfold getL
      rw [ih]
      by_cases h : l.1 = j
      · rw [if_pos h, if_pos h, if_neg (fun e => q (h.trans e))]
      · rw [if_neg h, if_neg h]
theorem keys_put {L : List Ls} {k : SI} {v : Int × Int} : ∀ j ∈ (putL L k v).map (·.1), j = k ∨ j ∈ L.map (·.1) := by
  induction L with
  | nil =>
    intro j h
    simp [putL] at h
    exact .inl h
  | cons l r ih =>
    intro j h
    unfold putL at h
    by_cases q : l.1 = k
    · rw [if_pos q, List.map_cons] at h
      rcases List.mem_cons.mp h with h | h
      · exact .inl h
      · exact .inr (List.mem_cons_of_mem _ h)
    · rw [if_neg q, List.map_cons] at h
      rcases List.mem_cons.mp h with h | h
      · exact .inr (by rw [h]; exact List.mem_cons_self ..)
      · rcases ih j h with h | h
        · exact .inl h
        · exact .inr (List.mem_cons_of_mem _ h)
theorem ndK_put {L : List Ls} {k : SI} {v : Int × Int} (n : ndK L) : ndK (putL L k v) := by
  induction L with
  | nil => simp [putL, ndK]
  | cons l r ih =>
    unfold ndK at n
    rw [List.map_cons, List.nodup_cons] at n
    unfold putL
    by_cases q : l.1 = k
    · rw [if_pos q]
      unfold ndK
      rw [List.map_cons, List.nodup_cons]
      exact ⟨by rw [← q]; exact n.1, n.2⟩
    · rw [if_neg q]
      unfold ndK
      rw [List.map_cons, List.nodup_cons]
      refine ⟨fun h => ?_, ih n.2⟩
      rcases keys_put _ h with h | h
      · exact q h
      · exact n.1 h
theorem len_put (L : List Ls) (k : SI) (v : Int × Int) : (putL L k v).length ≤ L.length + 1 := by
  induction L with
  | nil => simp [putL]
  | cons l r ih =>
    unfold putL
    by_cases q : l.1 = k
    · rw [if_pos q]
      simp
    · rw [if_neg q, List.length_cons, List.length_cons]
      omega
theorem put_new {L : List Ls} {k : SI} {v : Int × Int} (h : getL L k = none) : putL L k v = L ++ [(k, v)] := by
  induction L with
  | nil => rfl
  | cons l r ih =>
    unfold getL at h
    by_cases q : l.1 = k
    · rw [if_pos q] at h
      cases h
    · rw [if_neg q] at h
      unfold putL
      rw [if_neg q, ih h]
      rfl
/-- a filter that looks at holder and what stands there -/
theorem getL_filter {L : List Ls} (n : ndK L) (f : Ls → Bool) (k : SI) : getL (L.filter f) k = (getL L k).filter fun v => f (k, v) := by
  induction L with
  | nil => rfl
  | cons l r ih =>
    unfold ndK at n
    rw [List.map_cons, List.nodup_cons] at n
    have i := ih n.2
    by_cases q : l.1 = k
    · have g : getL (l :: r) k = some l.2 := by
        unfold getL
        rw [if_pos q]
      have e : (k, l.2) = l := by rw [← q]
      rw [g]
      by_cases fl : f l = true
      · rw [List.filter_cons_of_pos fl]
        have : getL (l :: r.filter f) k = some l.2 := by
          unfold getL
          rw [if_pos q]
        rw [this, Option.filter_some, e, if_pos fl]
      · rw [List.filter_cons_of_neg fl, i]
        have : getL r k = none := getL_none.mpr fun x hx e => n.1 (by rw [q, ← e]; exact List.mem_map.mpr ⟨x, hx, rfl⟩)
        rw [this, Option.filter_some, e, if_neg fl]
        rfl
    · have g : getL (l :: r) k = getL r k := by
        conv => lhs; unfold getL
        rw [if_neg q]
      rw [g, ← i]
      by_cases fl : f l = true
      · rw [List.filter_cons_of_pos fl]
        conv => lhs; unfold getL
        rw [if_neg q]
      · rw [List.filter_cons_of_neg fl]
theorem getL_map {L : List Ls} (g : Int × Int → Int × Int) (k : SI) : getL (L.map fun l => (l.1, g l.2)) k = (getL L k).map g := by
  induction L with
  | nil => rfl
  | cons l r ih =>
    rw [List.map_cons]
    unfold getL
    by_cases q : l.1 = k
    · rw [if_pos q, if_pos q]
      rfl
    · rw [if_neg q, if_neg q, ih]
theorem ndK_filter {L : List Ls} (n : ndK L) (f : Ls → Bool) : ndK (L.filter f) := List.Nodup.sublist (List.Sublist.map _ List.filter_sublist) n
theorem srt_filter {L : List Ls} (n : srt L) (f : Ls → Bool) : srt (L.filter f) := List.Pairwise.sublist (List.Sublist.map _ List.filter_sublist) n
theorem keys_map (L : List Ls) (g : Int × Int → Int × Int) : (L.map fun l => ((l.1, g l.2) : Ls)).map (·.1) = L.map (·.1) := by
  rw [List.map_map]
  rfl
theorem srt_nd {L : List Ls} (h : srt L) : ndK L := by
  unfold ndK
  unfold srt at h
  refine List.Pairwise.imp (fun {a b} q e => ?_) h
  rw [e, Hk.ltSI_irr] at q
  cases q
theorem getL_drop {L : List Ls} (n : ndK L) (k j : SI) : getL (dropL L k) j = if j = k then none else getL L j := by
  unfold dropL
  rw [getL_filter n]
  by_cases h : j = k
  · rw [if_pos h]
    cases getL L j with
    | none => rfl
    | some v => simp [h]
  · rw [if_neg h]
    cases getL L j with
    | none => rfl
    | some v => simp [h]
/-- rows in order are told by what they hold -/
theorem srt_uniq : ∀ {A B : List Ls}, srt A → srt B → (∀ k, getL A k = getL B k) → A = B
  | [], [], _, _, _ => rfl
  | [], b :: B, _, _, h => by
    have := h b.1
    unfold getL at this
    rw [if_pos rfl] at this
    cases this
  | a :: A, [], _, _, h => by
    have := h a.1
    unfold getL at this
    rw [if_pos rfl] at this
    cases this
  | a :: A, b :: B, ha, hb, h => by
    have na := srt_nd ha
    have nb := srt_nd hb
    have ga : ∀ x ∈ b :: B, x ∈ a :: A := fun x hx => by
      have e := getL_of nb hx
      rw [← h] at e
      exact getL_mem e
    have gb : ∀ x ∈ a :: A, x ∈ b :: B := fun x hx => by
      have e := getL_of na hx
      rw [h] at e
      exact getL_mem e
    have ha' := ha
    have hb' := hb
    unfold srt at ha hb
    rw [List.map_cons, List.pairwise_cons] at ha hb
    have e : a = b := by
      rcases List.mem_cons.mp (gb a (List.mem_cons_self ..)) with q | q
      · exact q
      · rcases List.mem_cons.mp (ga b (List.mem_cons_self ..)) with q2 | q2
        · exact q2.symm
        · have l1 := hb.1 a.1 (List.mem_map.mpr ⟨a, q, rfl⟩)
          have l2 := ha.1 b.1 (List.mem_map.mpr ⟨b, q2, rfl⟩)
          rw [Hk.ltSI_asym l1] at l2
          cases l2
    subst e
    unfold ndK at na nb
    rw [List.map_cons, List.nodup_cons] at na nb
    rw [srt_uniq (A := A) (B := B) ha.2 hb.2 fun k => ?_]
    by_cases q : a.1 = k
    · rw [getL_none.mpr fun x hx e => na.1 (by rw [q, ← e]; exact List.mem_map.mpr ⟨x, hx, rfl⟩), getL_none.mpr fun x hx e => nb.1 (by rw [q, ← e]; exact List.mem_map.mpr ⟨x, hx, rfl⟩)]
    · have := h k
      unfold getL at this
      rw [if_neg q, if_neg q] at this
      exact this
/-- the holders in order, each with what stands there -/
def byKeys (L : List Ls) (zs : List SI) : List Ls := zs.map fun z => (z, (getL L z).getD (0, 0))
theorem byKeys_srt {L : List Ls} {zs : List SI} (n : ndK L) (hp : zs.Perm (L.map (·.1))) (hs : zs.Pairwise fun x y => ltSI y x = false) : srt (byKeys L zs) ∧ ∀ k, getL (byKeys L zs) k = getL L k := by
  have ek : (byKeys L zs).map (·.1) = zs := by
    unfold byKeys
    rw [List.map_map]
    exact (List.map_congr_left fun _ _ => rfl).trans (List.map_id _)
  have nz : zs.Nodup := hp.nodup_iff.mpr n
  have st : srt (byKeys L zs) := by
    unfold srt
    rw [ek]
    refine (hs.and nz).imp (fun {a b} q => ?_)
    rcases Hk.ltSI_tri a b with h | h | h
    · exact h
    · exact absurd h q.2
    · rw [q.1] at h
      cases h
  refine ⟨st, fun k => ?_⟩
  cases e : getL (byKeys L zs) k with
  | none =>
    rw [getL_none] at e
    refine (getL_none.mpr fun l hl ek => ?_).symm
    have : l.1 ∈ zs := hp.mem_iff.mpr (List.mem_map.mpr ⟨l, hl, rfl⟩)
    exact e (l.1, (getL L l.1).getD (0, 0)) (List.mem_map.mpr ⟨l.1, this, rfl⟩) ek
  | some v =>
    have m := getL_mem e
    obtain ⟨z, hz, ez⟩ := List.mem_map.mp m
    have e1 : z = k := congrArg Prod.fst ez
    subst e1
    obtain ⟨l, hl, e2⟩ := List.mem_map.mp (hp.mem_iff.mp hz)
    have g := getL_of n hl
    rw [e2] at g
    have e3 : (getL L z).getD (0, 0) = v := congrArg Prod.snd ez
    rw [g] at e3 ⊢
    rw [← e3]
    rfl
/-! ### deeds -/
inductive Deed where
  | lease (k : SI) (t : Int)
  | free (k : SI) (t : Int)
  | tick
  | rise
def Deed.isTick : Deed → Bool
  | .tick => true
  | _ => false
/-- what stands at a holder behind a deed; c the clock behind it -/
def fD (D : Deed) (c : Int) (k : SI) (o : Option (Int × Int)) : Option (Int × Int) := match D with
  | .lease j t => if k = j then some (match o with | some v => max t v.1 | none => t, c + 8) else o
  | .free j t => if k = j then o.filter fun v => decide (t ≤ v.1) else o
  | .tick => o.filter fun v => decide (c < v.2)
  | .rise => o.map fun v => (v.1, c + 8)
/-- deeds at another holder -/
def Deed.off (D : Deed) (k : SI) : Prop := match D with
  | .lease j _ => j ≠ k
  | .free j _ => j ≠ k
  | _ => False
theorem fD_off {D : Deed} {k : SI} (h : D.off k) (c : Int) (o : Option (Int × Int)) : fD D c k o = o := by
  cases D with
  | lease j t => exact if_neg fun e => h e.symm
  | free j t => exact if_neg fun e => h e.symm
  | tick => exact h.elim
  | rise => exact h.elim
end Hs
/-! values made anew, known by their data -/
namespace Hu
open PySem
mutual
/-- nothing, integers, texts, tuples of such -/
def pln : U → Prop
  | .tup us => plnL us
  | .lst _ | .dct _ | .exc | .bl _ => False
  | _ => True
def plnL : List U → Prop
  | [] => True
  | u :: us => pln u ∧ plnL us
end
theorem plnL_all {us : List U} : plnL us ↔ ∀ u ∈ us, pln u := by
  induction us with
  | nil => simp [plnL]
  | cons u us ih => simp [plnL, ih]
end Hu
namespace Hs
open PySem PySem.Spec PyProof.Rows L2 Hu Evl
section
variable {w C : Addr} {H H' : Hp}
mutual
theorem at_tups (k : ∀ b zs, b ≠ w → H b = some (.tup zs) → H' b = some (.tup zs)) : ∀ {u : U} {v : V}, pln u → At w C H v u → At w C H' v u
  | _, _, _, .non => .non
  | .bl _, _, p, _ => p.elim
  | _, _, _, .int i => .int i
  | _, _, _, .str z => .str z
  | _, _, p, .tup h n l => .tup (k _ _ n h) n (atl_tups k p l)
  | _, _, p, .lst _ _ _ => p.elim
  | _, _, p, .dct _ _ _ _ _ => p.elim
  | _, _, p, .exc _ _ _ _ => p.elim
theorem atl_tups (k : ∀ b zs, b ≠ w → H b = some (.tup zs) → H' b = some (.tup zs)) : ∀ {us : List U} {vs : List V}, plnL us → AtL w C H vs us → AtL w C H' vs us
  | _, _, _, .nil => .nil
  | _, _, p, .cons x l => .cons (at_tups k p.1 x) (atl_tups k p.2 l)
end
/-- evaluates to a value of this data -/
def EvD (w C : Addr) (te : TE) (σ : L2.St) (H : Hp) (u : U) : Prop := ∀ H1, Ex H H1 → ∀ Q : VK, (∀ v H2, Ex H1 H2 → At w C H2 v u → Q v H2) → te σ H1 Q
def EvDs (w C : Addr) (ta : TA) (σ : L2.St) (H : Hp) (us : List U) : Prop := ∀ H1, Ex H H1 → ∀ Q : List V → Hp → Prop, (∀ vs H2, Ex H1 H2 → AtL w C H2 vs us → Q vs H2) → ta σ H1 Q
/-- to a new list of this data -/
def EvLD (w C : Addr) (te : TE) (σ : L2.St) (H : Hp) (us : List U) : Prop := ∀ H1, Ex H H1 → ∀ Q : VK, (∀ p ys H2, H1 p = none → Ex H1 H2 → H2 p = some (.lst ys) → AtL w C H2 ys us → Q (.ref p) H2) → te σ H1 Q
theorem EvD.mono {te : TE} {σ : L2.St} {u : U} (e : Ex H H') (h : EvD w C te σ H u) : EvD w C te σ H' u := fun H1 e1 Q q => h H1 (e.trans e1) Q q
theorem EvLD.mono {te : TE} {σ : L2.St} {us : List U} (e : Ex H H') (h : EvLD w C te σ H us) : EvLD w C te σ H' us := fun H1 e1 Q q => h H1 (e.trans e1) Q q
section
variable {K : PySem.W.Frag} {σ : L2.St} {te tb tl : TE} {t : TT} {ta tr : TA} {v : V} {u : U} {us us1 us2 : List U} {xs : List V}
theorem ed_ev (h : Ev te σ H v) (hat : At w C H v u) : EvD w C te σ H u := fun H1 e Q q => h H1 e _ fun H2 e2 => q v H2 e2 (ex_at (e.trans e2) hat)
theorem eds_nil : EvDs w C tNil σ H [] := fun H1 e Q q => q [] H1 (Ex.refl H1) .nil
theorem eds_cons (h : EvD w C te σ H u) (hr : EvDs w C tr σ H us) : EvDs w C (tCons te tr) σ H (u :: us) := fun H1 e Q q =>
  h H1 e _ fun v H2 e2 a => hr H2 (e.trans e2) _ fun vs H3 e3 l => q (v :: vs) H3 (e2.trans e3) (.cons (ex_at e3 a) l)
theorem new_ne {p : Addr} (hw : ∃ o, H w = some o) (h : H p = none) : p ≠ w := fun z => by
  obtain ⟨o, ho⟩ := hw
  rw [← z, h] at ho
  cases ho
theorem ed_tup (hw : ∃ o, H w = some o) (h : EvDs w C ta σ H us) (hz : us.length ≤ 100000) : EvD w C (tTup ta) σ H (.tup us) := fun H1 e Q q =>
  h H1 e _ fun vs H2 e2 l => ⟨sz_of (by rw [AtL.length l]; exact hz), fun p hp => q (.ref p) _ (e2.trans (Ex.new hp)) (.tup upd_same (new_ne (hw.imp fun o z => (e.trans e2) _ _ z) hp) (ex_atl (Ex.new hp) l))⟩
def cutU (us : List U) (lo hi : Option Int) : List U := (us.drop (HT.sIx us.length 0 lo)).take (HT.sIx us.length us.length hi - HT.sIx us.length 0 lo)
theorem atl_cut {lo hi : Option Int} (l : AtL w C H xs us) : AtL w C H (cutV xs lo hi) (cutU us lo hi) := by
  unfold cutV cutU
  rw [AtL.length l]
  exact AtL.take _ (AtL.drop _ l)
theorem ed_slice {a : Addr} {tl th : TO} {lo hi : Option Int} (hw : ∃ o, H w = some o) (h : Ev te σ H (.ref a)) (hx : H a = some (.tup xs)) (na : a ≠ w) (l : AtL w C H xs us) (h1 : EvO tl σ H lo) (h2 : EvO th σ H hi) : EvD w C (tSl (rSlA K) te tl th) σ H (.tup (cutU us lo hi)) := fun H1 e Q q =>
  h H1 e _ fun H2 e2 => h1 H2 (e.trans e2) _ fun H3 e3 => h2 H3 ((e.trans e2).trans e3) _ fun H4 e4 => by
    have e5 := ((e.trans e2).trans e3).trans e4
    refine ⟨a, xs, rfl, st_of (e5 _ _ hx), fun hh => ?_, fun _ p hp => ?_⟩
    · have eu : cutU us lo hi = us := by
        unfold cutU
        rw [← AtL.length l, hh.1, hh.2, AtL.length l, List.drop_zero, Nat.sub_zero, List.take_length]
      exact q _ H4 ((e2.trans e3).trans e4) (by rw [eu]; exact .tup (e5 _ _ hx) na (ex_atl e5 l))
    · exact q _ _ (((e2.trans e3).trans e4).trans (Ex.new hp)) (.tup upd_same (new_ne (hw.imp fun o z => e5 _ _ z) hp) (ex_atl (Ex.new hp) (atl_cut (ex_atl e5 l))))
theorem ed_cat (hw : ∃ o, H w = some o) (h1 : EvD w C te σ H (.tup us1)) (h2 : EvD w C tb σ H (.tup us2)) (hz : us1.length + us2.length ≤ 100000) : EvD w C (tOp (rCatA K) te tb) σ H (.tup (us1 ++ us2)) := fun H1 e Q q =>
  h1 H1 e _ fun v1 H2 e2 a1 => h2 H2 (e.trans e2) _ fun v2 H3 e3 a2 => by
    obtain ⟨p1, x1, rfl, g1, n1, t1⟩ := at_tup (ex_at e3 a1)
    obtain ⟨p2, x2, rfl, g2, n2, t2⟩ := at_tup a2
    refine ⟨p1, p2, x1, x2, rfl, rfl, st_of g1, st_of g2, sz_of (by rw [AtL.length t1, AtL.length t2]; exact hz), fun z => ?_, fun _ z => ?_, fun _ _ p hp => ?_⟩
    · subst z
      cases t1
      exact q _ H3 (e2.trans e3) a2
    · subst z
      cases t2
      rw [List.append_nil] at q
      exact q _ H3 (e2.trans e3) (ex_at e3 a1)
    · exact q _ _ ((e2.trans e3).trans (Ex.new hp)) (.tup upd_same (new_ne (hw.imp fun o z => ((e.trans e2).trans e3) _ _ z) hp) (ex_atl (Ex.new hp) (AtL.append t1 t2)))
theorem ed_call {sp : Sp} {E : XK} {ur : U} (h : EvDs w C ta σ H us) (hs : ∀ vs H1, Ex H H1 → AtL w C H1 vs us → ∀ Q : VK, (∀ v H2, Ex H1 H2 → At w C H2 v ur → Q v H2) → ∀ E, sp vs H1 Q E) : EvD w C (tCall sp [] E ta) σ H ur :=
  fun H1 e Q q => h H1 e _ fun vs H2 e2 l => by
    have := hs vs H2 (e.trans e2) l Q (fun v H3 e3 a => q v H3 (e2.trans e3) a) E
    rwa [show vs = vs ++ [] from (List.append_nil vs).symm] at this
/-- tuple(a new list) -/
abbrev rTupO (K : PySem.W.Frag) : List V → Hp → VK → Prop := fun xs H Q => ∃ p ys, xs = [.ref p] ∧ ((SqL K H p ys ∧ ∀ l, H l = none → Q (.ref l) (upd H l (.tup ys))) ∨ (SqT K H p ys ∧ Q (.ref p) H))
theorem ed_tupL (hw : ∃ o, H w = some o) (h : EvLD w C te σ H us) : EvD w C (tCB (rTupO K) (tCons te tNil)) σ H (.tup us) := fun H1 e Q q =>
  h H1 e _ fun p ys H2 hp e2 h2 l => ⟨p, ys, rfl, .inl ⟨sq_of h2, fun b hb => q (.ref b) _ (e2.trans (Ex.new hb)) (.tup upd_same (new_ne (hw.imp fun o z => (e.trans e2) _ _ z) hb) (ex_atl (Ex.new hb) l))⟩⟩
theorem atl_append {us1 us2 : List U} {x1 x2 : List V} (h1 : AtL w C H x1 us1) (h2 : AtL w C H x2 us2) : AtL w C H (x1 ++ x2) (us1 ++ us2) := AtL.append h1 h2
theorem take_filter {us : List U} {i : Nat} {u : U} (g : U → Bool) (h : us[i]? = some u) : (us.take (i + 1)).filter g = (us.take i).filter g ++ if g u = true then [u] else [] := by
  rw [List.take_add_one, h, List.filter_append]
  congr 1
  by_cases q : g u = true
  · rw [if_pos q]
    show List.filter g [u] = _
    rw [List.filter_cons_of_pos q]
    rfl
  · rw [if_neg q]
    show List.filter g [u] = _
    rw [List.filter_cons_of_neg q]
    rfl
/-- [f(x) for x in a tuple if g(x)] -/
theorem lc_D {a : Addr} {j : Nat} {vs : List Nat} {g : U → Bool} {f : U → U} (h : Ev tl σ H (.ref a)) (hx : H a = some (.tup xs)) (hl : AtL w C H xs us) (hz : us.length ≤ 40000) (hp : ∀ u ∈ us, pln (f u)) (hw : ∀ x, wipe ((wipe σ vs).set j (some x)) vs = wipe σ vs)
    (ht : ∀ (x : V) (u : U) G, u ∈ us → Ex H G → At w C G x u → EvT t ((wipe σ vs).set j (some x)) G (g u)) (he : ∀ (x : V) (u : U) G, u ∈ us → g u = true → Ex H G → At w C G x u → EvD w C te ((wipe σ vs).set j (some x)) G (f u)) :
    EvLD w C (tLc (iTup K tl) (gName j) t te vs) σ H ((us.filter g).map f) := fun H0 e Q q => h H0 e _ fun H1 e1 => ⟨a, rfl, ⟨xs, st_of ((e.trans e1) _ _ hx)⟩, fun Dl hD =>
  lc_tup (xs := xs) (fun i H' => Ex H1 H' ∧ ∃ ys, H' Dl = some (.lst ys) ∧ ys.length ≤ i ∧ AtL w C H' ys (((us.take i).filter g).map f)) ⟨Ex.new hD, [], upd_same, Nat.le_refl _, .nil⟩ (fun i H' _ p => st_of (((e.trans e1).trans p.1) _ _ hx)) (fun i x H2 hi p => by
    obtain ⟨p1, ys, p2, p3, p4⟩ := p
    have hlen := AtL.length hl
    have hu : i < us.length := by
      have := (List.getElem?_eq_some_iff.mp hi).1
      omega
    obtain ⟨x', hx', hax⟩ := AtL.get hl (List.getElem?_eq_getElem hu)
    rw [hi] at hx'
    cases hx'
    have e2 := (e.trans e1).trans p1
    refine ⟨hw x, ht x us[i] H2 (List.getElem_mem hu) e2 (ex_at e2 hax) H2 (Ex.refl H2) _ fun H3 e3 => ?_⟩
    have eg := take_filter g (List.getElem?_eq_getElem hu)
    cases hg : g us[i] with
    | false =>
      rw [hg] at eg
      rw [if_neg Bool.false_ne_true, List.append_nil] at eg
      rw [if_neg Bool.false_ne_true]
      exact ⟨p1.trans e3, ys, e3 _ _ p2, by omega, by rw [eg]; exact ex_atl e3 p4⟩
    | true =>
      rw [hg, if_pos rfl] at eg
      rw [if_pos rfl]
      refine he x us[i] H3 (List.getElem_mem hu) hg (e2.trans e3) (ex_at (e2.trans e3) hax) H3 (Ex.refl H3) _ fun v H4 e4 a4 => ⟨ys, e4 _ _ (e3 _ _ p2), ?_, fun q o hq => ?_, ys ++ [v], upd_same, ?_, ?_⟩
      · have := bit_line
        unfold bit at this
        omega
      · rw [upd_ne (ne_of_none hq hD)]
        exact e4 _ _ (e3 _ _ (p1 _ _ hq))
      · rw [List.length_append]
        show ys.length + 1 ≤ i + 1
        omega
      · have nt : ∀ b zs, b ≠ w → H4 b = some (.tup zs) → upd H4 Dl (.lst (ys ++ [v])) b = some (.tup zs) := fun b zs _ hb => by
          rw [upd_ne (fun z => by rw [z, e4 _ _ (e3 _ _ p2)] at hb; cases hb)]
          exact hb
        rw [eg, List.map_append]
        refine AtL.append (atl_tups nt (plnL_all.mpr fun y hy => ?_) (ex_atl (e3.trans e4) p4)) (.cons (at_tups nt (hp _ (List.getElem_mem hu)) a4) .nil)
        obtain ⟨z, hz', rfl⟩ := List.mem_map.mp hy
        exact hp z (List.mem_of_mem_take (List.mem_filter.mp hz').1)) (fun H' p => by
    obtain ⟨p1, ys, p2, p3, p4⟩ := p
    rw [AtL.length hl, List.take_length] at p4
    exact q Dl ys H' (fresh_back e1 hD) (e1.trans p1) p2 p4)⟩
end
end
end Hs
/-! a dict comprehension with tuples as keys; d.pop(k) of such a dict -/
namespace Hk
open PySem PySem.Spec PyProof.Rows L2
section
variable {X : Cx} {pins : List (Addr × Obj)} {σ : L2.St} {H : Hp} {s : Shared}
/-- a block of a comprehension writes the key and the value -/
theorem dt_set {E : Value → Shared → Prop} {D b : Addr} {kvs : List (List L2.Key × V)} {k : List L2.Key} {v : V} {r : Value} {Q : Unit → Shared → Prop} (hu : X.A.units + 1 < cLine) (J : Inv X pins σ H s) (eD : H D = some (.dT kvs)) (lz : kvs.length < sizeLine)
    (eb : H b = some (.tup (k.map kV))) (rv : RelV v r) (h : ∀ s', Inv X pins σ (upd H D (.dT (putK kvs k v))) s' → Q () s') : wpAny (model X.prog X.w) X.A (dictSet D (.ref b) r) Q E s := by
  obtain ⟨lk, hd, xs, pr, at_⟩ := dt_of J.hok eD
  have lx : xs.length ≤ sizeLine := by have := Paired.length pr; omega
  have lp : (putK kvs k v).length ≤ sizeLine := by have := length_putK kvs k v; omega
  refine wpAny_dictSet_heap (hsz := lx) (show X.A.units < cLine from Nat.lt_of_succ_lt hu) (key_of J.hok eb) at_ fun hp' at' sb => h _ ?_
  obtain ⟨ob, es, ep, g1, g2, g3, g4, _, g5⟩ := at'
  exact d_write J (by rw [eD]; exact True.intro) sb ⟨ob, g1⟩ ⟨lp, hd, _, (pr.put k eb rv).keeps (fun c ys ec => by rw [upd_ne (ne_of ec eD (fun z => nomatch z))]; exact ec), ob, es, ep, g1, g2, g3, g4, g5⟩
/-- {(..): v for target in iter}: D the new dict -/
def tDt (wi : TI) (g : TG) (tt : TT) (tk tv : TE) (vs : List Nat) : TE := fun σ H Q => wi σ H fun It G => ∀ D, G D = none → ∃ W : Nat → Nat → Hp → Prop, (∃ m, W 0 m (upd G D (.dT []))) ∧ ∀ i m H, W i m H →
  (It.stop i H ∧ Q (.ref D) H) ∨ (It.go i H ∧ ∃ Nx : Hp → Prop, (∀ H', Nx H' → ∃ m', m' < m ∧ W (i + 1) m' H') ∧ ∀ x H', It.yld i H x H' → g x (wipe σ vs) H' fun τ H2 => wipe τ vs = wipe σ vs ∧ tt τ H2 fun ok H3 =>
    if ok = true then tk τ H3 fun y H4 => tv τ H4 fun z H5 => ∃ b kvs k, y = .ref b ∧ H5 b = some (.tup (k.map kV)) ∧ H5 D = some (.dT kvs) ∧ kvs.length < sizeLine ∧ Nx (upd H5 D (.dT (putK kvs k z))) else Nx H3)
/-- the parts of such a comprehension, read in each block -/
structure DtP (X : Cx) (kx vx tg : Expr) (ifs : List Expr) (scope : Scope) (g : TG) (tt : TT) (tk tv : TE) : Prop where
  g : ∀ (s : Shared) (H : Hp) (C : Addr) (cl : List (Str × Addr)) (fp : List Addr), PG (X.blk s H scope (compEnvC scope cl C X.env) fp) tg g
  t : ∀ (s : Shared) (H : Hp) (C : Addr) (cl : List (Str × Addr)) (fp : List Addr), PTs (X.blk s H scope (compEnvC scope cl C X.env) fp) ifs tt
  k : ∀ (s : Shared) (H : Hp) (C : Addr) (cl : List (Str × Addr)) (fp : List Addr), PE (X.blk s H scope (compEnvC scope cl C X.env) fp) kx tk
  v : ∀ (s : Shared) (H : Hp) (C : Addr) (cl : List (Str × Addr)) (fp : List Addr), PE (X.blk s H scope (compEnvC scope cl C X.env) fp) vx tv
theorem dt_core {Q : VK} {kx vx tg iter : Expr} {ifs : List Expr} {scope : Scope} {own : List (Str × Nat)} {pos pos' : Pos} {wi : TI} {g : TG} {tt : TT} {tk tv : TE} {use : Option (Value → Sem Unit)} {Qf : Value → Shared → Prop}
    (hu : X.A.units + 1 < cLine) (hc : X.calm = true) (nd : X.N.Nodup) (J : Inv X pins σ H s) (pi : PI X tg iter wi) (ok : BlkOk X.N X.env.scope scope own) (P : DtP X kx vx tg ifs scope g tt tk tv)
    (fl : ∀ x, foldedSetIterable iter X.env x = pure x) (h : tDt wi g tt tk tv (own.map (·.2)) σ H Q)
    (back : ∀ D C s' m H', Inv X pins σ H' s' → Q (.ref D) H' → s'.heap.Ns C m → FpOk X pins H' C → compPost (model X.prog X.w) X.A X.xe use Qf (.ref D) C (.ok .next) s') :
    wpAny (model X.prog X.w) X.A (comprehension (.DictComp kx vx [⟨tg, iter, ifs, 0⟩] scope pos) scope X.env pos' newDict false (eval iter X.env) use) Qf X.xe s := by
  have frees : ∀ y ∈ scope.names, y.2 = .free → ∃ c, X.env.cells.lookup y.1 = some c := fun y hy e => by
    rcases ok.free y hy e with k | k
    all_goals exact J.ok.has _ (by first | exact .inl k | exact .inr k)
  refine wpAny_comprehension_free (use := use) rfl fl (closure_ok frees) ok.kind (fun y hy e => by rw [ok.uniq y hy, e]) (thn (pi.run pins s σ H _ J h) fun xv t1 hx => thn hx fun itv t2 got => ?_)
  obtain ⟨it, fp, tn, It, G2, rfl, J2, T, st2, f2, q⟩ := got
  refine wpAny_newObj_type (newEnv_comp ?_)
  generalize eD : t2.heap.objs.size = D
  obtain ⟨W, ⟨m0, w0⟩, turn⟩ := q D (J2.hok.fresh (Nat.le_of_eq eD))
  -- the dict, empty
  generalize e3 : ({ t2 with heap := t2.heap.push { cls := .type "dict", data := .dict #[] } } : Shared) = t3
  have q3 : t3.heap = t2.heap.push { cls := .type "dict", data := .dict #[] } := by rw [← e3]
  have J3 : Inv X pins σ (upd G2 D (.dT [])) t3 := by
    rw [← e3]
    exact J2.laid (t' := t2.toks) (fun b o e => Heap.get?_push_of_some _ e) (Nat.le_of_eq eD) (by rw [← eD]; exact dt_empty t2.heap J2.big)
  have below : ∀ b ∈ fp, b < t2.heap.objs.size := fun b hb => (T.obj _ _ st2 b hb).elim fun o z => Heap.lt_size z.1
  have f3 : ∀ b ∈ fp, FpOk X pins (upd G2 D (.dT [])) b ∧ b < t3.heap.objs.size := fun b hb => ⟨⟨by rw [upd_ne (by rw [← eD]; exact Nat.ne_of_lt (below b hb))]; exact (f2 b hb).1, (f2 b hb).2⟩, by rw [q3, Heap.size_push]; exact Nat.lt_succ_of_lt (below b hb)⟩
  have st3 : tn 0 t3.heap := T.keep _ _ _ st2 fun b _ o e => by rw [q3]; exact Heap.get?_push_of_some _ e
  have J4 := block_start J3 ok nd f3
  have pg := P.g t3 (upd G2 D (.dT [])) t3.heap.objs.size (cellsFrom (t3.heap.objs.size + 1) scope.names (cloFrom X.env.cells scope.names [])) fp
  have pt := P.t t3 (upd G2 D (.dT [])) t3.heap.objs.size (cellsFrom (t3.heap.objs.size + 1) scope.names (cloFrom X.env.cells scope.names [])) fp
  have pk := P.k t3 (upd G2 D (.dT [])) t3.heap.objs.size (cellsFrom (t3.heap.objs.size + 1) scope.names (cloFrom X.env.cells scope.names [])) fp
  have pv := P.v t3 (upd G2 D (.dT [])) t3.heap.objs.size (cellsFrom (t3.heap.objs.size + 1) scope.names (cloFrom X.env.cells scope.names [])) fp
  show codeAny _ _ (.compStart (.DictComp kx vx [⟨tg, iter, ifs, 0⟩] scope pos) 0 (.ref it) (.ref D) (compEnvC scope (cellsFrom (t3.heap.objs.size + 1) scope.names (cloFrom X.env.cells scope.names [])) t3.heap.objs.size X.env)) (compPost (model X.prog X.w) X.A X.xe use Qf (.ref D) t3.heap.objs.size) { t3 with heap := pushCells (t3.heap.push { cls := .type "dict", data := .dict #[] }) scope.names }
  have nofp : ∀ b ∈ fp, (upd G2 D (.dT [])) b = none := fun b hb => (f3 b hb).1.1
  generalize ec : compEnvC scope (cellsFrom (t3.heap.objs.size + 1) scope.names (cloFrom X.env.cells scope.names [])) t3.heap.objs.size X.env = ce at J4 pg pt pk pv ⊢
  have eloc : ce.locals = t3.heap.objs.size := by rw [← ec]; rfl
  generalize eG3 : upd G2 D (.dT []) = G3 at J3 J4 pg pt pk pv w0 nofp f3
  generalize e4 : ({ t3 with heap := pushCells (t3.heap.push { cls := .type "dict", data := .dict #[] }) scope.names } : Shared) = t4 at J4 ⊢
  have st4 : tn 0 t4.heap := T.keep _ _ _ st3 fun b _ o e => by rw [← e4]; exact pushCells_keeps _ _ _ _ (Heap.get?_push_of_some _ e)
  have stay : ∀ {τ : L2.St} {G : Hp} {u : Shared}, Inv (X.blk t3 G3 scope ce fp) [] τ G u → (∀ b ∈ fp, G b = none) → ∀ b ∈ fp, FpOk (X.blk t3 G3 scope ce fp) [] G b := fun {τ G u} J' hn b hb =>
    ⟨hn b hb, (J'.ok.exf b hb).1, J'.ok.exfs b hb, .inl hb, fun x c e => (J'.ok.exf b hb).2 x c e, fun p hp => absurd (show p ∈ ([] : List (Addr × Obj)) ++ [] from hp) (by simp)⟩
  have lp : codeAny (model X.prog X.w) X.A (.compLoop (.DictComp kx vx [⟨tg, iter, ifs, 0⟩] scope pos) 0 (.ref it) (.ref D) ce) (compPost (model X.prog X.w) X.A X.xe use Qf (.ref D) t3.heap.objs.size) t4 := by
    refine compLoop_anyD (fun n u => ∃ i G, Inv (X.blk t3 G3 scope ce fp) [] (wipe σ (own.map (·.2))) G u ∧ tn i u.heap ∧ (∀ b ∈ fp, G b = none) ∧ W i n G) (fun n t5 => ?_) m0 ⟨0, G3, J4, st4, nofp, w0⟩
    rintro ⟨i, G5, J5, st5, n5, w5⟩
    rcases turn i n G5 w5 with ⟨stop, qq⟩ | ⟨go, Nx, hNx, step⟩
    · refine thnF (T.done (X.blk t3 G3 scope ce fp) rfl rfl rfl hc i [] t5 _ G5 (fun _ _ => False) J5 (stay J5 n5) st5 stop) fun r t6 ⟨hr, J6⟩ => ?_
      subst hr
      have J7 : Inv X pins σ G5 t6 := J3.call' (ch := fp) J6.os J6.base J6.hok J6.bare fun b hb => ⟨(f3 b hb).1.2.2.2.1, (f3 b hb).1.2.1, (f3 b hb).1.2.2.2.2.1, (f3 b hb).1.2.2.2.2.2⟩
      obtain ⟨m, hm, _⟩ := J6.loc
      have hm : t6.heap.Ns ce.locals m := hm
      have nC : G5 ce.locals = none := J6.free
      rw [eloc] at hm nC
      exact back D t3.heap.objs.size t6 m G5 J7 qq hm (J3.fpOk (Nat.le_refl _) nC)
    · refine thnF (T.item (X.blk t3 G3 scope ce fp) rfl rfl rfl hc i [] t5 _ G5 (fun _ _ => False) J5 (stay J5 n5) st5 go) fun r t6 ⟨u, hr, h6⟩ => ?_
      subst hr
      refine thnF h6 fun _ t7 ⟨x, G7, J7, r7, y7, st7, n7⟩ => ?_
      have J7' := J7.pinned (stay J7 n7) (T.obj _ _ st7)
      refine thnF (pg.run _ t7 _ G7 x u _ J7' r7 (step x G7 y7)) fun _ t8 ⟨τ, G8, J8, w8, q8⟩ => ?_
      refine thnF (pt.run _ t8 τ G8 _ J8 q8) fun b t9 ⟨G9, J9, q9⟩ => ?_
      have fin : ∀ {u : Shared} {G : Hp}, Inv (X.blk t3 G3 scope ce fp) ([] ++ pinsAt fp t7.heap) τ G u → Nx G → ∃ m, m < n ∧ ∃ i G, Inv (X.blk t3 G3 scope ce fp) [] (wipe σ (own.map (·.2))) G u ∧ tn i u.heap ∧ (∀ b ∈ fp, G b = none) ∧ W i m G := fun {u G} J' nx => by
        obtain ⟨m', hm, w'⟩ := hNx G nx
        have pin : ∀ b ∈ fp, ∀ o, t7.heap.get? b = some o → u.heap.get? b = some o ∧ G b = none := fun b hb o e => (J'.pin (b, o) (List.mem_append_right _ (List.mem_append_right _ (mem_pinsAt hb e)))).elim fun z1 z2 => ⟨z1, z2.1⟩
        refine ⟨m', hm, i + 1, G, (J'.unpinned (pins := [])).weak (by rw [← w8, wipe_length]) (fun j v e => ?_), T.keep _ _ _ st7 fun b hb o e => (pin b hb o e).1, fun b hb => (T.obj _ _ st7 b hb).elim fun o z => (pin b hb o z.1).2, w'⟩
        rw [← w8] at e
        exact (wipe_some e).1
      cases b
      · simp only [Bool.false_eq_true, if_false] at q9 ⊢
        exact fin J9 q9
      · simp only [if_true] at q9 ⊢
        refine thnF (pk.run _ t9 τ G9 _ J9 q9) fun z t10 ⟨yk, G10, J10, r10, q10⟩ => ?_
        refine thnF (pv.run _ t10 τ G10 _ J10 q10) fun z2 t11 ⟨yv, G11, J11, r11, b, kvs, k, eb, hb, hD, lz, nx⟩ => ?_
        subst eb
        cases (show z = Value.ref b from r10)
        exact dt_set (X := X.blk t3 G3 scope ce fp) hu J11 hD lz hb r11 fun t12 J12 => fin J12 nx
  exact codeAny_compStart_dict lp (T.self X.A 0 _ _ _ st4 lp)
theorem pe_dt {kx vx tg iter : Expr} {ifs : List Expr} {scope : Scope} {own : List (Str × Nat)} {pos : Pos} {wi : TI} {g : TG} {tt : TT} {tk tv : TE} (hu : X.A.units + 1 < cLine) (hc : X.calm = true) (nd : X.N.Nodup) (pi : PI X tg iter wi) (ok : BlkOk X.N X.env.scope scope own)
    (pg : ∀ (s : Shared) (H : Hp) (C : Addr) (cl : List (Str × Addr)) (fp : List Addr), PG (X.blk s H scope (compEnvC scope cl C X.env) fp) tg g) (pt : ∀ (s : Shared) (H : Hp) (C : Addr) (cl : List (Str × Addr)) (fp : List Addr), PTs (X.blk s H scope (compEnvC scope cl C X.env) fp) ifs tt)
    (pk : ∀ (s : Shared) (H : Hp) (C : Addr) (cl : List (Str × Addr)) (fp : List Addr), PE (X.blk s H scope (compEnvC scope cl C X.env) fp) kx tk) (pv : ∀ (s : Shared) (H : Hp) (C : Addr) (cl : List (Str × Addr)) (fp : List Addr), PE (X.blk s H scope (compEnvC scope cl C X.env) fp) vx tv)
    (fl : ∀ x, foldedSetIterable iter X.env x = pure x := by intro _; rfl) : PE X (.DictComp kx vx [⟨tg, iter, ifs, 0⟩] scope pos) (tDt wi g tt tk tv (own.map (·.2))) := by
  refine ⟨fun pins s σ H Q J h => ?_⟩
  rw [arm_eval_DictComp]
  refine dt_core hu hc nd J pi ok ⟨pg, pt, pk, pv⟩ fl h fun D C s' m H' J' q hn f => ⟨m, hn, fun h'' sb => ?_⟩
  exact ⟨.ref D, H', J'.turned (t' := s'.toks) (fun b o hb e => (sb.2 b hb).trans e) f.1 f.2.1 f.2.2.2.1 f.2.2.2.2.1 f.2.2.2.2.2, rfl, q⟩
/-- d.pop(k), the key there -/
def rPop1T : V → List V → Hp → VK → Prop := fun x xs H Q => ∃ (a b : Addr) (kvs : List (List L2.Key × V)) (k : List L2.Key) (v : V), x = .ref a ∧ xs = [.ref b] ∧ H a = some (.dT kvs) ∧ H b = some (.tup (k.map kV)) ∧ valV kvs k = some v ∧ Q v (upd H a (.dT (dropK kvs k)))
theorem mt_pop1T (hu : X.A.units + 1 < cLine) : MtR X "dict.pop" rPop1T := by
  intro pins s σ H x xs v us Q J rx rxs h
  obtain ⟨a, b, kvs, k, v0, rfl, rfl, ha, hb, hv, q⟩ := h
  cases rx
  obtain ⟨u1, rfl, r1⟩ := vals1 rxs
  cases (show u1 = Value.ref b from r1)
  obtain ⟨lk, hd, xs, pr, at_⟩ := dt_of J.hok ha
  have lx : xs.length ≤ sizeLine := by have := Paired.length pr; omega
  have rv := pr.val k
  rw [hv] at rv
  cases hp : atKey xs k with
  | none =>
    rw [hp] at rv
    exact rv.elim
  | some p =>
    rw [hp] at rv
    refine call_pop_heap (p := p) (.inl rfl) (PySem.F.args_dict_pop_2 _ _) (tupleKind_room_in1 hu) (key_of J.hok hb) hd at_ hp (fun hp' at' sb => ?_) lx
    obtain ⟨ob, es, ep, g1, g2, g3, g4, _, g5⟩ := at'
    exact ⟨v0, upd H a (.dT (dropK kvs k)), d_write (ob := .dT (dropK kvs k)) J (by rw [ha]; exact True.intro) sb ⟨ob, g1⟩ ⟨Nat.le_trans (dropK_le kvs k) lk, hd, _, (DX.KT_drop k pr).keeps (fun c ys ec => by rw [upd_ne (ne_of ec ha (fun z => nomatch z))]; exact ec), ob, es, ep, g1, g2, g3, g4, g5⟩, rv, q⟩
end
end Hk
namespace Hs
open PySem PySem.Spec PyProof.Rows L2 Hu Evl
open Hk (SI ltSI)
abbrev sChanged : Stmt := topS 60
abbrev sByHolder : Stmt := topS 63
abbrev sInOrder : Stmt := topS 64
abbrev sLeased : Stmt := topS 70
abbrev sFreed : Stmt := topS 71
abbrev sTicked : Stmt := topS 75
abbrev sRisen : Stmt := topS 77
abbrev sBehind : Stmt := topS 81
abbrev sLets : Stmt := topS 82
abbrev sDone : Stmt := topS 83
/-- a table, its clock and leases open -/
structure Tb where
  (e m a : U)
  clock : Int
  (h b : U)
  ls : List Ls
  (p v n : U)
def lsU (l : Ls) : U := .tup [.str l.1.1, .int l.1.2, .int l.2.1, .int l.2.2]
def tabU (T : Tb) : U := .tup [T.e, T.m, T.a, .int T.clock, T.h, T.b, .tup (T.ls.map lsU), T.p, T.v, T.n]
section
variable {P : Program} {wd : World} {K : PySem.W.Frag} {mg : Str → Option Value} {base : Heap} {C : Addr}
/-! ### changed -/
theorem scChanged : FnScope ["table", "at", "part"] ["table", "at", "part"] (defScope sChanged) := ⟨rfl, rfl, rfl, by decide +kernel, rfl, by decide +kernel, by decide +kernel⟩
def spCh (C : Addr) : Sp := fun vs H Q _ => ∃ (x y : V) (k : Nat) (us : List U) (u : U) (w : Addr), vs = [x, .int (k : Int), y] ∧ At w C H x (.tup us) ∧ At w C H y u ∧ (∃ o, H w = some o) ∧ k < us.length ∧ us.length ≤ 1000 ∧
  ∀ v H', Same H H' → At w C H' v (.tup (us.set k u)) → Q v H'
theorem set_cut (us : List U) (k : Nat) (u : U) (h : k < us.length) : cutU us none (some (k : Int)) ++ [u] ++ cutU us (some ((k : Int) + 1)) none = us.set k u := by
  have e1 : cutU us none (some (k : Int)) = us.take k := by
    unfold cutU
    have z1 : HT.sIx us.length 0 none = 0 := rfl
    have z2 : HT.sIx us.length us.length (some (k : Int)) = k := by
      simp only [HT.sIx]
      rw [if_neg (by omega)]
      omega
    rw [z1, z2]
    simp
  have e2 : cutU us (some ((k : Int) + 1)) none = us.drop (k + 1) := by
    unfold cutU
    have z1 : HT.sIx us.length 0 (some ((k : Int) + 1)) = k + 1 := by
      simp only [HT.sIx]
      rw [if_neg (by omega)]
      omega
    have z2 : HT.sIx us.length us.length none = us.length := rfl
    rw [z1, z2, List.take_of_length_le (by rw [List.length_drop]; omega)]
  rw [e1, e2, List.set_eq_take_append_cons_drop, if_pos h]
  simp
theorem ok_changed {f : Addr} {fd : FuncData} (D : Df K mg "changed" sChanged ["table", "at", "part"] f fd) : FnOk P wd K mg base CX0 1 f fd ["table", "at", "part"] (spCh C) := by
  refine D.F.ok scChanged (fun vs H Q E h => ?_) (fun cdv A outer s H vs Q E hr h => ?_)
  · obtain ⟨x, y, k, us, u, w, rfl, _⟩ := h
    rfl
  obtain ⟨x, y, j, us, u, w, rfl, hx, hy, hw, hj, hz, k⟩ := h
  refine ⟨_, pss_one (ps_ret (pe_op op_catA (pe_op op_catA (pe_slice sl_tupA (pv 0) po_none (po_some (pv 1))) (pe_tup (pa_cons (pv 2) pa_nil))) (pe_slice sl_tupA (pv 0) (po_some (pe_op op_add (pv 1) pe_int)) po_none))), ?_⟩
  obtain ⟨a, xs, rfl, ha, na, hl⟩ := at_tup hx
  have main : EvD w C (tOp (rCatA K) (tOp (rCatA K) (tSl (rSlA K) (tVar 0) tNoPart (tPart (tVar 1))) (tTup (tCons (tVar 2) tNil))) (tSl (rSlA K) (tVar 0) (tPart (tOp (rI0 fun i j => .int (i + j)) (tVar 1) (tC (.int 1)))) tNoPart)) [some (.ref a), some (.int (j : Int)), some y] H (.tup (us.set j u)) := by
    rw [← set_cut us j u hj]
    have l1 : (cutU us none (some (j : Int))).length ≤ 1000 := by
      unfold cutU
      rw [List.length_take, List.length_drop]
      omega
    have l2 : (cutU us (some ((j : Int) + 1)) none).length ≤ 1000 := by
      unfold cutU
      rw [List.length_take, List.length_drop]
      omega
    refine ed_cat hw (ed_cat hw (ed_slice hw (ev_var rfl) ha na hl eo_none (eo_some (ev_var rfl))) (ed_tup hw (eds_cons (ed_ev (ev_var rfl) hy) eds_nil) (by show (1 : Nat) ≤ 100000; decide)) ?_) (ed_slice hw (ev_var rfl) ha na hl (eo_some (ev_op (ev_var rfl) ev_c rv_I0)) eo_none) ?_
    · show _ + 1 ≤ 100000
      omega
    · rw [List.length_append]
      show _ + 1 + _ ≤ 100000
      omega
  exact main H (Ex.refl H) _ fun v H1 e a => k v H1 e a
/-! ### dicts of leases -/
inductive Dl (H : Hp) : List (List L2.Key × V) → List Ls → Prop
  | nil : Dl H [] []
  | cons {p : Addr} {l : Ls} {kvs : List (List L2.Key × V)} {L : List Ls} : H p = some (.tup [.int l.2.1, .int l.2.2]) → Dl H kvs L → Dl H ((Hk.keySI l.1, .ref p) :: kvs) (l :: L)
theorem Dl.tups {H H' : Hp} {kvs : List (List L2.Key × V)} {L : List Ls} (e : ∀ b zs, H b = some (.tup zs) → H' b = some (.tup zs)) (h : Dl H kvs L) : Dl H' kvs L := by
  induction h with
  | nil => exact .nil
  | cons h _ ih => exact .cons (e _ _ h) ih
theorem Dl.len {H : Hp} {kvs : List (List L2.Key × V)} {L : List Ls} (h : Dl H kvs L) : kvs.length = L.length := by
  induction h with
  | nil => rfl
  | cons _ _ ih => rw [List.length_cons, List.length_cons, ih]
theorem Dl.keys {H : Hp} {kvs : List (List L2.Key × V)} {L : List Ls} (h : Dl H kvs L) : kvs.map (·.1) = (L.map (·.1)).map Hk.keySI := by
  induction h with
  | nil => rfl
  | cons _ _ ih => rw [List.map_cons, List.map_cons, List.map_cons, ih]
theorem keySI_inj {a b : SI} (h : Hk.keySI a = Hk.keySI b) : a = b := by
  injection h with h1 h2
  injection h2 with h3 h4
  exact Prod.ext (Sum.inr.inj h1) (Sum.inl.inj h3)
theorem Dl.vnone {H : Hp} {kvs : List (List L2.Key × V)} {L : List Ls} (h : Dl H kvs L) {k : SI} (g : getL L k = none) : valV kvs (Hk.keySI k) = none := by
  induction h with
  | nil => rfl
  | @cons p l kvs L _ _ ih =>
    rw [getL_cons] at g
    by_cases q : l.1 = k
    · rw [if_pos q] at g
      cases g
    · rw [if_neg q] at g
      rw [valV_neg fun e => q (keySI_inj e)]
      exact ih g
theorem Dl.vsome {H : Hp} {kvs : List (List L2.Key × V)} {L : List Ls} (h : Dl H kvs L) {k : SI} {v : Int × Int} (g : getL L k = some v) : ∃ p, valV kvs (Hk.keySI k) = some (.ref p) ∧ H p = some (.tup [.int v.1, .int v.2]) := by
  induction h with
  | nil => cases g
  | @cons p l kvs L hp _ ih =>
    rw [getL_cons] at g
    by_cases q : l.1 = k
    · rw [if_pos q] at g
      cases g
      rw [valV_pos (congrArg Hk.keySI q)]
      exact ⟨p, rfl, hp⟩
    · rw [if_neg q] at g
      rw [valV_neg fun e => q (keySI_inj e)]
      exact ih g
theorem Dl.append {H : Hp} {kvs kvs2 : List (List L2.Key × V)} {L L2 : List Ls} (h : Dl H kvs L) (h2 : Dl H kvs2 L2) : Dl H (kvs ++ kvs2) (L ++ L2) := by
  induction h with
  | nil => exact h2
  | cons hp _ ih => exact .cons hp ih
theorem Dl.repl {H : Hp} {kvs : List (List L2.Key × V)} {L : List Ls} {k : SI} {p : Addr} {v : Int × Int} (hp : H p = some (.tup [.int v.1, .int v.2])) (h : Dl H kvs L) :
    Dl H (kvs.map fun kv => if kv.1 = Hk.keySI k then (kv.1, V.ref p) else kv) (L.map fun l => if l.1 = k then (k, v) else l) := by
  induction h with
  | nil => exact .nil
  | @cons p' l kvs L hp' _ ih =>
    rw [List.map_cons, List.map_cons]
    by_cases q : l.1 = k
    · rw [if_pos q, if_pos (congrArg Hk.keySI q)]
      have : (Hk.keySI l.1, V.ref p) = (Hk.keySI ((k, v) : Ls).1, V.ref p) := by rw [q]
      rw [this]
      exact .cons hp ih
    · rw [if_neg q, if_neg fun e => q (keySI_inj e)]
      exact .cons hp' ih
theorem putL_map {L : List Ls} {k : SI} {v : Int × Int} (n : ndK L) (g : (getL L k).isSome = true) : putL L k v = L.map fun l => if l.1 = k then (k, v) else l := by
  induction L with
  | nil => cases g
  | cons l r ih =>
    unfold ndK at n
    rw [List.map_cons, List.nodup_cons] at n
    unfold putL
    rw [getL_cons] at g
    rw [List.map_cons]
    by_cases q : l.1 = k
    · rw [if_pos q, if_pos q]
      congr 1
      refine ((List.map_congr_left fun x hx => ?_).trans (List.map_id _)).symm
      exact if_neg fun e => n.1 (by rw [q, ← e]; exact List.mem_map.mpr ⟨x, hx, rfl⟩)
    · rw [if_neg q] at g
      rw [if_neg q, if_neg q, ih n.2 g]
theorem Dl.put {H : Hp} {kvs : List (List L2.Key × V)} {L : List Ls} (n : ndK L) {k : SI} {p : Addr} {v : Int × Int} (h : Dl H kvs L) (hp : H p = some (.tup [.int v.1, .int v.2])) : Dl H (putK kvs (Hk.keySI k) (.ref p)) (putL L k v) := by
  cases g : getL L k with
  | none =>
    rw [putK_new _ (h.vnone g), put_new g]
    exact h.append (.cons (l := (k, v)) hp .nil)
  | some x =>
    obtain ⟨q, hq, _⟩ := h.vsome g
    have ha : (kvs.any fun kv => decide (kv.1 = Hk.keySI k)) = true := by
      rw [valV_any, hq]
      rfl
    rw [putL_map n (by rw [g]; rfl)]
    unfold putK
    rw [if_pos ha]
    exact h.repl hp
theorem Dl.drop {H : Hp} {kvs : List (List L2.Key × V)} {L : List Ls} (k : SI) (h : Dl H kvs L) : Dl H (dropK kvs (Hk.keySI k)) (dropL L k) := by
  induction h with
  | nil => exact .nil
  | @cons p l kvs L hp _ ih =>
    unfold dropK dropL at *
    by_cases q : l.1 = k
    · rw [List.filter_cons_of_neg (by rw [q]; simp), List.filter_cons_of_neg (by simp [q])]
      exact ih
    · rw [List.filter_cons_of_pos (p := fun kv : List L2.Key × V => decide (kv.1 ≠ Hk.keySI k)) (decide_eq_true fun e => q (keySI_inj e)), List.filter_cons_of_pos (p := fun l : Ls => decide (l.1 ≠ k)) (decide_eq_true q)]
      exact .cons hp ih
end
end Hs
namespace Hs
open PySem PySem.Spec PyProof.Rows L2 Hu Evl
open Hk (SI ltSI)
theorem dt_tup {K : PySem.W.Frag} {a : Addr} {xs : List V} {g : TG} {tt : TT} {tk tv : TE} {vs : List Nat} {σ : L2.St} {G : Hp} {D : Addr} {Qd : Hp → Prop} (Pv : Nat → Hp → Prop) (h0 : Pv 0 (upd G D (.dT []))) (hl : ∀ i H, i ≤ xs.length → Pv i H → SqT K H a xs)
    (hs : ∀ i x H, xs[i]? = some x → Pv i H → g x (wipe σ vs) H fun τ H2 => wipe τ vs = wipe σ vs ∧ tt τ H2 fun ok H3 =>
      if ok = true then tk τ H3 fun y H4 => tv τ H4 fun z H5 => ∃ b kvs k, y = .ref b ∧ H5 b = some (.tup (k.map kV)) ∧ H5 D = some (.dT kvs) ∧ kvs.length < sizeLine ∧ Pv (i + 1) (upd H5 D (.dT (putK kvs k z))) else Pv (i + 1) H3) (hd : ∀ H, Pv xs.length H → Qd H) :
    ∃ W : Nat → Nat → Hp → Prop, (∃ m, W 0 m (upd G D (.dT []))) ∧ ∀ i m H, W i m H →
      ((Itt K a).stop i H ∧ Qd H) ∨ ((Itt K a).go i H ∧ ∃ Nx : Hp → Prop, (∀ H', Nx H' → ∃ m', m' < m ∧ W (i + 1) m' H') ∧ ∀ x H', (Itt K a).yld i H x H' → g x (wipe σ vs) H' fun τ H2 => wipe τ vs = wipe σ vs ∧ tt τ H2 fun ok H3 =>
        if ok = true then tk τ H3 fun y H4 => tv τ H4 fun z H5 => ∃ b kvs k, y = .ref b ∧ H5 b = some (.tup (k.map kV)) ∧ H5 D = some (.dT kvs) ∧ kvs.length < sizeLine ∧ Nx (upd H5 D (.dT (putK kvs k z))) else Nx H3) := by
  refine ⟨fun i m H => m = xs.length - i ∧ i ≤ xs.length ∧ Pv i H, ⟨xs.length, (Nat.sub_zero _).symm, Nat.zero_le _, h0⟩, ?_⟩
  rintro i m H ⟨em, le, p⟩
  by_cases h : i < xs.length
  · exact .inr ⟨⟨xs, xs[i], hl i H le p, List.getElem?_eq_getElem h⟩, Pv (i + 1), fun H' p' => ⟨xs.length - (i + 1), by omega, rfl, h, p'⟩, fun x H' y => by
      have ex := y.2 xs (hl i H le p)
      rw [y.1]
      exact hs i x H ex p⟩
  · have e : i = xs.length := by omega
    exact .inl ⟨⟨xs, hl i H le p, by omega⟩, hd H (by rw [← e]; exact p)⟩
theorem at_ls {w C : Addr} {H : Hp} {x : V} {l : Ls} (h : At w C H x (lsU l)) : ∃ p, x = .ref p ∧ H p = some (.tup [.str l.1.1, .int l.1.2, .int l.2.1, .int l.2.2]) := four_at h
theorem lsU_pln (l : Ls) : pln (lsU l) := by
  unfold lsU
  simp [pln, plnL]
section
variable {P : Program} {wd : World} {K : PySem.W.Frag} {mg : Str → Option Value} {base : Heap} {C : Addr}
theorem atl_leases {w : Addr} {H : Hp} {xs : List V} {L : List Ls} (h : AtL w C H xs (L.map lsU)) {i : Nat} {x : V} (hx : xs[i]? = some x) : ∃ l, L[i]? = some l ∧ At w C H x (lsU l) := by
  have hl := AtL.length h
  rw [List.length_map] at hl
  have hi : i < L.length := by
    have := (List.getElem?_eq_some_iff.mp hx).1
    omega
  obtain ⟨y, hy, ha⟩ := AtL.get h (i := i) (by rw [List.getElem?_map, List.getElem?_eq_getElem hi]; rfl)
  rw [hx] at hy
  cases hy
  exact ⟨L[i], List.getElem?_eq_getElem hi, ha⟩
/-! ### _leases_by_holder -/
theorem scByHolder : FnScope ["table", "name", "hand", "talk", "until"] ["table"] (defScope sByHolder) := ⟨rfl, rfl, rfl, by decide +kernel, rfl, by decide +kernel, by decide +kernel⟩
def spBy (C : Addr) : Sp := fun vs H Q _ => ∃ (x : V) (T : Tb) (w : Addr), vs = [x] ∧ At w C H x (tabU T) ∧ ndK T.ls ∧ T.ls.length ≤ 40000 ∧ ∀ d kvs H', H d = none → Same H H' → H' d = some (.dT kvs) → Dl H' kvs T.ls → Q (.ref d) H'
theorem nth_at {w : Addr} {H : Hp} {x : V} {us : List U} {σ : L2.St} {te : TE} (hat : At w C H x (.tup us)) (h : Ev te σ H x) (k : Nat) (hk : k < us.length) : ∃ y, Ev (tOp (rIxT K) te (tC (.int (k : Int)))) σ H y ∧ At w C H y (us.getD k .non) :=
  ev_nth (m := us.length) h hat (decide_eq_true rfl) hk
theorem ok_byHolder {f : Addr} {fd : FuncData} (D : Df K mg "_leases_by_holder" sByHolder ["table"] f fd) (N : Ct mg) : FnOk P wd K mg base CX0 1 f fd ["table"] (spBy C) := by
  refine D.F.ok scByHolder (fun vs H Q E h => ?_) (fun cdv A outer s H vs Q E hr h => ?_)
  · obtain ⟨x, T, w, rfl, _⟩ := h
    rfl
  obtain ⟨x, T, w, rfl, hx, nd, hz, k⟩ := h
  refine ⟨_, pss_one (ps_ret (Hk.pe_dt (g := gTup K 4 (gCons (gName 1) (gCons (gName 2) (gCons (gName 3) (gCons (gName 4) gNil))))) (tt := tYes) (tk := tTup (tCons (tVar 1) (tCons (tVar 2) tNil))) (tv := tTup (tCons (tVar 3) (tCons (tVar 4) tNil))) (own := [("name", 1), ("hand", 2), ("talk", 3), ("until", 4)]) (Nat.lt_of_le_of_lt (Nat.add_le_add_left (by decide : 1 ≤ 64) _) (room_hu hr)) rfl scByHolder.nd (pi_tup (pe_ix ix_tup (pv 0) (pe_gi (by rfl) N.p6) (fun _ _ => rfl)))
    (blkOk_by (N := ["table", "name", "hand", "talk", "until"]) (sc := defScope sByHolder) (by decide +kernel))
    (fun _ _ _ _ _ => pg_tup rfl (pgs_cons (pg_name (i := 1) scByHolder.nd rfl (.inl rfl)) (pgs_cons (pg_name (i := 2) scByHolder.nd rfl (.inl rfl)) (pgs_cons (pg_name (i := 3) scByHolder.nd rfl (.inl rfl)) (pgs_cons (pg_name (i := 4) scByHolder.nd rfl (.inl rfl)) pgs_nil)))))
      (fun _ _ _ _ _ => pts_nil) (fun _ _ _ _ _ => pe_tup (pa_cons (pv 1) (pa_cons (pv 2) pa_nil))) (fun _ _ _ _ _ => pe_tup (pa_cons (pv 3) (pa_cons (pv 4) pa_nil))))), ?_⟩
  obtain ⟨y, ey, ay⟩ := nth_at (K := K) (us := _) (σ := [some x, none, none, none, none]) (te := tVar 0) hx (ev_var rfl) 6 (by show 6 < 10; decide)
  have ay' : At w C H y (.tup (T.ls.map lsU)) := ay
  obtain ⟨a, xs, rfl, ha, na, hl⟩ := at_tup ay'
  have hlen := AtL.length hl
  rw [List.length_map] at hlen
  refine ey H (Ex.refl H) _ fun H1 e1 => ⟨a, rfl, ⟨xs, st_of (e1 _ _ ha)⟩, fun Dd hD => dt_tup (xs := xs) (fun i G => Ex H1 G ∧ ∃ kvs, G Dd = some (.dT kvs) ∧ Dl G kvs (T.ls.take i)) ⟨Ex.new hD, [], upd_same, .nil⟩ (fun i G _ p => st_of (p.1 _ _ (e1 _ _ ha))) (fun i x G hi p => ?_) (fun G p => ?_)⟩
  · obtain ⟨p1, kvs, p2, p3⟩ := p
    obtain ⟨l, hl1, hx1⟩ := atl_leases hl hi
    obtain ⟨b, rfl, hb⟩ := at_ls (ex_at (e1.trans p1) hx1)
    refine ⟨b, _, rfl, st_of hb, rfl, _, _, rfl, _, _, rfl, _, _, rfl, _, _, rfl, rfl, rfl, ?_⟩
    refine et_yes G (Ex.refl G) _ fun G0 e0 => ?_
    rw [if_pos rfl]
    refine eu_tup (ea_cons (ev_var rfl) (ea_cons (ev_var rfl) ea_nil)) (by show (2 : Nat) ≤ 100000; decide) G0 (Ex.refl G0) _ fun c G1 _ e2' kc => ?_
    have e2 := e0.trans e2'
    refine eu_tup (ea_cons (ev_var rfl) (ea_cons (ev_var rfl) ea_nil)) (by show (2 : Nat) ≤ 100000; decide) G1 (Ex.refl G1) _ fun d G2 _ e3 kd => ?_
    have hi1 : i < T.ls.length := (List.getElem?_eq_some_iff.mp hl1).1
    have g0 : getL (T.ls.take i) l.1 = none := getL_none.mpr fun y hy ey' => by
      have n1 : ndK (T.ls.take (i + 1)) := List.Nodup.sublist (List.Sublist.map _ (List.take_sublist _ _)) nd
      rw [List.take_add_one, hl1] at n1
      unfold ndK at n1
      rw [List.map_append, List.nodup_append] at n1
      exact n1.2.2 y.1 (List.mem_map.mpr ⟨y, hy, rfl⟩) l.1 (by show l.1 ∈ [l.1]; simp) ey'
    have nt : ∀ b zs, G2 b = some (.tup zs) → upd G2 Dd (.dT (putK kvs (Hk.keySI l.1) (.ref d))) b = some (.tup zs) := fun b zs hb => by
      rw [upd_ne (fun z => by rw [z, e3 _ _ (e2 _ _ p2)] at hb; cases hb)]
      exact hb
    refine ⟨c, kvs, Hk.keySI l.1, rfl, e3 _ _ kc, e3 _ _ (e2 _ _ p2), ?_, Ex.mut ((p1.trans e2).trans e3) hD, _, upd_same, ?_⟩
    · have := p3.len
      rw [List.length_take] at this
      exact sz_lt (by omega)
    · rw [List.take_add_one, hl1, putK_new _ (p3.vnone g0)]
      exact ((p3.tups fun b zs h => e3 _ _ (e2 _ _ h)).append (.cons (l := l) kd .nil)).tups (by rw [← putK_new (v := V.ref d) (p3.vnone g0)]; exact nt)
  · obtain ⟨p1, kvs, p2, p3⟩ := p
    rw [hlen, List.take_length] at p3
    exact k Dd kvs G (fresh_back e1 hD) (e1.trans p1) p2 p3
end
end Hs
namespace Hs
open PySem PySem.Spec PyProof.Rows L2 Hu Evl
open Hk (SI ltSI)
/-- the built-ins that k03 has more than k01 -/
structure Bz (mg : Str → Option Value) : Prop where
  sort : mg "sorted" = none
  zip : mg "zip" = none
theorem boot_sorted' : bootBuiltins "sorted" = some (.builtin "sorted") := by decide +kernel
theorem boot_max' : bootBuiltins "max" = some (.builtin "max") := by decide +kernel
section
variable {K : PySem.W.Frag} {w C : Addr} {σ : L2.St} {H : Hp} {tl te : TE}
/-- [f(x) for x in a list], each known by its data -/
theorem lc_DL {Rx : List V → Hp → Prop} {fs : List U} {j : Nat} {vs : List Nat} (hT : ∀ H0, Ex H H0 → ∀ Q : VK, (∀ p xs H1, Ex H0 H1 → H1 p = some (.lst xs) → Rx xs H1 → Q (.ref p) H1) → tl σ H0 Q) (hz : fs.length ≤ 40000) (hp : ∀ u ∈ fs, pln u) (hw : ∀ x, wipe ((wipe σ vs).set j (some x)) vs = wipe σ vs)
    (he : ∀ xs G0, Ex H G0 → Rx xs G0 → fs.length = xs.length ∧ ∀ (i : Nat) (x : V) (u : U) (G : Hp), xs[i]? = some x → fs[i]? = some u → Ex G0 G → EvD w C te ((wipe σ vs).set j (some x)) G u) :
    EvLD w C (tLc (iList K tl) (gName j) tYes te vs) σ H fs := fun H0 e Q q => hT H0 e _ fun a xs H1 e1 ha hR => ⟨a, rfl, ⟨xs, sq_of ha⟩, fun Dd hD => by
    obtain ⟨hlen, he'⟩ := he xs H1 (e.trans e1) hR
    exact lc_list (xs := xs) (fun i H' => Ex H1 H' ∧ ∃ ys, H' Dd = some (.lst ys) ∧ ys.length ≤ i ∧ AtL w C H' ys (fs.take i)) ⟨Ex.new hD, [], upd_same, Nat.le_refl _, .nil⟩ (fun i H' _ p => sq_of (p.1 _ _ ha)) (fun i x H2 hi p => by
      obtain ⟨p1, ys, p2, p3, p4⟩ := p
      have hu : i < fs.length := by
        have := (List.getElem?_eq_some_iff.mp hi).1
        omega
      refine ⟨hw x, et_yes H2 (Ex.refl H2) _ fun H3 e3 => ?_⟩
      rw [if_pos rfl]
      refine he' i x fs[i] H3 hi (List.getElem?_eq_getElem hu) (p1.trans e3) H3 (Ex.refl H3) _ fun v H4 e4 a4 => ⟨ys, e4 _ _ (e3 _ _ p2), ?_, fun q o hq => ?_, ys ++ [v], upd_same, ?_, ?_⟩
      · have := bit_line
        unfold bit at this
        omega
      · rw [upd_ne (ne_of_none hq hD)]
        exact e4 _ _ (e3 _ _ (p1 _ _ hq))
      · rw [List.length_append]
        show ys.length + 1 ≤ i + 1
        omega
      · have nt : ∀ b zs, b ≠ w → H4 b = some (.tup zs) → upd H4 Dd (.lst (ys ++ [v])) b = some (.tup zs) := fun b zs _ hb => by
          rw [upd_ne (fun z => by rw [z, e4 _ _ (e3 _ _ p2)] at hb; cases hb)]
          exact hb
        rw [List.take_add_one, List.getElem?_eq_getElem hu]
        exact AtL.append (atl_tups nt (plnL_all.mpr fun y hy => hp y (List.mem_of_mem_take hy)) (ex_atl (e3.trans e4) p4)) (.cons (at_tups nt (hp _ (List.getElem_mem hu)) a4) .nil)) (fun H' p => by
      obtain ⟨p1, ys, p2, p3, p4⟩ := p
      rw [← hlen, List.take_length] at p4
      exact q Dd ys H' (fresh_back e1 hD) (e1.trans p1) p2 p4)⟩
end
section
variable {P : Program} {wd : World} {K : PySem.W.Frag} {mg : Str → Option Value} {base : Heap} {C : Addr}
theorem byKeys_len (L : List Ls) (zs : List SI) : (byKeys L zs).length = zs.length := by
  unfold byKeys
  rw [List.length_map]
/-! ### _leases_in_order -/
theorem scInOrder : FnScope ["found", "holder"] ["found"] (defScope sInOrder) := ⟨rfl, rfl, rfl, by decide +kernel, rfl, by decide +kernel, by decide +kernel⟩
def spOrd (C : Addr) : Sp := fun vs H Q _ => ∃ (d : Addr) (kvs : List (List L2.Key × V)) (L L' : List Ls) (w : Addr), vs = [.ref d] ∧ H d = some (.dT kvs) ∧ Dl H kvs L ∧ ndK L ∧ srt L' ∧ (∀ k, getL L' k = getL L k) ∧ L.length ≤ 40000 ∧ (∃ o, H w = some o) ∧
  ∀ v H', Same H H' → At w C H' v (.tup (L'.map lsU)) → Q v H'
theorem ok_inOrder {f : Addr} {fd : FuncData} (D : Df K mg "_leases_in_order" sInOrder ["found"] f fd) (B : Bt mg) (Z : Bz mg) : FnOk P wd K mg base CX0 1 f fd ["found"] (spOrd C) := by
  refine D.F.ok scInOrder (fun vs H Q E h => ?_) (fun cdv A outer s H vs Q E hr h => ?_)
  · obtain ⟨d, kvs, L, L', w, rfl, _⟩ := h
    rfl
  obtain ⟨d, kvs, L, L', w, rfl, hd, dl, nd, st, hg, hz, hw, k⟩ := h
  refine ⟨_, pss_one (ps_ret (pe_callTy call_tuple_of (by rfl) B.tup boot_tuple' (pa_cons (pe_lc (own := [("holder", 1)]) (g := gName 1) (tt := tYes) rfl scInOrder.nd (pi_list (pe_callB (Hk.cr_sortDT rfl) (by rfl) Z.sort boot_sorted' (pa_cons (pv 0) pa_nil)))
    (blkOk_by (N := ["found", "holder"]) (sc := defScope sInOrder) (by decide +kernel)) (fun _ _ _ _ _ => pg_name (i := 1) scInOrder.nd rfl (Or.inl rfl)) (fun _ _ _ _ _ => pts_nil)
    (fun _ _ _ _ _ => pe_op (show OpR _ _ (rCatA K) from op_catA) (pv 1) (pe_dget (Nat.lt_of_le_of_lt (Nat.add_le_add_left (by decide : 1 ≤ 64) _) (room_hu hr)) (pv 0) (pv 1) (fun _ _ => rfl)))) pa_nil))), ?_⟩
  have lenL : L'.length = L.length := by
    have p : (L'.map (·.1)).Perm (L.map (·.1)) := by
      refine (List.perm_ext_iff_of_nodup (srt_nd st) nd).mpr fun x => ?_
      have key : ∀ {A B : List Ls}, (∀ k, getL A k = getL B k) → x ∈ A.map (·.1) → x ∈ B.map (·.1) := fun {A B} h m => by
        obtain ⟨l, hl, rfl⟩ := List.mem_map.mp m
        cases g : getL A l.1 with
        | none => exact absurd rfl (getL_none.mp g l hl)
        | some v =>
          rw [h] at g
          exact List.mem_map.mpr ⟨_, getL_mem g, rfl⟩
      exact ⟨key hg, key fun k => (hg k).symm⟩
    have := p.length_eq
    rwa [List.length_map, List.length_map] at this
  refine (show EvD w C _ _ H (.tup (L'.map lsU)) from ed_tupL hw (lc_DL (K := K) (Rx := fun xs G => ∃ zs : List (Addr × SI), xs = zs.map (fun z => V.ref z.1) ∧ byKeys L (zs.map (·.2)) = L' ∧ ∀ z ∈ zs, G z.1 = some (.tup [.str z.2.1, .int z.2.2])) (fun H0 e Q q => ?_) ?_ ?_ (fun _ => rfl) fun xs G0 e0 hR => ?_)) H (Ex.refl H) _ fun v H1 e a => k v H1 e a
  · refine ⟨_, rfl, d, kvs, L.map (·.1), rfl, e _ _ hd, dl.keys, fun zs p hperm hs ht hp => ?_⟩
    refine q p _ _ (Ex.new hp) upd_same ⟨zs, rfl, ?_, fun z hz => Ex.new hp _ _ (ht z hz)⟩
    obtain ⟨b1, b2⟩ := byKeys_srt nd hperm hs
    exact srt_uniq b1 st fun k => (b2 k).trans (hg k).symm
  · rw [List.length_map, lenL]
    exact hz
  · intro u hu
    obtain ⟨l, _, rfl⟩ := List.mem_map.mp hu
    exact lsU_pln l
  · obtain ⟨zs, rfl, hb, ht⟩ := hR
    refine ⟨by rw [List.length_map, List.length_map, ← hb, byKeys_len, List.length_map], fun i x u G hx hu eg => ?_⟩
    rw [List.getElem?_map] at hx hu
    cases h1 : zs[i]? with
    | none => rw [h1] at hx; cases hx
    | some z =>
      rw [h1] at hx
      cases hx
      have hz1 := ht z (List.mem_of_getElem? h1)
      have e2 : L'[i]? = some (z.2, (getL L z.2).getD (0, 0)) := by
        rw [← hb]
        unfold byKeys
        rw [List.getElem?_map, List.getElem?_map, h1]
        rfl
      rw [e2] at hu
      have hu' : lsU (z.2, (getL L z.2).getD (0, 0)) = u := Option.some.inj hu
      subst hu'
      have hm : getL L z.2 = some ((getL L z.2).getD (0, 0)) := by
        have := getL_of (srt_nd st) (List.mem_of_getElem? e2)
        rw [hg] at this
        rw [this]
        rfl
      obtain ⟨p, hv, hp⟩ := dl.vsome hm
      refine fun G1 e1 Q q => ⟨.ref z.1, rfl, .ref d, rfl, .ref z.1, rfl, d, .ref p, rfl, ?_, ?_⟩
      · have := DGet.t (k := Hk.keySI z.2) ((e0.trans (eg.trans e1)) _ _ hd) ((eg.trans e1) _ _ hz1)
        rw [hv] at this
        exact this
      · refine ⟨z.1, p, _, _, rfl, rfl, st_of ((eg.trans e1) _ _ hz1), st_of ((e0.trans (eg.trans e1)) _ _ hp), sz_of (by show (4 : Nat) ≤ 100000; decide), fun h => (by cases h), fun _ h => (by cases h), fun _ _ b hb => ?_⟩
        exact q _ _ (Ex.new hb) (.tup upd_same (new_ne (hw.imp fun o z => (e0.trans (eg.trans e1)) _ _ z) hb) (.cons (.str _) (.cons (.int _) (.cons (.int _) (.cons (.int _) .nil)))))
end
end Hs
namespace Hs
open PySem PySem.Spec PyProof.Rows L2 Hu Evl
open Hk (SI ltSI)
/-! ### rows in order with one more -/
def insL (k : SI) (v : Int × Int) : List Ls → List Ls
  | [] => [(k, v)]
  | l :: r => if k = l.1 then (k, v) :: r else if ltSI k l.1 = true then (k, v) :: l :: r else l :: insL k v r
theorem getL_ins {k j : SI} {v : Int × Int} : ∀ {L : List Ls}, getL (insL k v L) j = if j = k then some v else getL L j
  | [] => by
    unfold insL
    rw [getL_cons]
    by_cases h : k = j
    · rw [if_pos h, if_pos h.symm]
    · rw [if_neg h, if_neg fun e => h e.symm]
  | l :: r => by
    unfold insL
    by_cases q : k = l.1
    · rw [if_pos q, getL_cons, getL_cons]
      by_cases h : k = j
      · rw [if_pos h, if_pos h.symm]
      · rw [if_neg h, if_neg (fun e => h e.symm), if_neg fun e => h (q.trans e)]
    · rw [if_neg q]
      by_cases z : ltSI k l.1 = true
      · rw [if_pos z, getL_cons]
        by_cases h : k = j
        · rw [if_pos h, if_pos h.symm]
        · rw [if_neg h, if_neg fun e => h e.symm]
      · rw [if_neg z, getL_cons, getL_cons, getL_ins]
        by_cases h : l.1 = j
        · rw [if_pos h, if_pos h, if_neg fun e => q (e.symm.trans h.symm)]
        · rw [if_neg h, if_neg h]
theorem keys_ins {k : SI} {v : Int × Int} : ∀ {L : List Ls}, ∀ j ∈ (insL k v L).map (·.1), j = k ∨ j ∈ L.map (·.1)
  | [], j, h => by
    simp [insL] at h
    exact .inl h
  | l :: r, j, h => by
    unfold insL at h
    by_cases q : k = l.1
    · rw [if_pos q, List.map_cons] at h
      rcases List.mem_cons.mp h with h | h
      · exact .inl h
      · exact .inr (List.mem_cons_of_mem _ h)
    · rw [if_neg q] at h
      by_cases z : ltSI k l.1 = true
      · rw [if_pos z, List.map_cons] at h
        rcases List.mem_cons.mp h with h | h
        · exact .inl h
        · exact .inr h
      · rw [if_neg z, List.map_cons] at h
        rcases List.mem_cons.mp h with h | h
        · exact .inr (by rw [h]; exact List.mem_cons_self ..)
        · rcases keys_ins j h with h | h
          · exact .inl h
          · exact .inr (List.mem_cons_of_mem _ h)
theorem srt_ins {k : SI} {v : Int × Int} : ∀ {L : List Ls}, srt L → srt (insL k v L)
  | [], _ => by simp [insL, srt]
  | l :: r, h => by
    have h0 := h
    unfold srt at h
    rw [List.map_cons, List.pairwise_cons] at h
    unfold insL
    by_cases q : k = l.1
    · rw [if_pos q]
      unfold srt
      rw [List.map_cons, List.pairwise_cons]
      exact ⟨by rw [q]; exact h.1, h.2⟩
    · rw [if_neg q]
      by_cases z : ltSI k l.1 = true
      · rw [if_pos z]
        unfold srt
        rw [List.map_cons, List.pairwise_cons]
        refine ⟨fun j hj => ?_, h0⟩
        rcases List.mem_cons.mp hj with e | hj
        · rw [e]
          exact z
        · exact Hk.ltSI_trans z (h.1 j hj)
      · rw [if_neg z]
        unfold srt
        rw [List.map_cons, List.pairwise_cons]
        refine ⟨fun j hj => ?_, srt_ins h.2⟩
        rcases keys_ins j hj with e | hj
        · rw [e]
          rcases Hk.ltSI_tri l.1 k with a | a | a
          · exact a
          · exact absurd a.symm q
          · exact absurd a z
        · exact h.1 j hj
theorem len_ins (k : SI) (v : Int × Int) : ∀ L : List Ls, (insL k v L).length ≤ L.length + 1
  | [] => Nat.le_refl _
  | l :: r => by
    unfold insL
    by_cases q : k = l.1
    · rw [if_pos q]
      exact Nat.le_succ _
    · rw [if_neg q]
      by_cases z : ltSI k l.1 = true
      · rw [if_pos z]
        exact Nat.le_refl _
      · rw [if_neg z]
        exact Nat.succ_le_succ (len_ins k v r)
/-! ### what a deed makes of a table -/
structure Nx (D : Deed) (T T' : Tb) : Prop where
  e : T'.e = T.e
  m : T'.m = T.m
  a : T'.a = T.a
  h : T'.h = T.h
  b : T'.b = T.b
  p : T'.p = T.p
  v : T'.v = T.v
  n : T'.n = T.n
  c : T'.clock = T.clock + if D.isTick = true then 1 else 0
  s : srt T'.ls
  g : ∀ k, getL T'.ls k = fD D T'.clock k (getL T.ls k)
def Deed.parts : Deed → List U
  | .lease k t => [.str k.1, .int k.2, .int t]
  | .free k t => [.str k.1, .int k.2, .int t]
  | .tick => []
  | .rise => []
def Deed.txt : Deed → Prop
  | .lease k _ => PyData.strOk k.1 = true
  | .free k _ => PyData.strOk k.1 = true
  | _ => True
def spDo (C : Addr) (D : Deed) : Sp := fun vs H Q _ => ∃ (x y : V) (T : Tb) (w : Addr), vs = [x, y] ∧ At w C H x (tabU T) ∧ At w C H y (.tup D.parts) ∧ (∃ o, H w = some o) ∧ srt T.ls ∧ T.ls.length ≤ 30000 ∧ (∀ l ∈ T.ls, PyData.strOk l.1.1 = true) ∧ D.txt ∧
  ∀ v H' T', Same H H' → Nx D T T' → At w C H' v (tabU T') → Q v H'
theorem lenDo {C : Addr} {D : Deed} {a b : Str} : ∀ vs H Q E, spDo C D vs H Q E → vs.length = [a, b].length := fun vs H Q E h => by
  obtain ⟨x, y, T, w, rfl, _⟩ := h
  rfl
theorem q_asgGU {te : TE} {g : TG} {tz : TS} {D : Ends} {σ : L2.St} {H : Hp} {xs : List V} (h : EvU te σ H xs) (k : ∀ p H1, H p = none → Ex H H1 → H1 p = some (.tup xs) → g (.ref p) σ H1 fun σ' H' => tz D σ' H') : tSeq (tAsg te g) tz D σ H :=
  h H (Ex.refl H) _ fun p H1 hp e h1 => k p H1 hp e h1
section
variable {P : Program} {wd : World} {K : PySem.W.Frag} {mg : Str → Option Value} {base : Heap} {C : Addr}
theorem room_h1 {k : Nat} {A : Around} (r : Room k A) : A.units + 1 < cLine := Nat.lt_of_le_of_lt (Nat.add_le_add_left (by decide : 1 ≤ 64) _) (room_hu r)
/-- changed(..) in a reading -/
theorem ed_changed {w : Addr} {σ : L2.St} {H : Hp} {t1 t2 t3 : TE} {E : XK} {us : List U} {u : U} {k : Nat} (hw : ∃ o, H w = some o) (h1 : EvD w C t1 σ H (.tup us)) (h2 : Ev t2 σ H (.int (k : Int))) (h3 : EvD w C t3 σ H u) (hk : k < us.length) (hz : us.length ≤ 1000) :
    EvD w C (tCall (spCh C) [] E (tCons t1 (tCons t2 (tCons t3 tNil)))) σ H (.tup (us.set k u)) := fun G e Q q =>
  h1 G e _ fun v1 G1 e1 a1 => h2 G1 (e.trans e1) _ fun G2 e2 => h3 G2 ((e.trans e1).trans e2) _ fun v3 G3 e3 a3 =>
    ⟨v1, v3, k, us, u, w, rfl, ex_at (e2.trans e3) a1, a3, hw.imp fun o z => (((e.trans e1).trans e2).trans e3) _ _ z, hk, hz, fun v H' s a => q v H' (((e1.trans e2).trans e3).trans s) a⟩
theorem tab_set6 (T : Tb) (L : List Ls) : [T.e, T.m, T.a, .int T.clock, T.h, T.b, .tup (T.ls.map lsU), T.p, T.v, T.n].set 6 (.tup (L.map lsU)) = [T.e, T.m, T.a, .int T.clock, T.h, T.b, .tup (L.map lsU), T.p, T.v, T.n] := rfl
theorem three_at {w : Addr} {H : Hp} {v : V} {z : Str} {i t : Int} (h : At w C H v (.tup [.str z, .int i, .int t])) : ∃ p, v = .ref p ∧ H p = some (.tup [.str z, .int i, .int t]) := by
  obtain ⟨p, xs, rfl, hp, _, hl⟩ := at_tup h
  cases hl with
  | cons h1 hl => cases hl with
    | cons h2 hl => cases hl with
      | cons h3 hl => cases hl with
        | nil =>
          rw [at_str h1, at_int h2, at_int h3] at hp
          exact ⟨p, rfl, hp⟩
/-! ### _leased -/
theorem scLeased : FnScope ["table", "parts", "name", "hand", "talk", "found", "elder"] ["table", "parts"] (defScope sLeased) := ⟨rfl, rfl, rfl, by decide +kernel, rfl, by decide +kernel, by decide +kernel⟩
theorem ok_leased {f f1 f2 f3 : Addr} {fd d1 d2 d3 : FuncData} {k : SI} {t : Int} (D : Df K mg "_leased" sLeased ["table", "parts"] f fd) (B : Bt mg) (Z : Bz mg) (N : Ct mg) (DB : Df K mg "_leases_by_holder" sByHolder ["table"] f1 d1) (DO : Df K mg "_leases_in_order" sInOrder ["found"] f2 d2)
    (DC : Df K mg "changed" sChanged ["table", "at", "part"] f3 d3) (ht : 0 ≤ t) : FnOk P wd K mg base CX0 2 f fd ["table", "parts"] (spDo C (.lease k t)) := by
  have GB : FnOk P wd K mg base CX0 1 f1 d1 ["table"] (spBy C) := ok_byHolder DB N
  have GO : FnOk P wd K mg base CX0 1 f2 d2 ["found"] (spOrd C) := ok_inOrder DO B Z
  have GC : FnOk P wd K mg base CX0 1 f3 d3 ["table", "at", "part"] (spCh C) := ok_changed DC
  refine D.F.ok scLeased lenDo (fun cdv A outer s H vs Q E hr h => ?_)
  obtain ⟨x, y, T, w, rfl, hx, hy, hw, st, hz, _, _, q⟩ := h
  refine ⟨_, pss_cons (ps_asg (pv 1) (pg_tup rfl (pgs_cons (pg_name (i := 2) scLeased.nd rfl (.inl rfl)) (pgs_cons (pg_name (i := 3) scLeased.nd rfl (.inl rfl)) (pgs_cons (pg_name (i := 4) scLeased.nd rfl (.inl rfl)) pgs_nil)))))
    (pss_cons (ps_set (i := 5) scLeased.nd rfl (.inl rfl) (pe_call GB hr (by rfl) DB.g DB.F.kp DB.b .nil pass0 (pa_cons (pv 0) pa_nil)))
    (pss_cons (ps_set (i := 6) scLeased.nd rfl (.inl rfl) (pe_ix ix_tup (pe_dget2 (room_h1 hr) (pv 5) (pe_tup (pa_cons (pv 2) (pa_cons (pv 3) pa_nil))) (pe_tup (pa_cons pe_int (pa_cons pe_int pa_nil))) ⟨rfl, rfl, rfl, rfl⟩) pe_int (fun _ _ => rfl)))
    (pss_cons (ps_asg (pe_tup (pa_cons (pe_callB (call_max2 rfl) (by rfl) B.max boot_max' (pa_cons (pv 4) (pa_cons (pv 6) pa_nil))) (pa_cons (pe_op op_add (pe_ix ix_tup (pv 0) (pe_gi (by rfl) N.p3) (fun _ _ => rfl)) (pe_gi (by rfl) N.ticks)) pa_nil)))
      (pg_sub (pv 5) (pe_tup (pa_cons (pv 2) (pa_cons (pv 3) pa_nil))) (set_dict (room_h1 hr))))
    (pss_one (ps_ret (pe_call GC hr (by rfl) DC.g DC.F.kp DC.b .nil pass0 (pa_cons (pv 0) (pa_cons (pe_gi (by rfl) N.p6) (pa_cons (pe_call GO hr (by rfl) DO.g DO.F.kp DO.b .nil pass0 (pa_cons (pv 5) pa_nil)) pa_nil))))))))), ?_⟩
  obtain ⟨p, rfl, hp⟩ := three_at hy
  refine ⟨_, rfl, p, _, rfl, st_of hp, rfl, _, _, rfl, _, _, rfl, _, _, rfl, rfl, ?_⟩
  dsimp only [gName]
  have two : (2 : Nat) ≤ 100000 := by decide
  refine ⟨_, rfl, x, T, w, rfl, hx, srt_nd st, by omega, fun d kvs H1 hd e1 hk dl => ?_⟩
  dsimp only [gName]
  have hd1 : d ≠ w := new_ne hw hd
  refine ⟨_, rfl, d, rfl, .inr ⟨kvs, .inl hk⟩, eu_tup (ea_cons (ev_var rfl) (ea_cons (ev_var rfl) ea_nil)) two H1 (Ex.refl H1) _ fun b H2 _ e2 hb => eu_tup (ea_cons ev_c (ea_cons ev_c ea_nil)) two H2 (Ex.refl H2) _ fun c H3 _ e3 hc => ?_⟩
  have e13 := e1.trans (e2.trans e3)
  have dg : DGet H3 d (.ref b) (valV kvs (Hk.keySI k)) := DGet.t (k := Hk.keySI k) (e3 _ _ (e2 _ _ hk)) (e3 _ _ hb)
  refine ⟨_, dg, ?_⟩
  have gel : ∃ (el z2 : Int) (r : Addr), (valV kvs (Hk.keySI k)).getD (.ref c) = .ref r ∧ H3 r = some (.tup [.int el, .int z2]) ∧ el = match getL T.ls k with | some v => v.1 | none => 0 := by
    cases g : getL T.ls k with
    | none => exact ⟨0, 0, c, by rw [dl.vnone g]; rfl, hc, rfl⟩
    | some v =>
      obtain ⟨r, hr1, hr2⟩ := dl.vsome g
      exact ⟨v.1, v.2, r, by rw [hr1]; rfl, e3 _ _ (e2 _ _ hr2), rfl⟩
  obtain ⟨el, z2, r, er, hr2, eel⟩ := gel
  rw [er]
  refine ⟨r, _, 0, _, rfl, rfl, st_of hr2, rfl, ?_⟩
  dsimp only [gName]
  obtain ⟨y3, ev3, a3⟩ := nth_at (K := K) (σ := [some x, some (.ref p), some (.str k.1), some (.int k.2), some (.int t), some (.ref d), some (.int el)]) (te := tVar 0) (ex_at e13 hx) (ev_var rfl) 3 (by show 3 < 10; decide)
  have ey3 : y3 = .int T.clock := at_int (show At w C H3 y3 (.int T.clock) from a3)
  subst ey3
  refine q_asgGU (eu_tup (vs := [.int (max t el), .int (T.clock + 8)]) ?hv two) fun nv H4 _ e4 hnv => ?_
  case hv =>
    refine ea_cons (ev_cb (ea_cons (ev_var rfl) (ea_cons (ev_var rfl) ea_nil)) fun G e Q q => ⟨_, _, rfl, ?_⟩) (ea_cons (ev_op ev3 ev_c rv_I0) ea_nil)
    have : (if el > t then el else t) = max t el := by
      rw [Int.max_def]
      by_cases h : el > t
      · rw [if_pos h, if_pos (by omega)]
      · rw [if_neg h]
        by_cases h2 : t ≤ el
        · rw [if_pos h2]
          omega
        · rw [if_neg h2]
    rw [this]
    exact q G (Ex.refl G)
  refine ⟨_, rfl, eu_tup (ea_cons (ev_var rfl) (ea_cons (ev_var rfl) ea_nil)) two H4 (Ex.refl H4) _ fun b2 H5 _ e5 hb2 => ?_⟩
  have hk5 : H5 d = some (.dT kvs) := e5 _ _ (e4 _ _ (e3 _ _ (e2 _ _ hk)))
  have lenk : kvs.length < sizeLine := sz_lt (by rw [dl.len]; omega)
  refine ⟨d, _, rfl, DPut.t (k := Hk.keySI k) hk5 hb2 lenk, ?_⟩
  have nt : ∀ b zs, H5 b = some (.tup zs) → upd H5 d (.dT (putK kvs (Hk.keySI k) (.ref nv))) b = some (.tup zs) := fun b zs hb => by
    rw [upd_ne (fun z => by rw [z, hk5] at hb; cases hb)]
    exact hb
  have e15 : Ex H (upd H5 d (.dT (putK kvs (Hk.keySI k) (.ref nv)))) := Ex.mut ((e13.trans e4).trans e5) hd
  have dl5 : Dl (upd H5 d (.dT (putK kvs (Hk.keySI k) (.ref nv)))) (putK kvs (Hk.keySI k) (.ref nv)) (putL T.ls k (max t el, T.clock + 8)) :=
    (Dl.put (v := (max t el, T.clock + 8)) (srt_nd st) (dl.tups fun b zs h => e5 _ _ (e4 _ _ (e3 _ _ (e2 _ _ h)))) (e5 _ _ hnv)).tups nt
  have hw5 := hw.imp fun o z => e15 _ _ z
  refine (ed_changed (us := [T.e, T.m, T.a, .int T.clock, T.h, T.b, .tup (T.ls.map lsU), T.p, T.v, T.n]) (u := .tup ((insL k (max t el, T.clock + 8) T.ls).map lsU)) (k := 6) hw5 (ed_ev (ev_var rfl) (ex_at e15 hx)) ev_c (fun G e Q q => ⟨_, rfl, d, _, putL T.ls k (max t el, T.clock + 8), insL k (max t el, T.clock + 8) T.ls, w, rfl, e _ _ upd_same, dl5.tups fun b zs h => e _ _ h, ndK_put (srt_nd st), srt_ins st, fun j => by rw [getL_ins, getL_put], ?_, hw5.imp fun o z => e _ _ z, fun v H' s a => q v H' s a⟩) (by show 6 < 10; decide) (by show 10 ≤ 1000; decide)) _ (Ex.refl _) _ fun v H6 e6 a6 => ?_
  · refine q v H6 { T with ls := insL k (max t el, T.clock + 8) T.ls } (e15.trans e6) ⟨rfl, rfl, rfl, rfl, rfl, rfl, rfl, rfl, ?_, srt_ins st, fun j => ?_⟩ a6
    · show T.clock = T.clock + (if false = true then 1 else 0)
      simp
    · show getL (insL k _ T.ls) j = if j = k then some (match getL T.ls j with | some v => max t v.1 | none => t, T.clock + 8) else getL T.ls j
      rw [getL_ins]
      by_cases h : j = k
      · rw [if_pos h, if_pos h, h, eel]
        cases getL T.ls k with
        | none =>
          have : max t (0 : Int) = t := by omega
          show some (max t 0, _) = _
          rw [this]
        | some v => rfl
      · rw [if_neg h, if_neg h]
  · have := len_put T.ls k (max t el, T.clock + 8)
    omega
end
end Hs
namespace Hs
open PySem PySem.Spec PyProof.Rows L2 Hu Evl
open Hk (SI ltSI)
theorem q_asgLD {te : TE} {w C : Addr} {i : Nat} {tz : TS} {D : Ends} {σ : L2.St} {H : Hp} {us : List U} (h : EvLD w C te σ H us) (k : ∀ p ys H1, H p = none → Ex H H1 → H1 p = some (.lst ys) → AtL w C H1 ys us → tz D (σ.set i (some (.ref p))) H1) : tSeq (tAsg te (gName i)) tz D σ H :=
  h H (Ex.refl H) _ fun p ys H1 hp e h1 a => k p ys H1 hp e h1 a
theorem eld_var {i : Nat} {w C : Addr} {σ : L2.St} {H : Hp} {p : Addr} {ys : List V} {us : List U} (hw : ∃ o, H w = some o) (K : PySem.W.Frag) (hi : σ[i]? = some (some (.ref p))) (h1 : H p = some (.lst ys)) (l : AtL w C H ys us) : EvD w C (tCB (rTupO K) (tCons (tVar i) tNil)) σ H (.tup us) := fun G e Q q =>
  ⟨_, hi, p, ys, rfl, .inl ⟨sq_of (e _ _ h1), fun b hb => q (.ref b) _ (Ex.new hb) (.tup upd_same (new_ne (hw.imp fun o z => e _ _ z) hb) (ex_atl (e.trans (Ex.new hb)) l))⟩⟩
section
variable {P : Program} {wd : World} {K : PySem.W.Frag} {mg : Str → Option Value} {base : Heap} {C : Addr}
theorem filter_ls (L : List Ls) (g : U → Bool) : (L.map lsU).filter g = (L.filter fun l => g (lsU l)).map lsU := by
  rw [List.filter_map]
  rfl
theorem shpSI {z : Str} (i : Int) (hz : PyData.strOk z = true) : SeqAt.shaped (.tuple [.str z, .int i]) = true := by
  show ((PyData.tuple [.str z, .int i]).canLay0 && decide ((PyData.tuple [.str z, .int i]).depth ≤ 64)) = true
  simp [PyData.canLay0, PyData.canLayAll0, PyData.depth, PyData.depthAll, hz]
theorem eqvSI (z y : Str) (i j : Int) : PyData.eqv (.tuple [.str z, .int i]) (.tuple [.str y, .int j]) = (decide (z = y) && decide (i = j)) := by
  simp only [PyData.eqv, PyData.eqvAll, Bool.and_true]
  congr 1
theorem dpSI {H : Hp} {p : Addr} {z : Str} {i : Int} (h : H p = some (.tup [.str z, .int i])) : Dp K H (.ref p) (.tuple [.str z, .int i]) := .tup (st_of h) (.cons (.str z) (.cons (.int i) .nil))
theorem rv_neSI {H : Hp} {p q : Addr} {a b : SI} (ha : PyData.strOk a.1 = true) (hb : PyData.strOk b.1 = true) (hp : H p = some (.tup [.str a.1, .int a.2])) (hq : H q = some (.tup [.str b.1, .int b.2])) : RV (rNeD K) (.ref p) (.ref q) H (.bl (!decide (a = b))) := fun H1 e Q f =>
  ⟨_, _, dpSI (e _ _ hp), dpSI (e _ _ hq), shpSI _ ha, shpSI _ hb, by
    rw [eqvSI]
    have : (decide (a.1 = b.1) && decide (a.2 = b.2)) = decide (a = b) := by
      by_cases h : a = b
      · rw [h]
        simp
      · rw [decide_eq_false h]
        by_cases h1 : a.1 = b.1
        · rw [decide_eq_true h1, decide_eq_false fun h2 => h (Prod.ext h1 h2)]
          rfl
        · rw [decide_eq_false h1]
          rfl
    rw [this]
    exact f H1 (Ex.refl H1)⟩
/-- a stretch of a tuple, shorter than it -/
theorem eu_cut {σ : L2.St} {H : Hp} {te : TE} {tl th : TO} {a : Addr} {xs : List V} {lo hi : Option Int} (h : Ev te σ H (.ref a)) (hx : H a = some (.tup xs)) (h1 : EvO tl σ H lo) (h2 : EvO th σ H hi) (hn : ¬ (HT.sIx xs.length 0 lo = 0 ∧ HT.sIx xs.length xs.length hi = xs.length)) :
    EvU (tSl (rSlA K) te tl th) σ H (cutV xs lo hi) := fun G e Q q => h G e _ fun G1 e1 => h1 G1 (e.trans e1) _ fun G2 e2 => h2 G2 ((e.trans e1).trans e2) _ fun G3 e3 => ⟨a, xs, rfl, st_of ((((e.trans e1).trans e2).trans e3) _ _ hx), fun z => absurd z hn, fun _ p hp => q p _ (fresh_back ((e1.trans e2).trans e3) hp) (((e1.trans e2).trans e3).trans (Ex.new hp)) upd_same⟩
/-! ### _freed -/
theorem scFreed : FnScope ["table", "parts", "name", "hand", "talk", "lease", "stay"] ["table", "parts"] (defScope sFreed) := ⟨rfl, rfl, rfl, by decide +kernel, rfl, by decide +kernel, by decide +kernel⟩
theorem ok_freed {f f3 : Addr} {fd d3 : FuncData} {k : SI} {t : Int} (D : Df K mg "_freed" sFreed ["table", "parts"] f fd) (B : Bt mg) (N : Ct mg)
    (DC : Df K mg "changed" sChanged ["table", "at", "part"] f3 d3) : FnOk P wd K mg base CX0 2 f fd ["table", "parts"] (spDo C (.free k t)) := by
  have GC : FnOk P wd K mg base CX0 1 f3 d3 ["table", "at", "part"] (spCh C) := ok_changed DC
  refine D.F.ok scFreed lenDo (fun cdv A outer s H vs Q E hr h => ?_)
  obtain ⟨x, y, T, w, rfl, hx, hy, hw, st, hz, hsl, hsk, q⟩ := h
  refine ⟨_, pss_cons (ps_asg (pv 1) (pg_tup rfl (pgs_cons (pg_name (i := 2) scFreed.nd rfl (.inr rfl)) (pgs_cons (pg_name (i := 3) scFreed.nd rfl (.inr rfl)) (pgs_cons (pg_name (i := 4) scFreed.nd rfl (.inr rfl)) pgs_nil)))))
    (pss_cons (ps_setLc (i := 6) (own := [("lease", 5)]) (g := gName 5) (tt := tOr (tTest (tOp (rNeD K) (tSl (rSlA K) (tVar 5) tNoPart (tPart (tC (.int 2)))) (tTup (tCons (tVar 2) (tCons (tVar 3) tNil))))) (tTest (tOp (rI0 fun i j => .bl (decide (i ≥ j))) (tOp (rIxT K) (tVar 5) (tC (.int 2))) (tVar 4)))) rfl scFreed.nd rfl rfl rfl
      (pi_tup (pe_ix ix_tup (pv 0) (pe_gi (by rfl) N.p6) (fun _ _ => rfl))) (blkOk_by (N := ["table", "parts", "name", "hand", "talk", "lease", "stay"]) (sc := defScope sFreed) (by decide +kernel)) (fun _ _ _ _ _ => pg_name (i := 5) scFreed.nd rfl (Or.inl rfl))
      (fun _ _ _ _ _ => pts_one (PW.pt (pw_or (pt_cmpR (show OpR _ _ (rNeD K) from op_neD (room_hu hr)) (pe_slice (show SlR _ (rSlA K) from sl_tupA) (pv 5) po_none (po_some pe_int)) (pe_tup (pa_cons (pv 2) (pa_cons (pv 3) pa_nil))) (nomark _)) (pw_or1 (pt_cmpR op_ge (pe_ix (show IxR _ (rIxT K) from ix_tup) (pv 5) pe_int (fun _ _ => rfl)) (pv 4) (nomark _)))))) (fun _ _ _ _ _ => pv 5))
    (pss_one (ps_ret (pe_call GC hr (by rfl) DC.g DC.F.kp DC.b .nil pass0 (pa_cons (pv 0) (pa_cons (pe_gi (by rfl) N.p6) (pa_cons (pe_callTy call_tuple_of (by rfl) B.tup boot_tuple' (pa_cons (pv 6) pa_nil)) pa_nil))))))), ?_⟩
  obtain ⟨p, rfl, hp⟩ := three_at hy
  refine ⟨_, rfl, p, _, rfl, st_of hp, rfl, _, _, rfl, _, _, rfl, _, _, rfl, rfl, ?_⟩
  dsimp only [gName]
  obtain ⟨y6, e6, a6⟩ := nth_at (K := K) (σ := [some x, some (.ref p), some (.str k.1), some (.int k.2), some (.int t), none, none]) (te := tVar 0) hx (ev_var rfl) 6 (by show 6 < 10; decide)
  have a6' : At w C H y6 (.tup (T.ls.map lsU)) := a6
  obtain ⟨a, xs, rfl, ha, na, hl⟩ := at_tup a6'
  refine q_asgLD (w := w) (C := C) (us := (T.ls.filter fun l => !decide (l.1 = k) || decide (l.2.1 ≥ t)).map lsU) ?hv fun r ys H1 hr0 e1 h1 al => ?_
  case hv =>
    have := lc_D (K := K) (w := w) (C := C) (te := tVar 5) (t := tOr (tTest (tOp (rNeD K) (tSl (rSlA K) (tVar 5) tNoPart (tPart (tC (.int 2)))) (tTup (tCons (tVar 2) (tCons (tVar 3) tNil))))) (tTest (tOp (rI0 fun i j => .bl (decide (i ≥ j))) (tOp (rIxT K) (tVar 5) (tC (.int 2))) (tVar 4)))) (j := 5) (vs := [5]) (g := fun u => match u with | .tup [.str z, .int i, .int s, .int n] => !decide (((z, i) : SI) = k) || decide (s ≥ t) | _ => false) (f := fun u => u) e6 ha hl (by rw [List.length_map]; omega) (fun u hu => by
      obtain ⟨l, _, rfl⟩ := List.mem_map.mp hu
      exact lsU_pln l) (fun _ => rfl) (fun v u G hu eg hv => ?_) (fun v u G hu _ eg hv => ed_ev (ev_var rfl) hv)
    · rw [List.map_id', filter_ls] at this
      exact this
    · obtain ⟨l, hl0, rfl⟩ := List.mem_map.mp hu
      obtain ⟨b, rfl, hb⟩ := at_ls hv
      refine et_or (et_test (ev_opUU (eu_cut (ev_var rfl) hb eo_none (eo_some ev_c) (fun h => absurd h.2 (show ¬ (HT.sIx 4 4 (some 2) = 4) from by decide))) (eu_tup (ea_cons (ev_var rfl) (ea_cons (ev_var rfl) ea_nil)) (by show (2 : Nat) ≤ 100000; decide)) fun p1 p2 G1 hp1 hp2 _ => rv_neSI (a := l.1) (b := k) (hsl l hl0) hsk hp1 hp2)) fun _ => et_test (ev_op (ev_ixT (j := 2) (ev_var rfl) hb rfl) (ev_var rfl) rv_I0)
  refine (ed_changed (us := [T.e, T.m, T.a, .int T.clock, T.h, T.b, .tup (T.ls.map lsU), T.p, T.v, T.n]) (u := .tup ((T.ls.filter fun l => !decide (l.1 = k) || decide (l.2.1 ≥ t)).map lsU)) (k := 6) (hw.imp fun o z => e1 _ _ z) (ed_ev (ev_var rfl) (ex_at e1 hx)) ev_c (eld_var (hw.imp fun o z => e1 _ _ z) K rfl h1 al) (by show 6 < 10; decide) (by show 10 ≤ 1000; decide)) _ (Ex.refl _) _ fun v H6 e6 a6 => ?_
  refine q v H6 { T with ls := T.ls.filter fun l => !decide (l.1 = k) || decide (l.2.1 ≥ t) } (e1.trans e6) ⟨rfl, rfl, rfl, rfl, rfl, rfl, rfl, rfl, ?_, srt_filter st _, fun j => ?_⟩ a6
  · show T.clock = T.clock + (if false = true then 1 else 0)
    simp
  · show getL (T.ls.filter _) j = if j = k then (getL T.ls j).filter (fun v => decide (t ≤ v.1)) else getL T.ls j
    rw [getL_filter (srt_nd st)]
    by_cases h : j = k
    · rw [if_pos h]
      subst h
      simp
    · rw [if_neg h]
      cases getL T.ls j with
      | none => rfl
      | some v => simp [h]
end
end Hs
namespace Hs
open PySem PySem.Spec PyProof.Rows L2 Hu Evl
open Hk (SI ltSI)
def Deed.word : Deed → Str
  | .lease _ _ => "lease"
  | .free _ _ => "free"
  | .tick => "tick"
  | .rise => "rise"
def deedU (D : Deed) : U := .tup (.str D.word :: D.parts)
theorem FnOk.ex {α : Type} {P : Program} {w : World} {K : PySem.W.Frag} {mg : Str → Option Value} {base : Heap} {CX : CXT} {k : Nat} {f : Addr} {fd : FuncData} {ps : List Str} {sp : α → Sp} (p : α → Prop) (F : ∀ i, p i → FnOk P w K mg base CX k f fd ps (sp i)) :
    FnOk P w K mg base CX k f fd ps (fun vs H Q E => ∃ i, p i ∧ sp i vs H Q E) :=
  ⟨fun vs H Q E ⟨i, hp, h⟩ => (F i hp).len vs H Q E h, fun A outer s H args us vs Q E hr h0 hb hv ⟨i, hp, h⟩ => (F i hp).run A outer s H args us vs Q E hr h0 hb hv h⟩
section
variable {P : Program} {wd : World} {K : PySem.W.Frag} {mg : Str → Option Value} {base : Heap} {C : Addr}
/-! ### _ticked -/
theorem scTicked : FnScope ["table", "parts", "clock", "lease", "stay"] ["table", "parts"] (defScope sTicked) := ⟨rfl, rfl, rfl, by decide +kernel, rfl, by decide +kernel, by decide +kernel⟩
theorem ok_ticked {f f3 : Addr} {fd d3 : FuncData} (D : Df K mg "_ticked" sTicked ["table", "parts"] f fd) (B : Bt mg) (N : Ct mg)
    (DC : Df K mg "changed" sChanged ["table", "at", "part"] f3 d3) : FnOk P wd K mg base CX0 2 f fd ["table", "parts"] (spDo C .tick) := by
  have GC : FnOk P wd K mg base CX0 1 f3 d3 ["table", "at", "part"] (spCh C) := ok_changed DC
  refine D.F.ok scTicked lenDo (fun cdv A outer s H vs Q E hr h => ?_)
  obtain ⟨x, y, T, w, rfl, hx, hy, hw, st, hz, hsl, hsk, q⟩ := h
  refine ⟨_, pss_cons (ps_set (i := 2) scTicked.nd rfl (.inr rfl) (pe_op op_add (pe_ix ix_tup (pv 0) (pe_gi (by rfl) N.p3) (fun _ _ => rfl)) pe_int))
    (pss_cons (ps_setLc (i := 4) (own := [("lease", 3)]) (g := gName 3) (tt := tTest (tOp (rI0 fun i j => .bl (decide (i < j))) (tVar 2) (tOp (rIxT K) (tVar 3) (tC (.int 3))))) rfl scTicked.nd rfl rfl rfl
      (pi_tup (pe_ix ix_tup (pv 0) (pe_gi (by rfl) N.p6) (fun _ _ => rfl))) (blkOk_by (N := ["table", "parts", "clock", "lease", "stay"]) (sc := defScope sTicked) (by decide +kernel)) (fun _ _ _ _ _ => pg_name (i := 3) scTicked.nd rfl (Or.inl rfl))
      (fun _ _ _ _ _ => pts_one (pt_cmpR op_lt (pv 2) (pe_ix (show IxR _ (rIxT K) from ix_tup) (pv 3) pe_int (fun _ _ => rfl)) (nomark _))) (fun _ _ _ _ _ => pv 3))
    (pss_one (ps_ret (pe_call GC hr (by rfl) DC.g DC.F.kp DC.b .nil pass0 (pa_cons (pe_call GC hr (by rfl) DC.g DC.F.kp DC.b .nil pass0 (pa_cons (pv 0) (pa_cons (pe_gi (by rfl) N.p3) (pa_cons (pv 2) pa_nil)))) (pa_cons (pe_gi (by rfl) N.p6) (pa_cons (pe_callTy call_tuple_of (by rfl) B.tup boot_tuple' (pa_cons (pv 4) pa_nil)) pa_nil))))))), ?_⟩
  obtain ⟨y3, e3, a3⟩ := nth_at (K := K) (σ := [some x, some y, none, none, none]) (te := tVar 0) hx (ev_var rfl) 3 (by show 3 < 10; decide)
  have ey3 : y3 = .int T.clock := at_int (show At w C H y3 (.int T.clock) from a3)
  subst ey3
  refine q_asg (v := .int (T.clock + 1)) (ev_op e3 ev_c rv_I0) fun H0 e0 => ?_
  have hx0 := ex_at e0 hx
  obtain ⟨y6, e6, a6⟩ := nth_at (K := K) (σ := [some x, some y, some (.int (T.clock + 1)), none, none]) (te := tVar 0) hx0 (ev_var rfl) 6 (by show 6 < 10; decide)
  have a6' : At w C H0 y6 (.tup (T.ls.map lsU)) := a6
  obtain ⟨a, xs, rfl, ha, na, hl⟩ := at_tup a6'
  refine q_asgLD (w := w) (C := C) (us := (T.ls.filter fun l => decide (T.clock + 1 < l.2.2)).map lsU) ?hv fun r ys H1 hr0 e1 h1 al => ?_
  case hv =>
    have := lc_D (K := K) (w := w) (C := C) (te := tVar 3) (t := tTest (tOp (rI0 fun i j => .bl (decide (i < j))) (tVar 2) (tOp (rIxT K) (tVar 3) (tC (.int 3))))) (j := 3) (vs := [3]) (g := fun u => match u with | .tup [.str z, .int i, .int s, .int n] => decide (T.clock + 1 < n) | _ => false) (f := fun u => u) e6 ha hl (by rw [List.length_map]; omega) (fun u hu => by
      obtain ⟨l, _, rfl⟩ := List.mem_map.mp hu
      exact lsU_pln l) (fun _ => rfl) (fun v u G hu eg hv => ?_) (fun v u G hu _ eg hv => ed_ev (ev_var rfl) hv)
    · rw [List.map_id', filter_ls] at this
      exact this
    · obtain ⟨l, hl0, rfl⟩ := List.mem_map.mp hu
      obtain ⟨b, rfl, hb⟩ := at_ls hv
      exact et_test (ev_op (ev_var rfl) (ev_ixT (j := 3) (ev_var rfl) hb rfl) rv_I0)
  have e01 := e0.trans e1
  have hw1 := hw.imp fun o z => e01 _ _ z
  refine (ed_changed (us := [T.e, T.m, T.a, .int (T.clock + 1), T.h, T.b, .tup (T.ls.map lsU), T.p, T.v, T.n]) (u := .tup ((T.ls.filter fun l => decide (T.clock + 1 < l.2.2)).map lsU)) (k := 6) hw1
    (ed_changed (us := [T.e, T.m, T.a, .int T.clock, T.h, T.b, .tup (T.ls.map lsU), T.p, T.v, T.n]) (u := .int (T.clock + 1)) (k := 3) hw1 (ed_ev (ev_var rfl) (ex_at e01 hx)) ev_c (ed_ev (ev_var rfl) (.int _)) (by show 3 < 10; decide) (by show 10 ≤ 1000; decide))
    ev_c (eld_var hw1 K rfl h1 al) (by show 6 < 10; decide) (by show 10 ≤ 1000; decide)) _ (Ex.refl _) _ fun v H6 e6 a6 => ?_
  refine q v H6 { T with clock := T.clock + 1, ls := T.ls.filter fun l => decide (T.clock + 1 < l.2.2) } (e01.trans e6) ⟨rfl, rfl, rfl, rfl, rfl, rfl, rfl, rfl, rfl, srt_filter st _, fun j => ?_⟩ a6
  exact getL_filter (srt_nd st) _ _
/-! ### _risen -/
theorem scRisen : FnScope ["table", "parts", "until", "lease"] ["table", "parts"] (defScope sRisen) := ⟨rfl, rfl, rfl, by decide +kernel, rfl, by decide +kernel, by decide +kernel⟩
theorem ok_risen {f f3 : Addr} {fd d3 : FuncData} (D : Df K mg "_risen" sRisen ["table", "parts"] f fd) (B : Bt mg) (N : Ct mg)
    (DC : Df K mg "changed" sChanged ["table", "at", "part"] f3 d3) : FnOk P wd K mg base CX0 2 f fd ["table", "parts"] (spDo C .rise) := by
  have GC : FnOk P wd K mg base CX0 1 f3 d3 ["table", "at", "part"] (spCh C) := ok_changed DC
  refine D.F.ok scRisen lenDo (fun cdv A outer s H vs Q E hr h => ?_)
  obtain ⟨x, y, T, w, rfl, hx, hy, hw, st, hz, hsl, hsk, q⟩ := h
  refine ⟨_, pss_cons (ps_set (i := 2) scRisen.nd rfl (.inr rfl) (pe_op op_add (pe_ix ix_tup (pv 0) (pe_gi (by rfl) N.p3) (fun _ _ => rfl)) (pe_gi (by rfl) N.ticks)))
    (pss_one (ps_ret (pe_call GC hr (by rfl) DC.g DC.F.kp DC.b .nil pass0 (pa_cons (pv 0) (pa_cons (pe_gi (by rfl) N.p6) (pa_cons (pe_callTy call_tuple_of (by rfl) B.tup boot_tuple' (pa_cons
      (pe_lc (own := [("lease", 3)]) (g := gName 3) (tt := tYes) rfl scRisen.nd (pi_tup (pe_ix ix_tup (pv 0) (pe_gi (by rfl) N.p6) (fun _ _ => rfl))) (blkOk_by (N := ["table", "parts", "until", "lease"]) (sc := defScope sRisen) (by decide +kernel)) (fun _ _ _ _ _ => pg_name (i := 3) scRisen.nd rfl (Or.inl rfl))
        (fun _ _ _ _ _ => pts_nil) (fun _ _ _ _ _ => pe_op (show OpR _ _ (rCatA K) from op_catA) (pe_slice (show SlR _ (rSlA K) from sl_tupA) (pv 3) po_none (po_some pe_int)) (pe_tup (pa_cons (pv 2) pa_nil)))) pa_nil)) pa_nil)))))), ?_⟩
  obtain ⟨y3, e3, a3⟩ := nth_at (K := K) (σ := [some x, some y, none, none]) (te := tVar 0) hx (ev_var rfl) 3 (by show 3 < 10; decide)
  have ey3 : y3 = .int T.clock := at_int (show At w C H y3 (.int T.clock) from a3)
  subst ey3
  refine q_asg (v := .int (T.clock + 8)) (ev_op e3 ev_c rv_I0) fun H0 e0 => ?_
  have hx0 := ex_at e0 hx
  have hw0 := hw.imp fun o z => e0 _ _ z
  obtain ⟨y6, e6, a6⟩ := nth_at (K := K) (σ := [some x, some y, some (.int (T.clock + 8)), none]) (te := tVar 0) hx0 (ev_var rfl) 6 (by show 6 < 10; decide)
  have a6' : At w C H0 y6 (.tup (T.ls.map lsU)) := a6
  obtain ⟨a, xs, rfl, ha, na, hl⟩ := at_tup a6'
  have main : EvLD w C (tLc (iTup K (tOp (rIxT K) (tVar 0) (tC (.int 6)))) (gName 3) tYes (tOp (rCatA K) (tSl (rSlA K) (tVar 3) tNoPart (tPart (tC (.int 3)))) (tTup (tCons (tVar 2) tNil))) [3]) [some x, some y, some (.int (T.clock + 8)), none] H0 ((T.ls.map fun l => ((l.1, (l.2.1, T.clock + 8)) : Ls)).map lsU) := by
    have := lc_D (K := K) (w := w) (C := C) (te := tOp (rCatA K) (tSl (rSlA K) (tVar 3) tNoPart (tPart (tC (.int 3)))) (tTup (tCons (tVar 2) tNil))) (t := tYes) (j := 3) (vs := [3]) (g := fun _ => true) (f := fun u => match u with | .tup [.str z, .int i, .int s, .int n] => lsU ((z, i), (s, T.clock + 8)) | _ => .non) e6 ha hl (by rw [List.length_map]; omega) (fun u hu => by
      obtain ⟨l, _, rfl⟩ := List.mem_map.mp hu
      exact lsU_pln _) (fun _ => rfl) (fun v u G hu eg hv => et_yes) (fun v u G hu _ eg hv => ?_)
    · rw [List.filter_eq_self.mpr fun _ _ => rfl, List.map_map] at this
      rw [List.map_map]
      exact this
    · obtain ⟨l, hl0, rfl⟩ := List.mem_map.mp hu
      obtain ⟨b, xs', rfl, hb, nb, hlb⟩ := at_tup (show At w C G v (.tup [.str l.1.1, .int l.1.2, .int l.2.1, .int l.2.2]) from hv)
      exact ed_cat (us1 := [.str l.1.1, .int l.1.2, .int l.2.1]) (us2 := [.int (T.clock + 8)]) (hw0.imp fun o z => eg _ _ z) (ed_slice (hw0.imp fun o z => eg _ _ z) (ev_var rfl) hb nb hlb eo_none (eo_some ev_c)) (ed_tup (hw0.imp fun o z => eg _ _ z) (eds_cons (ed_ev (ev_var rfl) (.int _)) eds_nil) (by show (1 : Nat) ≤ 100000; decide)) (by show (4 : Nat) ≤ 100000; decide)
  refine (ed_changed (us := [T.e, T.m, T.a, .int T.clock, T.h, T.b, .tup (T.ls.map lsU), T.p, T.v, T.n]) (u := .tup ((T.ls.map fun l => ((l.1, (l.2.1, T.clock + 8)) : Ls)).map lsU)) (k := 6) hw0 (ed_ev (ev_var rfl) hx0) ev_c (ed_tupL hw0 main) (by show 6 < 10; decide) (by show 10 ≤ 1000; decide)) _ (Ex.refl _) _ fun v H6 e6 a6 => ?_
  refine q v H6 { T with ls := T.ls.map fun l => ((l.1, (l.2.1, T.clock + 8)) : Ls) } (e0.trans e6) ⟨rfl, rfl, rfl, rfl, rfl, rfl, rfl, rfl, ?_, ?_, fun j => ?_⟩ a6
  · show T.clock = T.clock + (if false = true then 1 else 0)
    simp
  · unfold srt
    rw [keys_map T.ls fun v => (v.1, T.clock + 8)]
    exact st
  · exact getL_map (fun v => (v.1, T.clock + 8)) j
end
end Hs
namespace Hs
open PySem PySem.Spec PyProof.Rows L2 Hu Evl
open Hk (SI ltSI)
abbrev sPart : Stmt := topS 36
abbrev sParts : Stmt := topS 38
abbrev sDeed : Stmt := topS 59
theorem pss_dead {X : Cx} {l : List Stmt} : PSs X l (fun _ _ _ => False) := ⟨fun _ _ _ _ _ _ h => h.elim⟩
theorem pe_dead {X : Cx} {e : Expr} : PE X e (fun _ _ _ => False) := ⟨fun _ _ _ _ _ _ h => h.elim⟩
/-- the lists of words that the text names -/
def TupK (K : PySem.W.Frag) (a : Addr) (zs : List Str) : Prop := ∀ H, SqT K H a (zs.map V.str)
/-- the forms of deeds -/
structure Dds (K : PySem.W.Frag) (w : World) (mg : Str → Option Value) (a : Addr) (es : Array DictEntry) (n : Nat) : Prop where
  g : mg "DEEDS" = some (.ref a)
  kd : KDict K w a es n
  lease : ∃ p, PySem.W.nsIn K a "lease" = some (some (.ref p)) ∧ TupK K p ["name", "hand", "talk"]
  free : ∃ p, PySem.W.nsIn K a "free" = some (some (.ref p)) ∧ TupK K p ["name", "hand", "talk"]
  tick : ∃ p, PySem.W.nsIn K a "tick" = some (some (.ref p)) ∧ TupK K p []
  rise : ∃ p, PySem.W.nsIn K a "rise" = some (some (.ref p)) ∧ TupK K p []
def Deed.kinds : Deed → List Str
  | .lease _ _ => ["name", "hand", "talk"]
  | .free _ _ => ["name", "hand", "talk"]
  | _ => []
theorem Dds.at {K : PySem.W.Frag} {w : World} {mg : Str → Option Value} {a : Addr} {es : Array DictEntry} {n : Nat} (d : Dds K w mg a es n) (D : Deed) : ∃ p, PySem.W.nsIn K a D.word = some (some (.ref p)) ∧ TupK K p D.kinds := by
  cases D with
  | lease k t => exact d.lease
  | free k t => exact d.free
  | tick => exact d.tick
  | rise => exact d.rise
/-- a part of a deed, as its kind asks -/
def PartOk (z : Str) (u : U) : Prop := (z = "name" ∧ gNam u = true) ∨ (z = "hand" ∧ gHand u = true) ∨ (z = "talk" ∧ gCnt u = true)
/-- a deed of a right form -/
def Deed.ok : Deed → Prop
  | .lease k t => gNam (.str k.1) = true ∧ gHand (.int k.2) = true ∧ 0 ≤ t
  | .free k t => gNam (.str k.1) = true ∧ gHand (.int k.2) = true ∧ 0 ≤ t
  | _ => True
theorem Deed.fits (D : Deed) (h : D.ok) : D.kinds.length = D.parts.length ∧ ∀ (i : Nat) (z : Str) (u : U), D.kinds[i]? = some z → D.parts[i]? = some u → PartOk z u := by
  have three : ∀ (k : SI) (t : Int), gNam (.str k.1) = true ∧ gHand (.int k.2) = true ∧ 0 ≤ t → ∀ (i : Nat) (z : Str) (u : U), (["name", "hand", "talk"] : List Str)[i]? = some z → ([.str k.1, .int k.2, .int t] : List U)[i]? = some u → PartOk z u := by
    intro k t ⟨h1, h2, h3⟩ i z u hz hu
    match i with
    | 0 =>
      cases hz
      cases hu
      exact .inl ⟨rfl, h1⟩
    | 1 =>
      cases hz
      cases hu
      exact .inr (.inl ⟨rfl, h2⟩)
    | 2 =>
      cases hz
      cases hu
      exact .inr (.inr ⟨rfl, decide_eq_true h3⟩)
    | i + 3 => simp at hz
  cases D with
  | lease k t => exact ⟨rfl, three k t h⟩
  | free k t => exact ⟨rfl, three k t h⟩
  | tick => exact ⟨rfl, fun i z u hz => by simp [Deed.kinds] at hz⟩
  | rise => exact ⟨rfl, fun i z u hz => by simp [Deed.kinds] at hz⟩
section
variable {P : Program} {wd : World} {K : PySem.W.Frag} {mg : Str → Option Value} {base : Heap} {C : Addr}
/-! ### is_part -/
theorem scPart : FnScope ["kind", "thing"] ["kind", "thing"] (defScope sPart) := ⟨rfl, rfl, rfl, by decide +kernel, rfl, by decide +kernel, by decide +kernel⟩
def spPart (C : Addr) : Sp := fun vs H Q _ => ∃ (z : Str) (v : V) (u : U) (w : Addr), vs = [.str z, v] ∧ At w C H v u ∧ Fine u ∧ PartOk z u ∧ ∀ H', Same H H' → Q (.bl true) H'
theorem ok_part {f f1 f2 f3 : Addr} {fd d1 d2 d3 : FuncData} (D : Df K mg "is_part" sPart ["kind", "thing"] f fd) (JC : Jd P wd K mg base C 2 "is_count" "thing" f1 d1 gCnt) (JN : Jd P wd K mg base C 2 "is_name" "thing" f2 d2 gNam) (JH : Jd P wd K mg base C 2 "is_hand" "thing" f3 d3 gHand) :
    FnOk P wd K mg base CX0 3 f fd ["kind", "thing"] (spPart C) := by
  refine D.F.ok scPart (fun vs H Q E h => ?_) (fun cdv A outer s H vs Q E hr h => ?_)
  · obtain ⟨z, v, u, w, rfl, _⟩ := h
    rfl
  obtain ⟨z, v, u, w, rfl, hat, fi, hp, k⟩ := h
  refine ⟨_, pss_cons (ps_if (pt_cmpR (show OpR _ _ (rIn K false) from op_in_seq) (pv 0) (pe_tup (pa_cons pe_str (pa_cons pe_str (pa_cons pe_str pa_nil)))) (by rfl)) (pss_one (ps_ret (pe_J JC hr (by decide) (by rfl) pass0 (pv 1)))) pss_nil)
    (pss_cons (ps_if (pt_cmpR op_eq (pv 0) pe_str (nomark _)) (pss_one (ps_ret (pe_J JN hr (by decide) (by rfl) pass0 (pv 1)))) pss_nil)
    (pss_cons (ps_if (pt_cmpR op_eq (pv 0) pe_str (nomark _)) (pss_one (ps_ret (pe_J JH hr (by decide) (by rfl) pass0 (pv 1)))) pss_nil)
    pss_dead)), ?_⟩
  have e1 : EvT (tTest (tOp (rIn K false) (tVar 0) (tTup (tCons (tC (.str "epoch")) (tCons (tC (.str "talk")) (tCons (tC (.str "size")) tNil)))))) [some (.str z), some v] H (inV (.str z) [.str "epoch", .str "talk", .str "size"]) :=
    et_test (ev_opU (ev_var rfl) (eu_tup (ea_cons ev_c (ea_cons ev_c (ea_cons ev_c ea_nil))) (by show (3 : Nat) ≤ 100000; decide)) fun q H1 hq e1 => rv_inT (neg := false) (st_of hq) rfl rfl)
  refine q_when e1 (fun q H1 e => ?_) (fun q H1 e => ?_)
  · rcases hp with ⟨rfl, h⟩ | ⟨rfl, h⟩ | ⟨rfl, h⟩
    · exact absurd q (by decide +kernel)
    · exact absurd q (by decide +kernel)
    · exact s_ret (ev_is (ev_J (ev_var rfl) (ex_at e hat) fi) (by rw [h])) fun H2 e2 => k H2 (e.trans e2)
  · rcases hp with ⟨rfl, h⟩ | ⟨rfl, h⟩ | ⟨rfl, h⟩
    · refine q_when (b := true) (et_test (ev_op (ev_var rfl) ev_c (rv_eq rfl))) (fun _ H2 e2 => ?_) (fun q => by cases q)
      exact s_ret (ev_is (ev_J (ev_var rfl) (ex_at (e.trans e2) hat) fi) (by rw [h])) fun H3 e3 => k H3 ((e.trans e2).trans e3)
    · refine q_when (b := false) (et_test (ev_is (ev_op (ev_var rfl) ev_c (rv_eq rfl)) (by decide +kernel))) (fun q => by cases q) (fun _ H2 e2 => ?_)
      refine q_when (b := true) (et_test (ev_op (ev_var rfl) ev_c (rv_eq rfl))) (fun _ H3 e3 => ?_) (fun q => by cases q)
      exact s_ret (ev_is (ev_J (ev_var rfl) (ex_at ((e.trans e2).trans e3) hat) fi) (by rw [h])) fun H4 e4 => k H4 (((e.trans e2).trans e3).trans e4)
    · exact absurd q (by decide +kernel)
end
end Hs
namespace Hs
open PySem PySem.Spec PyProof.Rows L2 Hu Evl
open Hk (SI ltSI)
theorem boot_zip' : bootBuiltins "zip" = some (.type "zip") := by decide +kernel
theorem walk_zipT {K : PySem.W.Frag} {a b : Addr} {xs ys : List V} (hl : xs.length = ys.length) : Walk (RZ.ItzT K a b) xs.length (fun H => SqT K H a xs ∧ SqT K H b ys) (fun i H v H' => ∃ T x y, v = .ref T ∧ H T = none ∧ H' = upd H T (.tup [x, y]) ∧ xs[i]? = some x ∧ ys[i]? = some y) :=
  ⟨fun i H hi q => ⟨xs, ys, xs[i], ys[i]'(by omega), q.1, q.2, List.getElem?_eq_getElem hi, List.getElem?_eq_getElem (by omega)⟩, fun H q => ⟨xs, ys, q.1, q.2, .inl (Nat.le_refl _)⟩, fun i H v H' hi q ⟨T, x, y, e1, e2, e3, e4, e5⟩ => ⟨T, x, y, e1, e2, e3, e4 _ q.1, e5 _ q.2⟩⟩
section
variable {P : Program} {wd : World} {K : PySem.W.Frag} {mg : Str → Option Value} {base : Heap} {C : Addr}
/-- all([f(x, y) for x, y in zip(a, b)]), all true -/
theorem ev_allZip {σ : L2.St} {H : Hp} {ta tb te : TE} {a b : Addr} {xs ys : List V} {i j : Nat} {vs : List Nat} (ha : Ev ta σ H (.ref a)) (hb : Ev tb σ H (.ref b)) (hx : ∀ G, Ex H G → SqT K G a xs) (hy : ∀ G, Ex H G → SqT K G b ys) (hl : xs.length = ys.length) (hz : xs.length ≤ 40000)
    (hw : ∀ x y, wipe (((wipe σ vs).set i (some x)).set j (some y)) vs = wipe σ vs) (he : ∀ (n : Nat) (x y : V), xs[n]? = some x → ys[n]? = some y → Ev te (((wipe σ vs).set i (some x)).set j (some y)) H (.bl true)) :
    Ev (tCB (rAll K) (tCons (tLc (RZ.iZipA K (tCons ta (tCons tb tNil))) (gTup K 2 (gCons (gName i) (gCons (gName j) gNil))) tYes te vs) tNil)) σ H (.bl true) := by
  have main : EvL (tLc (RZ.iZipA K (tCons ta (tCons tb tNil))) (gTup K 2 (gCons (gName i) (gCons (gName j) gNil))) tYes te vs) σ H (List.replicate xs.length (.bl true)) := fun H0 e Q q =>
    ha H0 e _ fun Ha ea => hb Ha (e.trans ea) _ fun H1 eb => by
      have e1 := ea.trans eb
      have E1 := e.trans e1
      refine ⟨a, b, xs, ys, rfl, .inr ⟨hx _ E1, hy _ E1, fun Dl hD => ?_⟩⟩
      refine lc_it (walk_zipT hl) (fun k H' => Ex H1 H' ∧ H' Dl = some (.lst (List.replicate k (.bl true)))) ⟨Ex.new hD, upd_same⟩ (fun k H' _ p => ⟨hx _ (E1.trans p.1), hy _ (E1.trans p.1)⟩) ?_ ?_
      · rintro k x H2 H2' hk ⟨p1, p2⟩ ⟨T, x1, y1, rfl, hT, rfl, hx1, hy1⟩
        have eT : Ex H2 (upd H2 T (.tup [x1, y1])) := Ex.new hT
        refine ⟨T, _, rfl, st_of upd_same, rfl, x1, _, rfl, y1, _, rfl, rfl, hw _ _, ?_⟩
        refine et_yes _ (Ex.refl _) _ fun H3 e3 => ?_
        rw [if_pos rfl]
        refine he k x1 y1 hx1 hy1 _ ((E1.trans p1).trans (eT.trans e3)) _ fun H4 e4 => ⟨_, e4 _ _ (e3 _ _ (eT _ _ p2)), ?_, Ex.mut (((p1.trans eT).trans e3).trans e4) hD, ?_⟩
        · rw [List.length_replicate]
          exact sz_lt (by omega)
        · rw [upd_same, List.replicate_succ']
      · rintro H' ⟨p1, p2⟩
        exact q Dl H' (fresh_back e1 hD) (e1.trans p1) p2
  refine ev_cb1 main fun p H2 h2 e2 Q q => ⟨p, List.replicate xs.length true, rfl, sq_of ?_, ?_⟩
  · rw [h2, List.map_replicate]
  · have : (List.replicate xs.length true).all id = true := by simp
    rw [this]
    exact q H2 (Ex.refl H2)
/-! ### are_parts -/
theorem scParts : FnScope ["kinds", "things", "kind", "thing"] ["kinds", "things"] (defScope sParts) := ⟨rfl, rfl, rfl, by decide +kernel, rfl, by decide +kernel, by decide +kernel⟩
def spParts (K : PySem.W.Frag) (C : Addr) : Sp := fun vs H Q _ => ∃ (p : Addr) (zs : List Str) (v : V) (us : List U) (w : Addr), vs = [.ref p, v] ∧ TupK K p zs ∧ At w C H v (.tup us) ∧ Fine (.tup us) ∧ us.length ≤ 1000 ∧ zs.length = us.length ∧
  (∀ (i : Nat) (z : Str) (u : U), zs[i]? = some z → us[i]? = some u → PartOk z u) ∧ ∀ H', Same H H' → Q (.bl true) H'
theorem ok_parts {f f1 : Addr} {fd d1 : FuncData} (D : Df K mg "are_parts" sParts ["kinds", "things"] f fd) (B : Bt mg) (Z : Bz mg) (D1 : Df K mg "is_part" sPart ["kind", "thing"] f1 d1) (G : FnOk P wd K mg base CX0 3 f1 d1 ["kind", "thing"] (spPart C)) :
    FnOk P wd K mg base CX0 4 f fd ["kinds", "things"] (spParts K C) := by
  refine D.F.ok scParts (fun vs H Q E h => ?_) (fun cdv A outer s H vs Q E hr h => ?_)
  · obtain ⟨p, zs, v, us, w, rfl, _⟩ := h
    rfl
  obtain ⟨p, zs, v, us, w, rfl, hp, hat, fi, hz, hl, hok, k⟩ := h
  refine ⟨_, pss_cons (ps_if (pt_cmpR op_ne (pe_callB call_len_seq (by rfl) B.len PySem.boot_len (pa_cons (pv 1) pa_nil)) (pe_callB call_len_seq (by rfl) B.len PySem.boot_len (pa_cons (pv 0) pa_nil)) (nomark _)) (pss_one (ps_ret pe_bl)) pss_nil)
    (pss_one (ps_ret (pe_callB (cr_all rfl) (by rfl) B.all boot_all' (pa_cons (pe_lc (own := [("kind", 2), ("thing", 3)]) (g := gTup K 2 (gCons (gName 2) (gCons (gName 3) gNil))) (tt := tYes) rfl scParts.nd (RZ.pi_zipA (by rfl) Z.zip (pa_cons (pv 0) (pa_cons (pv 1) pa_nil))) (blkOk_by (N := ["kinds", "things", "kind", "thing"]) (sc := defScope sParts) (by decide +kernel))
      (fun _ _ _ _ _ => pg_tup rfl (pgs_cons (pg_name (i := 2) scParts.nd rfl (Or.inl rfl)) (pgs_cons (pg_name (i := 3) scParts.nd rfl (Or.inl rfl)) pgs_nil))) (fun _ _ _ _ _ => pts_nil) (fun _ _ _ _ _ => pe_call G hr (by rfl) D1.g D1.F.kp D1.b .nil pass0 (pa_cons (pv 2) (pa_cons (pv 3) pa_nil)))) pa_nil)))), ?_⟩
  obtain ⟨a, xs, rfl, ha, _, hlx⟩ := at_tup hat
  have lx := AtL.length hlx
  have lenP : Ev (tCB (rLenQ K) (tCons (tVar 0) tNil)) [some (.ref p), some (.ref a), none, none] H (.int ((zs.map V.str).length : Int)) := ev_cb (ea_cons (ev_var rfl) ea_nil) fun H1 e Q q => ⟨p, _, rfl, .inr (hp H1), q H1 (Ex.refl H1)⟩
  refine q_when (b := false) (et_test (ev_is (ev_op (ev_lenT (K := K) (ev_var rfl) ha) lenP (rv_ne rfl)) ?_)) (fun q => by cases q) (fun _ H1 e => ?_)
  · rw [List.length_map, lx, hl]
    simp
  · refine s_ret (ev_allZip (xs := zs.map V.str) (ys := xs) (ev_var rfl) (ev_var rfl) (fun G _ => hp G) (fun G eg => st_of (eg _ _ (e _ _ ha))) (by rw [List.length_map, lx, hl]) (by rw [List.length_map]; omega) (fun _ _ => rfl) fun n x y hx hy => ?_) fun H2 e2 => k H2 (e.trans e2)
    rw [List.getElem?_map] at hx
    cases hz1 : zs[n]? with
    | none => rw [hz1] at hx; cases hx
    | some z =>
      rw [hz1] at hx
      cases hx
      have hn : n < us.length := by
        have := (List.getElem?_eq_some_iff.mp hy).1
        omega
      obtain ⟨y', hy', hay⟩ := AtL.get hlx (List.getElem?_eq_getElem hn)
      rw [hy] at hy'
      cases hy'
      exact ev_call (ea_cons (ev_var rfl) (ea_cons (ev_var rfl) ea_nil)) fun H1' e1 Q q E => ⟨z, y, us[n], w, rfl, ex_at (e.trans e1) hay, fi.tup _ (List.getElem_mem hn), hok n z _ hz1 (List.getElem?_eq_getElem hn), q⟩
/-! ### is_deed -/
theorem scDeed : FnScope ["thing"] ["thing"] (defScope sDeed) := ⟨rfl, rfl, rfl, by decide +kernel, rfl, by decide +kernel, by decide +kernel⟩
def spDeed (C : Addr) : Sp := fun vs H Q _ => ∃ (v : V) (D : Deed) (w : Addr), vs = [v] ∧ At w C H v (deedU D) ∧ (∃ o, H w = some o) ∧ Fine (deedU D) ∧ D.ok ∧ ∀ H', Same H H' → Q (.bl true) H'
theorem word_stand (D : Deed) : decide (V.str D.word = V.str "stand") = false := by
  cases D with
  | lease k t =>
    show decide (V.str ("lease" : Str) = V.str ("stand" : Str)) = false
    decide +kernel
  | free k t =>
    show decide (V.str ("free" : Str) = V.str ("stand" : Str)) = false
    decide +kernel
  | tick =>
    show decide (V.str ("tick" : Str) = V.str ("stand" : Str)) = false
    decide +kernel
  | rise =>
    show decide (V.str ("rise" : Str) = V.str ("stand" : Str)) = false
    decide +kernel
theorem cut_one (u : U) (us : List U) : cutU (u :: us) (some 1) none = us := by
  unfold cutU
  have z1 : HT.sIx (u :: us).length 0 (some 1) = 1 := by
    simp only [HT.sIx]
    rw [if_neg (by decide), List.length_cons]
    show min 1 (us.length + 1) = 1
    omega
  have z2 : HT.sIx (u :: us).length (u :: us).length none = (u :: us).length := rfl
  rw [z1, z2]
  simp
theorem ok_deed {f f1 a : Addr} {es : Array DictEntry} {n : Nat} {fd d1 : FuncData} (D : Df K mg "is_deed" sDeed ["thing"] f fd) (S : Bs K mg C) (Ds : Dds K wd mg a es n) (D1 : Df K mg "are_parts" sParts ["kinds", "things"] f1 d1) (G : FnOk P wd K mg base CX0 4 f1 d1 ["kinds", "things"] (spParts K C)) :
    FnOk P wd K mg base CX0 5 f fd ["thing"] (spDeed C) := by
  refine D.F.ok scDeed (fun vs H Q E h => ?_) (fun cdv A outer s H vs Q E hr h => ?_)
  · obtain ⟨v, De, w, rfl, _⟩ := h
    rfl
  obtain ⟨v, De, w, rfl, hat, hw, fi, hok, k⟩ := h
  refine ⟨_, pss_cons (ps_if (PW.pt (pw_or (pt_not (pt_val (pe_isiX S (by rfl) (by rfl) S.B.tup boot_tuple' (by decide) (pv 0) (by decide) (by decide)))) (pw_or (pt_cmpR (op_eqN (room_hu hr)) (pv 0) (pe_tup pa_nil) (nomark _)) (pw_or1 (pt_not (pt_val (pe_isiX S (by rfl) (by rfl) S.B.str boot_str (by decide) (pe_ix ix_tup (pv 0) pe_int (fun _ _ => rfl)) (by decide) (by decide)))))))) (pss_one (ps_ret pe_bl)) pss_nil)
    (pss_cons (ps_if (pt_cmpR op_eq (pe_ix ix_tup (pv 0) pe_int (fun _ _ => rfl)) pe_str (nomark _)) pss_dead pss_nil)
    (pss_one (ps_ret (pe_and (pe_cmpR (op_in_kd Ds.kd) (pe_ix ix_tup (pv 0) pe_int (fun _ _ => rfl)) (pe_glob (v := .ref a) (by rfl) Ds.g rfl) (by rfl)) (pe_one (pe_call G (hr.mono (by decide)) (by rfl) D1.g D1.F.kp D1.b .nil pass0 (pa_cons (pe_ix ix_kdict (pe_glob (v := .ref a) (by rfl) Ds.g rfl) (pe_ix ix_tup (pv 0) pe_int (fun _ _ => rfl)) (fun _ _ => rfl)) (pa_cons (pe_slice sl_tupA (pv 0) (po_some pe_int) po_none) pa_nil)))))))), ?_⟩
  obtain ⟨b, xs, rfl, hb, nb, hl⟩ := at_tup hat
  obtain ⟨x0, xr, rfl, h0⟩ : ∃ x0 xr, xs = x0 :: xr ∧ x0 = .str De.word := by
    cases hl with
    | cons h1 h2 => exact ⟨_, _, rfl, at_str h1⟩
  subst h0
  have e0 : ∀ G, Ex H G → Ev (tOp (rIxT K) (tVar 0) (tC (.int 0))) [some (.ref b)] G (.str De.word) := fun G e => ev_ixT (j := 0) (ev_var rfl) (e _ _ hb) rfl
  refine q_when (b := false) (et_is (et_or (et_not (et_B (ev_isi (ev_var rfl) hat))) fun _ => et_or (et_test (ev_opU (ev_var rfl) (eu_tup ea_nil (by decide)) fun q H1 hq e1 => rv_eqN ((nc_at hat (by trivial)).ex e1) hq)) fun _ => et_not (et_B (ev_isi (w := w) (C := C) (u := .str De.word) (e0 H (Ex.refl H)) (.str _)))) (by simp [isT, isS, tyU, deedU, nilU])) (fun q => by cases q) (fun _ H1 e1 => ?_)
  refine q_when (b := false) (et_test (ev_is (ev_op (e0 H1 e1) ev_c (rv_eq rfl)) (by rw [word_stand]))) (fun q => by cases q) (fun _ H2 e2 => ?_)
  have e12 := e1.trans e2
  obtain ⟨p, hns, htu⟩ := Ds.at De
  obtain ⟨f1', f2'⟩ := De.fits hok
  have lenp : De.parts.length ≤ 1000 := by
    cases De <;> simp [Deed.parts]
  have fip : Fine (.tup De.parts) := by
    refine ⟨?_, ?_⟩
    · have := fi.w
      unfold deedU at this
      simp only [wt, wtL] at this ⊢
      omega
    · have := fi.c
      unfold deedU at this
      simp only [clean, cleanL] at this ⊢
      exact this.2
  refine s_ret (v := .bl (true && true)) (ev_andV (ev_op (e0 H2 e12) ev_c fun G e Q q => ⟨De.word, _, rfl, rfl, hns, q G (Ex.refl G)⟩) fun _ G eg Q q => ?_) fun H3 e3 => k H3 (e12.trans e3)
  have first : Ev (tOp (rIxD K wd) (tC (.ref a)) (tOp (rIxT K) (tVar 0) (tC (.int 0)))) [some (.ref b)] G (.ref p) := ev_op ev_c (e0 G (e12.trans eg)) fun G1 e Q q => ⟨a, De.word, .ref p, rfl, rfl, ⟨es, n, .ref p, Ds.kd.at_, Ds.kd.lit, hns, rfl⟩, q G1 (Ex.refl G1)⟩
  refine first G (Ex.refl G) _ fun G1 g1 => ?_
  refine (ed_slice (K := K) (hw.imp fun o z => ((e12.trans eg).trans g1) _ _ z) (ev_var rfl) (((e12.trans eg).trans g1) _ _ hb) nb (ex_atl ((e12.trans eg).trans g1) hl) (eo_some ev_c) eo_none) G1 (Ex.refl G1) _ fun v2 G2 g2 a2 => ?_
  rw [cut_one] at a2
  exact ⟨p, De.kinds, v2, De.parts, w, rfl, htu, a2, fip, lenp, f1', f2', fun H' s => q H' ((g1.trans g2).trans s)⟩
end
end Hs
namespace Hs
open PySem PySem.Spec PyProof.Rows L2 Hu Evl
open Hk (SI ltSI)
/-- what a table must be for a deed -/
structure TabOk (T : Tb) : Prop where
  g : gTable (tabU T) = true
  fi : Fine (tabU T)
  ok : OkT (tabU T)
  e : ∃ i : Int, T.e = .int i ∧ 0 ≤ i
  st : srt T.ls
  len : T.ls.length ≤ 30000
  tx : ∀ l ∈ T.ls, PyData.strOk l.1.1 = true
structure DeedOk (D : Deed) : Prop where
  ok : D.ok
  fi : Fine (deedU D)
  tx : D.txt
/-- where the doings stand -/
structure Dgs (K : PySem.W.Frag) (w : World) (mg : Str → Option Value) (a fL fF fT fR : Addr) : Prop where
  g : mg "DOINGS" = some (.ref a)
  l : KDct K w a "lease" (.ref fL)
  f : KDct K w a "free" (.ref fF)
  t : KDct K w a "tick" (.ref fT)
  r : KDct K w a "rise" (.ref fR)
section
variable {P : Program} {wd : World} {K : PySem.W.Frag} {mg : Str → Option Value} {base : Heap} {C : Addr}
/-! ### lets -/
theorem scLets : FnScope ["table", "deed"] ["table", "deed"] (defScope sLets) := ⟨rfl, rfl, rfl, by decide +kernel, rfl, by decide +kernel, by decide +kernel⟩
def spLets (C : Addr) : Sp := fun vs H Q _ => ∃ (x y : V) (T : Tb) (w : Addr) (i : Int), vs = [x, y] ∧ At w C H x (tabU T) ∧ T.e = .int i ∧ 0 ≤ i ∧ ∀ H', Same H H' → Q (.bl true) H'
theorem ok_lets {f : Addr} {fd : FuncData} (D : Df K mg "lets" sLets ["table", "deed"] f fd) (N : Ct mg) : FnOk P wd K mg base CX0 1 f fd ["table", "deed"] (spLets C) := by
  refine D.F.ok scLets (fun vs H Q E h => ?_) (fun cdv A outer s H vs Q E hr h => ?_)
  · obtain ⟨x, y, T, w, i, rfl, _⟩ := h
    rfl
  obtain ⟨x, y, T, w, i, rfl, hx, he, hi, k⟩ := h
  refine ⟨_, pss_one (ps_ret (pe_or (pe_cmpR op_ge (pe_ix ix_tup (pv 0) (pe_gi (by rfl) N.p0) (fun _ _ => rfl)) pe_int (nomark _)) (pe_one pe_dead))), ?_⟩
  obtain ⟨y0, ev0, a0⟩ := nth_at (K := K) (σ := [some x, some y]) (te := tVar 0) hx (ev_var rfl) 0 (by show 0 < 10; decide)
  have a0' : At w C H y0 T.e := a0
  rw [he] at a0'
  cases at_int a0'
  exact s_ret (v := .bl (true || true)) (ev_orV (ev_is (ev_op ev0 ev_c rv_I0) (by rw [decide_eq_true (show i ≥ 0 from hi)])) fun q => by cases q) fun H1 e => k H1 e
/-! ### done -/
theorem scDone : FnScope ["table", "deed", "doing"] ["table", "deed"] (defScope sDone) := ⟨rfl, rfl, rfl, by decide +kernel, rfl, by decide +kernel, by decide +kernel⟩
def spDone (C : Addr) (D : Deed) : Sp := fun vs H Q _ => ∃ (x y : V) (T : Tb) (w : Addr), vs = [x, y] ∧ At w C H x (tabU T) ∧ At w C H y (deedU D) ∧ (∃ o, H w = some o) ∧ srt T.ls ∧ T.ls.length ≤ 30000 ∧ (∀ l ∈ T.ls, PyData.strOk l.1.1 = true) ∧ D.txt ∧
  ∀ v H' T', Same H H' → Nx D T T' → At w C H' v (tabU T') → Q v H'
theorem ok_done1 {f fG a : Addr} {fd dG : FuncData} {De : Deed} (D : Df K mg "done" sDone ["table", "deed"] f fd) (hg : mg "DOINGS" = some (.ref a)) (hk : KDct K wd a De.word (.ref fG)) (kp : PySem.W.keepIn K (.ref fG) = true) (bG : Binds K dG ["table", "parts"] [])
    (G : FnOk P wd K mg base CX0 2 fG dG ["table", "parts"] (spDo C De)) : FnOk P wd K mg base CX0 3 f fd ["table", "deed"] (spDone C De) := by
  refine D.F.ok scDone (fun vs H Q E h => ?_) (fun cdv A outer s H vs Q E hr h => ?_)
  · obtain ⟨x, y, T, w, rfl, _⟩ := h
    rfl
  obtain ⟨x, y, T, w, rfl, hx, hy, hw, st, hz, hsl, hsk, q⟩ := h
  refine ⟨_, pss_cons (ps_set (i := 2) scDone.nd rfl (.inl rfl) (pe_ix ix_kdict (pe_glob (v := .ref a) (by rfl) hg rfl) (pe_ix ix_tup (pv 1) pe_int (fun _ _ => rfl)) (fun _ _ => rfl)))
    (pss_one (ps_ret (pe_callL (i := 2) G hr rfl (.inl rfl) kp bG .nil pass0 (pa_cons (pv 0) (pa_cons (pe_slice sl_tupA (pv 1) (po_some pe_int) po_none) pa_nil))))), ?_⟩
  obtain ⟨b, xs, rfl, hb, nb, hl⟩ := at_tup hy
  obtain ⟨x0, xr, rfl, h0⟩ : ∃ x0 xr, xs = x0 :: xr ∧ x0 = .str De.word := by
    cases hl with
    | cons h1 h2 => exact ⟨_, _, rfl, at_str h1⟩
  subst h0
  refine q_asg (v := .ref fG) (ev_op ev_c (ev_ixT (j := 0) (ev_var rfl) hb rfl) fun G1 e Q q => ⟨a, De.word, .ref fG, rfl, rfl, hk, q G1 (Ex.refl G1)⟩) fun H1 e1 => ?_
  refine ⟨rfl, x, rfl, ?_⟩
  refine (ed_slice (K := K) (hw.imp fun o z => e1 _ _ z) (ev_var rfl) (e1 _ _ hb) nb (ex_atl e1 hl) (eo_some ev_c) eo_none) H1 (Ex.refl H1) _ fun v2 H2 e2 a2 => ?_
  rw [cut_one] at a2
  exact ⟨x, v2, T, w, rfl, ex_at (e1.trans e2) hx, a2, hw.imp fun o z => (e1.trans e2) _ _ z, st, hz, hsl, hsk, fun v H' T' s n a => q v H' T' ((e1.trans e2).trans s) n a⟩
/-! ### behind -/
theorem scBehind : FnScope ["table", "deed"] ["table", "deed"] (defScope sBehind) := ⟨rfl, rfl, rfl, by decide +kernel, rfl, by decide +kernel, by decide +kernel⟩
def spBehind (C : Addr) : Sp := fun vs H Q _ => ∃ (x y : V) (D : Deed) (T : Tb) (w : Addr), vs = [x, y] ∧ At w C H x (tabU T) ∧ At w C H y (deedU D) ∧ (∃ o, H w = some o) ∧ TabOk T ∧ DeedOk D ∧
  ∀ v H' T', Same H H' → Nx D T T' → At w C H' v (tabU T') → Q v H'
theorem ok_behind {f f1 f2 f3 f4 : Addr} {fd d1 d2 d3 d4 : FuncData} (D : Df K mg "behind" sBehind ["table", "deed"] f fd) (JT : Jw P wd K mg base C 8 "is_table" "thing" f1 d1 OkT gTable) (D2 : Df K mg "is_deed" sDeed ["thing"] f2 d2) (G2 : FnOk P wd K mg base CX0 5 f2 d2 ["thing"] (spDeed C))
    (D3 : Df K mg "lets" sLets ["table", "deed"] f3 d3) (G3 : FnOk P wd K mg base CX0 1 f3 d3 ["table", "deed"] (spLets C)) (D4 : Df K mg "done" sDone ["table", "deed"] f4 d4)
    (G4 : FnOk P wd K mg base CX0 3 f4 d4 ["table", "deed"] (fun vs H Q E => ∃ De, Deed.ok De ∧ spDone C De vs H Q E)) : FnOk P wd K mg base CX0 9 f fd ["table", "deed"] (spBehind C) := by
  refine D.F.ok scBehind (fun vs H Q E h => ?_) (fun cdv A outer s H vs Q E hr h => ?_)
  · obtain ⟨x, y, De, T, w, rfl, _⟩ := h
    rfl
  obtain ⟨x, y, De, T, w, rfl, hx, hy, hw, ht, hd, q⟩ := h
  refine ⟨_, pss_cons (ps_if (pt_not (pt_val (pe_Jw JT hr (by decide) (by rfl) pass0 (pv 0)))) pss_dead pss_nil)
    (pss_cons (ps_if (PW.pt (pw_or (pt_not (pt_val (pe_call G2 (hr.mono (by decide)) (by rfl) D2.g D2.F.kp D2.b .nil pass0 (pa_cons (pv 1) pa_nil)))) (pw_or1 (pt_not (pt_val (pe_call G3 (hr.mono (by decide)) (by rfl) D3.g D3.F.kp D3.b .nil pass0 (pa_cons (pv 0) (pa_cons (pv 1) pa_nil)))))))) pss_dead pss_nil)
    (pss_one (ps_ret (pe_call G4 (hr.mono (by decide)) (by rfl) D4.g D4.F.kp D4.b .nil pass0 (pa_cons (pv 0) (pa_cons (pv 1) pa_nil)))))), ?_⟩
  obtain ⟨i, he, hi⟩ := ht.e
  refine q_when (b := !gTable (tabU T)) (et_not (et_B (ev_Jw (ev_var rfl) hx ht.fi ht.ok hw))) (fun q => by rw [ht.g] at q; cases q) (fun _ H1 e1 => ?_)
  refine q_when (b := !true || !true) (et_or (et_not (et_B (ev_call (ea_cons (ev_var rfl) ea_nil) fun G e Q q E => ⟨y, De, w, rfl, ex_at (e1.trans e) hy, hw.imp fun o z => (e1.trans e) _ _ z, hd.fi, hd.ok, q⟩))) fun _ => et_not (et_B (ev_call (ea_cons (ev_var rfl) (ea_cons (ev_var rfl) ea_nil)) fun G e Q q E => ⟨x, y, T, w, i, rfl, ex_at (e1.trans e) hx, he, hi, q⟩))) (fun q => by cases q) (fun _ H2 e2 => ?_)
  have e12 := e1.trans e2
  exact ⟨x, rfl, y, rfl, De, hd.ok, x, y, T, w, rfl, ex_at e12 hx, ex_at e12 hy, hw.imp fun o z => e12 _ _ z, ht.st, ht.len, ht.tx, hd.tx, fun v H' T' s n a => q v H' T' (e12.trans s) n a⟩
end
end Hs
/-! the law's drawn values -/
namespace Hs
open PySem PySem.Spec PyProof.Rows L2 Hu Evl
/-- what is tracked in H' at places that were free in H -/
def fresh (H H' : Hp) : Hp := fun b => match H b with | none => H' b | some _ => none
theorem fr_get {H H' : Hp} {b : Addr} (h : H b = none) : fresh H H' b = H' b := by
  unfold fresh
  rw [h]
theorem fr_new {H H' : Hp} {b : Addr} {o : HO} (h : fresh H H' b = some o) : H b = none ∧ H' b = some o := by
  cases q : H b with
  | none => exact ⟨rfl, by rw [fr_get q] at h; exact h⟩
  | some o' =>
    unfold fresh at h
    rw [q] at h
    cases h
theorem at_full {w C : Addr} {H H' : Hp} {v : V} {u : U} (h : At w C (fresh H H') v u) : At w C H' v u := h.keep fun b o _ q => (fr_new q).2
theorem atl_full {w C : Addr} {H H' : Hp} {vs : List V} {us : List U} (h : AtL w C (fresh H H') vs us) : AtL w C H' vs us := h.keep fun b o _ q => (fr_new q).2
/-! its signs are a text's or line feeds, its integers below 2 ^ 64 + b -/
mutual
def tidy (b : Nat) : U → Prop
  | .int i => i.natAbs < 2 ^ 64 + b
  | .str z => ∀ c ∈ TL.tl z, okS c = true ∨ c = 10
  | .tup us | .lst us | .dct us => tidyL b us
  | _ => True
def tidyL (b : Nat) : List U → Prop
  | [] => True
  | u :: us => tidy b u ∧ tidyL b us
end
mutual
theorem tidy_clean {b : Nat} (hb : b ≤ 100) : ∀ u : U, tidy b u → clean u
  | .non, _ => trivial
  | .bl _, _ => trivial
  | .int i, h => by simp only [tidy] at h; simp only [clean]; omega
  | .str z, h => by simpa only [clean, tidy] using h
  | .tup us, h => by simp only [clean]; exact tidyL_clean hb us (by simpa only [tidy] using h)
  | .lst us, h => by simp only [clean]; exact tidyL_clean hb us (by simpa only [tidy] using h)
  | .dct us, h => by simp only [clean]; exact tidyL_clean hb us (by simpa only [tidy] using h)
  | .exc, _ => trivial
theorem tidyL_clean {b : Nat} (hb : b ≤ 100) : ∀ us : List U, tidyL b us → cleanL us
  | [], _ => trivial
  | u :: us, h => ⟨tidy_clean hb u h.1, tidyL_clean hb us h.2⟩
end
mutual
theorem tidy_mono {b b' : Nat} (hb : b ≤ b') : ∀ u : U, tidy b u → tidy b' u
  | .non, _ => trivial
  | .bl _, _ => trivial
  | .int i, h => by simp only [tidy] at *; omega
  | .str z, h => by simpa only [tidy] using h
  | .tup us, h => by simp only [tidy] at *; exact tidyL_mono hb us h
  | .lst us, h => by simp only [tidy] at *; exact tidyL_mono hb us h
  | .dct us, h => by simp only [tidy] at *; exact tidyL_mono hb us h
  | .exc, _ => trivial
theorem tidyL_mono {b b' : Nat} (hb : b ≤ b') : ∀ us : List U, tidyL b us → tidyL b' us
  | [], _ => trivial
  | u :: us, h => ⟨tidy_mono hb u h.1, tidyL_mono hb us h.2⟩
end
/-- bounds -/
structure Bd (u : U) (m d b : Nat) : Prop where
  w : wt u ≤ m
  d : dep u ≤ d
  c : tidy b u
theorem Bd.mono {u : U} {m d b m' d' b' : Nat} (h : Bd u m d b) (hm : m ≤ m') (hd : d ≤ d') (hb : b ≤ b') : Bd u m' d' b' := ⟨Nat.le_trans h.w hm, Nat.le_trans h.d hd, tidy_mono hb _ h.c⟩
theorem Bd.fine {u : U} {m d b : Nat} (h : Bd u m d b) (hm : m ≤ 1000000) (hb : b ≤ 100) : Fine u := ⟨Nat.le_trans h.w hm, tidy_clean hb _ h.c⟩
structure BdL (us : List U) (m d b : Nat) : Prop where
  w : wtL us ≤ m
  d : depL us ≤ d
  c : tidyL b us
theorem BdL.nil {d b : Nat} : BdL [] 0 d b := ⟨Nat.le_refl _, Nat.zero_le _, trivial⟩
theorem wtL_append : ∀ us us' : List U, wtL (us ++ us') = wtL us + wtL us'
  | [], us' => by simp [wtL]
  | u :: us, us' => by simp only [List.cons_append, wtL, wtL_append us us']; omega
theorem depL_append : ∀ us us' : List U, depL (us ++ us') = max (depL us) (depL us')
  | [], us' => by simp [depL]
  | u :: us, us' => by simp only [List.cons_append, depL, depL_append us us']; omega
theorem tidyL_append {b : Nat} : ∀ {us us' : List U}, tidyL b us → tidyL b us' → tidyL b (us ++ us')
  | [], _, _, h => h
  | _ :: _, _, h, h' => ⟨h.1, tidyL_append h.2 h'⟩
theorem BdL.append {us us' : List U} {m m' d b : Nat} (h : BdL us m d b) (h' : BdL us' m' d b) : BdL (us ++ us') (m + m') d b := by
  refine ⟨?_, ?_, tidyL_append h.c h'.c⟩
  · rw [wtL_append]
    have := h.w
    have := h'.w
    omega
  · rw [depL_append]
    have := h.d
    have := h'.d
    omega
theorem BdL.one {u : U} {m d b : Nat} (h : Bd u m d b) : BdL [u] (m + 2) d b := ⟨by have := h.w; simp only [wtL]; omega, by have := h.d; simp only [depL]; omega, ⟨h.c, trivial⟩⟩
theorem BdL.snoc {us : List U} {u : U} {m m' d b : Nat} (h : BdL us m d b) (q : Bd u m' d b) : BdL (us ++ [u]) (m + (m' + 2)) d b := h.append (.one q)
theorem BdL.mono {us : List U} {m d b m' d' b' : Nat} (h : BdL us m d b) (hm : m ≤ m') (hd : d ≤ d') (hb : b ≤ b') : BdL us m' d' b' := ⟨Nat.le_trans h.w hm, Nat.le_trans h.d hd, tidyL_mono hb _ h.c⟩
theorem BdL.take {us : List U} {m d b : Nat} : ∀ (n : Nat), BdL us m d b → BdL (us.take n) m d b := fun n h => by
  have e := List.take_append_drop n us
  refine ⟨?_, ?_, ?_⟩
  · have := h.w
    rw [← e, wtL_append] at this
    omega
  · have := h.d
    rw [← e, depL_append] at this
    omega
  · have := h.c
    clear e h
    induction us generalizing n with
    | nil => rw [List.take_nil]; trivial
    | cons u us ih => cases n with
      | zero => trivial
      | succ n => exact ⟨this.1, ih n this.2⟩
theorem BdL.drop {us : List U} {m d b : Nat} : ∀ (n : Nat), BdL us m d b → BdL (us.drop n) m d b := fun n h => by
  have e := List.take_append_drop n us
  refine ⟨?_, ?_, ?_⟩
  · have := h.w
    rw [← e, wtL_append] at this
    omega
  · have := h.d
    rw [← e, depL_append] at this
    omega
  · have := h.c
    clear e h
    induction us generalizing n with
    | nil => rw [List.drop_nil]; trivial
    | cons u us ih => cases n with
      | zero => exact this
      | succ n => exact ih n this.2
theorem BdL.get {us : List U} {m d b : Nat} {u : U} (h : BdL us m d b) (hu : u ∈ us) : Bd u m d b := by
  obtain ⟨w, dd, c⟩ := h
  refine ⟨Nat.le_trans (wt_mem hu) w, Nat.le_trans ?_ dd, ?_⟩
  · clear w c dd
    induction us with
    | nil => cases hu
    | cons a r ih =>
      simp only [depL]
      rcases List.mem_cons.mp hu with rfl | hu
      · omega
      · have := ih hu
        omega
  · clear w dd
    induction us with
    | nil => cases hu
    | cons a r ih =>
      rcases List.mem_cons.mp hu with rfl | hu
      · exact c.1
      · exact ih hu c.2
theorem Bd.tup {us : List U} {m d b : Nat} (h : BdL us m d b) : Bd (.tup us) (m + 3) (d + 1) b := ⟨by have := h.w; simp only [wt]; omega, by have := h.d; simp only [dep]; omega, by simpa only [tidy] using h.c⟩
theorem Bd.lst {us : List U} {m d b : Nat} (h : BdL us m d b) : Bd (.lst us) (m + 3) (d + 1) b := ⟨by have := h.w; simp only [wt]; omega, by have := h.d; simp only [dep]; omega, by simpa only [tidy] using h.c⟩
theorem AtL.snoc {w C : Addr} {H : Hp} {vs : List V} {us : List U} {v : V} {u : U} (l : AtL w C H vs us) (h : At w C H v u) : AtL w C H (vs ++ [v]) (us ++ [u]) := AtL.append l (.cons h .nil)
theorem vi_eq {i j : Int} (h : decide (V.int i = V.int j) = true) : i = j := V.int.inj (of_decide_eq_true h)
theorem vi_ne {i j : Int} (h : ¬ decide (V.int i = V.int j) = true) : i ≠ j := fun e => h (decide_eq_true (by rw [e]))
section
variable {P : Program} {wd : World} {K : PySem.W.Frag} {mg : Str → Option Value} {base : Heap} {C : Addr}
/-- the defs that draw, ready to be called -/
structure Dd (P : Program) (wd : World) (K : PySem.W.Frag) (mg : Str → Option Value) (base : Heap) (f : Addr) (d : FuncData) : Prop where
  ok : FnOk P wd K mg base CX0 3 f d ["well", "many"] spDraw
  g : mg "_law_draw" = some (.ref f)
  kp : PySem.W.keepIn K (.ref f) = true
  b : Binds K d ["well", "many"] []
end
section
variable {X : Cx} {fD : Addr} {dD : FuncData} {e1 e2 : Expr} {t1 t2 : TE} {ps pos : Pos} {k : Nat}
theorem pe_draw (D : Dd X.prog X.w X.K X.mg X.base fD dD) (hr : Room k X.A) (h : 3 ≤ k) (hg : Gl X "_law_draw") (h1 : PE X e1 t1) (h2 : PE X e2 t2) (hst : starEach [e1, e2] X.env = (false, eval e1 X.env) :: starEach [e2] X.env := by rfl) (hst2 : starEach [e2] X.env = (false, eval e2 X.env) :: starEach [] X.env := by rfl)
    (hpl : (backTo pos (starEach [e2] X.env)).any (·.1) = false := by rfl) : PE X (.Call (.Name "_law_draw" ps) [e1, e2] [] pos) (tCall spDraw [] E0 (tCons t1 (tCons t2 tNil))) :=
  pe_call (D.ok.mono h) hr hg D.g D.kp D.b .nil pass0 (pa_cons h1 (pa_cons h2 pa_nil hst2) hst) (by decide) hst hpl
end
section
variable {P : Program} {wd : World} {K : PySem.W.Frag} {mg : Str → Option Value} {base : Heap} {C : Addr} {fD : Addr} {dD : FuncData}
def spNumber : Sp := fun vs H Q _ => ∃ wl : WA, vs = [.ref wl.w] ∧ Well H wl ∧ ∀ (d : Int) (H' : Hp), 0 ≤ d → d < 10 ^ 11 → Drawn wl H H' → Q (.int d) H'
theorem scNumber : FnScope ["well", "kind"] ["well"] (defScope lNumber) := ⟨rfl, rfl, rfl, by decide +kernel, rfl, by decide +kernel, by decide +kernel⟩
theorem ev_pow {σ : L2.St} {H : Hp} {i j : Int} {ta tb : TE} (ha : Ev ta σ H (.int i)) (hb : Ev tb σ H (.int j)) (hc : CPow i j) : Ev (tOp (rI CPow fun i j => .int (i ^ j.toNat)) ta tb) σ H (.int (i ^ j.toNat)) := ev_op ha hb (rv_I hc)
theorem ev_pick {σ : L2.St} {H : Hp} {ta : TA} {tb : TE} {xs : List V} {i : Nat} {v : V} (hl : EvA ta σ H xs) (hz : xs.length ≤ 100000) (hb : Ev tb σ H (.int (i : Int))) (hv : xs[i]? = some v) : Ev (tOp (rIxL K) (tLst ta) tb) σ H v :=
  ev_opL1 (el_lst hl hz) (fun H1 e => hb.mono e) fun p H1 h e => rv_ixL (sq_of h) (atI_nat hv)
theorem ok_number {f : Addr} {fd : FuncData} (F : Fun K "_law_number" "_law_number" lNumber f fd) (D : Dd P wd K mg base fD dD) : FnOk P wd K mg base CX0 4 f fd ["well"] spNumber := by
  refine F.ok scNumber (fun vs H Q E h => ?_) (fun cdv A outer s H vs Q E hr h => ?_)
  · obtain ⟨wl, rfl, _⟩ := h
    rfl
  obtain ⟨wl, rfl, W, k⟩ := h
  refine ⟨_, pss_cons (ps_set (i := 1) scNumber.nd rfl (.inl rfl) (pe_draw D hr (by decide) (by rfl) (pv 0) pe_int))
    (pss_cons (ps_if (pt_cmpR op_eq (pv 1) pe_int (nomark _)) (pss_one (ps_ret (pe_draw D hr (by decide) (by rfl) (pv 0) (pe_op op_pow pe_int pe_int)))) pss_nil)
    (pss_one (ps_ret (pe_draw D hr (by decide) (by rfl) (pv 0) (pe_ix ix_list (pe_lst (pa_cons pe_int (pa_cons pe_int (pa_cons (pe_op op_pow pe_int pe_int) pa_nil)))) (pv 1) (fun _ _ => rfl)))))), ?_⟩
  refine ⟨_, rfl, wl, 4, rfl, W, by decide, by decide, fun d H1 d0 d1 D1 => ⟨_, rfl, rfl, _, rfl, ite2 (fun q => ?_) (fun q => ?_)⟩⟩
  · refine ⟨_, rfl, _, _, rfl, rfl, ⟨by decide, by decide, by decide⟩, wl, 10 ^ 11, rfl, D1.well, by decide, by decide, fun d2 H2 e0 e1 D2 => k d2 H2 e0 e1 (D1.trans D2)⟩
  · have q1 := vi_ne q
    have hd : d = 0 ∨ d = 1 ∨ d = 2 := by omega
    have go : ∀ (i : Nat) (m : Int), d = (i : Int) → ([V.int 3, .int 40, .int (10 ^ 9)] : List V)[i]? = some (.int m) → 0 < m → m ≤ 10 ^ 9 → tCall spDraw [] E0 (tCons (tVar 0) (tCons (tOp (rIxL K) (tLst (tCons (tC (.int 3)) (tCons (tC (.int 40)) (tCons (tOp (rI CPow fun i j => .int (i ^ j.toNat)) (tC (.int 10)) (tC (.int 9))) tNil)))) (tVar 1)) tNil)) [some (.ref wl.w), some (.int d)] H1 Q := fun i m ei hm m0 m9 => by
      refine ⟨_, rfl, ev_pick (K := K) (i := i) (ea_cons ev_c (ea_cons ev_c (ea_cons (ev_pow ev_c ev_c ⟨by decide, by decide, by decide⟩) ea_nil))) (show (3 : Nat) ≤ 100000 by decide) (ev_var (by rw [ei]; rfl)) hm H1 (Ex.refl H1) _ fun H2 e2 => ?_⟩
      exact ⟨wl, m, rfl, D1.well.same e2, m0, by omega, fun d2 H3 f0 f1 D2 => k d2 H3 f0 (by omega) ((D1.same e2).trans D2)⟩
    rcases hd with h | h | h
    · exact go 0 3 (by rw [h]; rfl) rfl (by decide) (by decide)
    · exact go 1 40 (by rw [h]; rfl) rfl (by decide) (by decide)
    · exact go 2 (10 ^ 9) (by rw [h]; rfl) rfl (by decide) (by decide)
end
end Hs
namespace Hs
open PySem PySem.Spec PyProof.Rows L2 Hu Evl
section
variable {P : Program} {wd : World} {K : PySem.W.Frag} {mg : Str → Option Value} {base : Heap} {C : Addr} {fD : Addr} {dD : FuncData}
/-! ### ids and stamps -/
theorem idOk {i j : Int} (h : 1 ≤ i ∧ i ≤ 99 ∧ 1 ≤ j) : gId (.tup [.int i, .int j]) = true := by
  show ((decide (1 ≤ i) && decide (i ≤ 99)) && decide (1 ≤ j)) = true
  rw [decide_eq_true h.1, decide_eq_true h.2.1, decide_eq_true h.2.2]
  rfl
theorem stampOk {i j : Int} (h : (i = 0 ∧ j = 0) ∨ (1 ≤ i ∧ 1 ≤ j ∧ j ≤ 99)) : gStamp (.tup [.int i, .int j]) = true := by
  show ((decide (i = 0) && decide (j = 0)) || (decide (1 ≤ i) && (decide (1 ≤ j) && decide (j ≤ 99)))) = true
  rcases h with ⟨h1, h2⟩ | ⟨h1, h2, h3⟩
  · rw [decide_eq_true h1, decide_eq_true h2]
    rfl
  · rw [decide_eq_true h1, decide_eq_true h2, decide_eq_true h3]
    simp
def spPair (R : Int → Int → Prop) : Sp := fun vs H Q _ => ∃ wl : WA, vs = [.ref wl.w] ∧ Well H wl ∧ ∀ (i j : Int) (p : Addr) (H' : Hp), i.natAbs < 2 ^ 60 → j.natAbs < 2 ^ 60 → R i j → H p = none → Drawn wl H H' → H' p = some (.tup [.int i, .int j]) → Q (.ref p) H'
theorem scIdL : FnScope ["well"] ["well"] (defScope lId) := ⟨rfl, rfl, rfl, by decide +kernel, rfl, by decide +kernel, by decide +kernel⟩
theorem ok_idL {f fN : Addr} {fd dN : FuncData} (F : Fun K "_law_id" "_law_id" lId f fd) (D : Dd P wd K mg base fD dD) (DN : Df K mg "_law_number" lNumber ["well"] fN dN) : FnOk P wd K mg base CX0 5 f fd ["well"] (spPair fun i j => 1 ≤ i ∧ i ≤ 99 ∧ 1 ≤ j) := by
  have GN : FnOk P wd K mg base CX0 4 fN dN ["well"] spNumber := ok_number DN.F D
  refine F.ok scIdL (fun vs H Q E h => ?_) (fun cdv A outer s H vs Q E hr h => ?_)
  · obtain ⟨wl, rfl, _⟩ := h
    rfl
  obtain ⟨wl, rfl, W, k⟩ := h
  refine ⟨_, pss_cons (ps_if (pt_cmpR op_eq (pe_draw D hr (by decide) (by rfl) (pv 0) pe_int) pe_int (nomark _))
      (pss_one (ps_ret (pe_tup (pa_cons (pe_op op_add pe_int (pe_draw D hr (by decide) (by rfl) (pv 0) pe_int)) (pa_cons (pe_op op_add pe_int (pe_call GN hr (by rfl) DN.g DN.F.kp DN.b .nil pass0 (pa_cons (pv 0) pa_nil))) pa_nil))))) pss_nil)
    (pss_one (ps_ret (pe_tup (pa_cons (pe_op op_add pe_int (pe_draw D hr (by decide) (by rfl) (pv 0) pe_int)) (pa_cons (pe_op op_add pe_int (pe_draw D hr (by decide) (by rfl) (pv 0) pe_int)) pa_nil))))), ?_⟩
  refine ⟨_, rfl, wl, 3, rfl, W, by decide, by decide, fun d H1 d0 d1 D1 => ⟨rfl, _, rfl, ite2 (fun q => ?_) (fun q => ?_)⟩⟩
  · refine ⟨_, rfl, wl, 99, rfl, D1.well, by decide, by decide, fun e H2 e0 e1 D2 => ⟨_, _, rfl, rfl, _, rfl, wl, rfl, D2.well, fun g H3 g0 g1 D3 => ⟨_, _, rfl, rfl, sz_of (show (2 : Nat) ≤ 100000 by decide), fun p hp => ?_⟩⟩⟩
    have DD := (D1.trans D2).trans D3
    exact k (1 + e) (1 + g) p _ (by omega) (by omega) (by omega) (DD.free W hp) (DD.new hp) upd_same
  · refine ⟨_, rfl, wl, 2, rfl, D1.well, by decide, by decide, fun e H2 e0 e1 D2 => ⟨_, _, rfl, rfl, _, rfl, wl, 3, rfl, D2.well, by decide, by decide, fun g H3 g0 g1 D3 => ⟨_, _, rfl, rfl, sz_of (show (2 : Nat) ≤ 100000 by decide), fun p hp => ?_⟩⟩⟩
    have DD := (D1.trans D2).trans D3
    exact k (1 + e) (1 + g) p _ (by omega) (by omega) (by omega) (DD.free W hp) (DD.new hp) upd_same
theorem scStampL : FnScope ["well", "kind"] ["well"] (defScope lStamp) := ⟨rfl, rfl, rfl, by decide +kernel, rfl, by decide +kernel, by decide +kernel⟩
theorem ok_stampL {f fN : Addr} {fd dN : FuncData} (F : Fun K "_law_stamp" "_law_stamp" lStamp f fd) (D : Dd P wd K mg base fD dD) (DN : Df K mg "_law_number" lNumber ["well"] fN dN) : FnOk P wd K mg base CX0 5 f fd ["well"] (spPair fun i j => (i = 0 ∧ j = 0) ∨ (1 ≤ i ∧ 1 ≤ j ∧ j ≤ 99)) := by
  have GN : FnOk P wd K mg base CX0 4 fN dN ["well"] spNumber := ok_number DN.F D
  refine F.ok scStampL (fun vs H Q E h => ?_) (fun cdv A outer s H vs Q E hr h => ?_)
  · obtain ⟨wl, rfl, _⟩ := h
    rfl
  obtain ⟨wl, rfl, W, k⟩ := h
  refine ⟨_, pss_cons (ps_set (i := 1) scStampL.nd rfl (.inl rfl) (pe_draw D hr (by decide) (by rfl) (pv 0) pe_int))
    (pss_cons (ps_if (pt_cmpR op_eq (pv 1) pe_int (nomark _)) (pss_one (ps_ret (pe_tup (pa_cons pe_int (pa_cons pe_int pa_nil))))) pss_nil)
    (pss_cons (ps_if (pt_cmpR op_eq (pv 1) pe_int (nomark _)) (pss_one (ps_ret (pe_tup (pa_cons (pe_op op_add pe_int (pe_call GN hr (by rfl) DN.g DN.F.kp DN.b .nil pass0 (pa_cons (pv 0) pa_nil))) (pa_cons (pe_op op_add pe_int (pe_draw D hr (by decide) (by rfl) (pv 0) pe_int)) pa_nil))))) pss_nil)
    (pss_one (ps_ret (pe_tup (pa_cons (pe_op op_add pe_int (pe_draw D hr (by decide) (by rfl) (pv 0) pe_int)) (pa_cons (pe_op op_add pe_int (pe_draw D hr (by decide) (by rfl) (pv 0) pe_int)) pa_nil))))))), ?_⟩
  refine ⟨_, rfl, wl, 5, rfl, W, by decide, by decide, fun d H1 d0 d1 D1 => ⟨_, rfl, rfl, _, rfl, ite2 (fun q => ?_) (fun q => ?_)⟩⟩
  · exact ⟨sz_of (show (2 : Nat) ≤ 100000 by decide), fun p hp => k 0 0 p _ (by decide) (by decide) (by omega) (D1.free W hp) (D1.new hp) upd_same⟩
  refine ⟨_, rfl, rfl, _, rfl, ite2 (fun q => ?_) (fun q => ?_)⟩
  · refine ⟨_, rfl, wl, rfl, D1.well, fun e H2 e0 e1 D2 => ⟨_, _, rfl, rfl, _, rfl, wl, 99, rfl, D2.well, by decide, by decide, fun g H3 g0 g1 D3 => ⟨_, _, rfl, rfl, sz_of (show (2 : Nat) ≤ 100000 by decide), fun p hp => ?_⟩⟩⟩
    have DD := (D1.trans D2).trans D3
    exact k (1 + e) (1 + g) p _ (by omega) (by omega) (by omega) (DD.free W hp) (DD.new hp) upd_same
  · refine ⟨_, rfl, wl, 4, rfl, D1.well, by decide, by decide, fun e H2 e0 e1 D2 => ⟨_, _, rfl, rfl, _, rfl, wl, 3, rfl, D2.well, by decide, by decide, fun g H3 g0 g1 D3 => ⟨_, _, rfl, rfl, sz_of (show (2 : Nat) ≤ 100000 by decide), fun p hp => ?_⟩⟩⟩
    have DD := (D1.trans D2).trans D3
    exact k (1 + e) (1 + g) p _ (by omega) (by omega) (by omega) (DD.free W hp) (DD.new hp) upd_same
/-! ### members -/
def spMem : Sp := fun vs H Q _ => ∃ wl : WA, vs = [.ref wl.w] ∧ Well H wl ∧ ∀ (f : Nat → Bool) (p : Addr) (H' : Hp), (∃ i, i < 9 ∧ f i = true) → H p = none → Drawn wl H H' → H' p = some (.tup (given 9 f fun i => V.int (i : Int))) → Q (.ref p) H'
theorem scMem : FnScope ["well", "bits", "k"] ["well"] (defScope lMembers) := ⟨rfl, rfl, rfl, by decide +kernel, rfl, by decide +kernel, by decide +kernel⟩
def pows : List V := [.int 1, .int 2, .int 4, .int 8, .int 16, .int 32, .int 64, .int 128, .int 256]
theorem pows_get {i : Nat} (h : i < 9) : pows[i]? = some (.int (2 ^ i : Int)) := by
  match i, h with
  | 0, _ | 1, _ | 2, _ | 3, _ | 4, _ | 5, _ | 6, _ | 7, _ | 8, _ => rfl
abbrev rTupQ (K : PySem.W.Frag) : List V → Hp → VK → Prop := fun xs H Q => ∃ p ys, xs = [.ref p] ∧ ((SqL K H p ys ∧ ∀ l, H l = none → Q (.ref l) (upd H l (.tup ys))) ∨ (SqT K H p ys ∧ Q (.ref p) H))
theorem s_retTL {σ : L2.St} {H : Hp} {te : TE} {xs : List V} {D : Ends} (h : EvL te σ H xs) (k : ∀ p H1, H p = none → Ex H H1 → H1 p = some (.tup xs) → D.rt (.ref p) H1) : tRet (tCB (rTupQ K) (tCons te tNil)) D σ H :=
  h H (Ex.refl H) _ fun D' H2 hD e2 h2 => ⟨D', _, rfl, .inl ⟨SqL.of h2, fun p hp => k p _ (fresh_back e2 hp) (e2.trans (Ex.new hp)) upd_same⟩⟩
theorem bits_some (d : Int) (d0 : 0 ≤ d) (d1 : d < 511) : ∃ i, i < 9 ∧ decide (V.int (((1 + d) / (2 ^ i : Int)).fmod 2) = V.int 1) = true := by
  have key : ∀ n : Fin 511, ∃ i : Fin 9, ((1 + (n.1 : Int)) / (2 ^ i.1 : Int)).fmod 2 = 1 := by decide +kernel
  obtain ⟨i, hi⟩ := key ⟨d.toNat, by omega⟩
  refine ⟨i.1, i.2, decide_eq_true ?_⟩
  have e : ((d.toNat : Nat) : Int) = d := by omega
  rw [← e]
  exact congrArg V.int hi
theorem ok_mem {f : Addr} {fd : FuncData} (F : Fun K "_law_members" "_law_members" lMembers f fd) (B : Bt mg) (D : Dd P wd K mg base fD dD) : FnOk P wd K mg base CX0 4 f fd ["well"] spMem := by
  refine F.ok scMem (fun vs H Q E h => ?_) (fun cdv A outer s H vs Q E hr h => ?_)
  · obtain ⟨wl, rfl, _⟩ := h
    rfl
  obtain ⟨wl, rfl, W, k⟩ := h
  refine ⟨_, pss_cons (ps_set (i := 1) scMem.nd rfl (.inr rfl) (pe_op op_add pe_int (pe_draw D hr (by decide) (by rfl) (pv 0) pe_int)))
    (pss_one (ps_ret (pe_callTy call_tuple_of (by rfl) B.tup boot_tuple' (pa_cons (pe_lc (own := [("k", 2)]) (g := gName 2) rfl scMem.nd (pi_range1 (by rfl) B.range (pa_cons pe_int pa_nil)) (blkOk_by (N := ["well", "bits", "k"]) (sc := defScope lMembers) (by decide +kernel))
      (fun _ _ _ _ _ => pg_name (i := 2) scMem.nd rfl (Or.inl rfl)) (fun _ _ _ _ _ => pts_one (pt_cmpR op_eq (pe_op op_modN (pe_callTy call_int1 (by rfl) B.int boot_int (pa_cons (pe_op op_fdivW (pv 1) (pe_ix (show IxR _ (rIxL K) from ix_list) (pe_lst (pa_cons pe_int (pa_cons pe_int (pa_cons pe_int (pa_cons pe_int (pa_cons pe_int (pa_cons pe_int (pa_cons pe_int (pa_cons pe_int (pa_cons pe_int pa_nil)))))))))) (pv 2) (fun _ _ => rfl))) pa_nil)) pe_int) pe_int (nomark _)))
      (fun _ _ _ _ _ => pv 2)) pa_nil)))), ?_⟩
  refine ⟨_, rfl, wl, 511, rfl, W, by decide, by decide, fun d H1 d0 d1 D1 => ⟨_, _, rfl, rfl, ?_⟩⟩
  have L := el_lcR1 (σ := [some (V.ref wl.w), some (.int (1 + d)), none]) (H := H1) (j := 2) (vs := [2]) (n := 9) (t := tTest (tOp rEq (tOp (rI (fun _ j => j ≠ 0) fun i j => .int (i.fmod j)) (tCB (fun xs H Q => (∃ i, xs = [V.int i] ∧ Q (.int i) H) ∨ ∃ k, xs = [.bl k] ∧ Q (.int (if k then 1 else 0)) H) (tCons (tOp (rI CDivW fun i j => .int (i / j)) (tVar 1) (tOp (rIxL K) (tLst (tCons (tC (.int 1)) (tCons (tC (.int 2)) (tCons (tC (.int 4)) (tCons (tC (.int 8)) (tCons (tC (.int 16)) (tCons (tC (.int 32)) (tCons (tC (.int 64)) (tCons (tC (.int 128)) (tCons (tC (.int 256)) tNil)))))))))) (tVar 2))) tNil)) (tC (.int 2))) (tC (.int 1)))) (te := tVar 2)
    (fun i => decide (V.int (((1 + d) / (2 ^ i : Int)).fmod 2) = V.int 1)) (fun i => .int (i : Int)) (ea_cons ev_c ea_nil) (by decide) (fun _ => rfl) (fun i H2 e2 hi => ?_) (fun i H2 e2 hi _ => ev_var rfl)
  · dsimp only [gName]
    exact s_retTL (K := K) L fun p H2 hp e2 h2 => k _ p _ (bits_some d d0 d1) (D1.free W hp) (D1.same e2) h2
  · have h2 : (0 : Int) < 2 ^ i := by
      have : (0 : Int) < 2 := by decide
      exact Int.pow_pos this
    refine et_test (ev_op (ev_op (ev_cb (ea_cons (ev_op (ev_var rfl) (ev_pick (K := K) (xs := pows) (i := i) (ea_cons ev_c (ea_cons ev_c (ea_cons ev_c (ea_cons ev_c (ea_cons ev_c (ea_cons ev_c (ea_cons ev_c (ea_cons ev_c (ea_cons ev_c ea_nil))))))))) (by decide) (ev_var rfl) (pows_get (by omega))) (rv_I ?_)) ea_nil) fun H3 e3 Q q => .inl ⟨_, rfl, q H3 (Ex.refl H3)⟩) ev_c (rv_I (show (2 : Int) ≠ 0 by decide))) ev_c (rv_eq rfl))
    refine wide_div h2 (b := 20) ?_ (by decide) (by decide)
    have hi9 : i < 9 := by omega
    rw [Int.natAbs_pow]
    exact Nat.pow_lt_pow_right (by decide) (by omega)
end
end Hs
namespace Hs
open PySem PySem.Spec PyProof.Rows L2 Hu Evl
section
variable {P : Program} {wd : World} {K : PySem.W.Frag} {mg : Str → Option Value} {base : Heap} {C : Addr} {fD : Addr} {dD : FuncData}
def lettersZ : Str := "abcdefghijklmnopqrstuvwxyz"
theorem letters_len : (TL.tl lettersZ).length = 26 := by decide +kernel
theorem letters_ok : (TL.tl lettersZ).all lowc = true := by decide +kernel
def spName : Sp := fun vs H Q _ => ∃ wl : WA, vs = [.ref wl.w] ∧ Well H wl ∧ ∀ (z : Str) (H' : Hp), gNam (.str z) = true → Drawn wl H H' → Q (.str z) H'
theorem scName : FnScope ["well", "many", "k"] ["well"] (defScope lName) := ⟨rfl, rfl, rfl, by decide +kernel, rfl, by decide +kernel, by decide +kernel⟩
theorem join_signs : ∀ l : List Str, (∀ z ∈ l, ∃ c, z = ⟨#[c]⟩ ∧ lowc c = true) → (l.map (·.length)).sum = l.length ∧ ((l.map TL.tl).flatten).length = l.length ∧ ∀ c ∈ (l.map TL.tl).flatten, lowc c = true := by
  intro l
  induction l with
  | nil => exact fun _ => ⟨rfl, rfl, fun c hc => by cases hc⟩
  | cons a r ih =>
    intro h
    obtain ⟨i1, i2, i3⟩ := ih fun z hz => h z (List.mem_cons_of_mem _ hz)
    obtain ⟨c, ec, oc⟩ := h a List.mem_cons_self
    subst ec
    refine ⟨?_, ?_, ?_⟩
    · rw [List.map_cons, List.sum_cons, i1, List.length_cons]
      show 1 + r.length = r.length + 1
      omega
    · show (TL.tl (⟨#[c]⟩ : Str) ++ (r.map TL.tl).flatten).length = _
      rw [sgn_tl, List.length_append, i2, List.length_cons]
      show 1 + r.length = r.length + 1
      omega
    · intro b hb
      have hb' : b ∈ TL.tl (⟨#[c]⟩ : Str) ++ (r.map TL.tl).flatten := hb
      rcases List.mem_append.mp hb' with hb | hb
      · rw [sgn_tl] at hb
        rw [List.mem_singleton.mp hb]
        exact oc
      · exact i3 b hb
theorem ok_name {f : Addr} {fd : FuncData} (F : Fun K "_law_name" "_law_name" lName f fd) (B : Bt mg) (D : Dd P wd K mg base fD dD) : FnOk P wd K mg base CX0 4 f fd ["well"] spName := by
  refine F.ok scName (fun vs H Q E h => ?_) (fun cdv A outer s H vs Q E hr h => ?_)
  · obtain ⟨wl, rfl, _⟩ := h
    rfl
  obtain ⟨wl, rfl, W, k⟩ := h
  have GD : FnOk P wd K mg base CX0 3 fD dD ["well", "many"] spDraw := D.ok
  refine ⟨_, pss_cons (ps_set (i := 1) scName.nd rfl (.inl rfl) (pe_op op_add pe_int (pe_draw D hr (by decide) (by rfl) (pv 0) pe_int)))
    (Evl.pss_cut (ps_if (pt_cmpR op_eq (pe_draw D hr (by decide) (by rfl) (pv 0) pe_int) pe_int (nomark _)) (pss_one (ps_set (i := 1) scName.nd rfl (.inl rfl) (pe_op op_add pe_int (pe_draw D hr (by decide) (by rfl) (pv 0) pe_int)))) pss_nil)
    (pss_one (ps_ret (pe_join pe_str (pe_lc (own := [("k", 2)]) (g := gName 2) (tt := tYes) rfl scName.nd (pi_range1 (by rfl) B.range (pa_cons (pv 1) pa_nil)) (blkOk_by (N := ["well", "many", "k"]) (sc := defScope lName) (by decide +kernel))
        (fun _ _ _ _ _ => pg_name (i := 2) scName.nd rfl (Or.inl rfl)) (fun _ _ _ _ _ => pts_nil)
        (fun _ _ _ _ _ => pe_ix ix_str pe_str (pe_call GD hr (by rfl) D.g D.kp D.b .nil pass0 (pa_cons (pv 0) (pa_cons pe_int pa_nil))) (fun _ _ => rfl))))))), ?_⟩
  refine ⟨_, rfl, wl, 2, rfl, W, by decide, by decide, fun d H1 d0 d1 D1 => ⟨_, _, rfl, rfl, ?_⟩⟩
  refine ⟨fun σ' H' => ∃ m : Int, σ' = [some (.ref wl.w), some (.int m), none] ∧ 1 ≤ m ∧ m ≤ 8 ∧ Drawn wl H H', ?_, ?_⟩
  · refine ⟨_, rfl, wl, 4, rfl, D1.well, by decide, by decide, fun d2 H2 e0 e1 D2 => ⟨rfl, _, rfl, ite2 (fun q => ?_) (fun q => ⟨1 + d, rfl, by omega, by omega, D1.trans D2⟩)⟩⟩
    exact ⟨_, rfl, wl, 8, rfl, D2.well, by decide, by decide, fun d3 H3 f0 f1 D3 => ⟨_, _, rfl, rfl, 1 + d3, rfl, by omega, by omega, (D1.trans D2).trans D3⟩⟩
  · rintro σ' H1 ⟨m, rfl, m1, m8, D1⟩
    refine ⟨⟨_, rfl⟩, _, rfl, m, rfl, by omega, by omega, fun D' hD => ?_⟩
    refine lc_range (lo := 0) (n := m.toNat) (fun i H' => Drawn wl H1 H' ∧ ∃ zs : List Str, H' D' = some (.lst (zs.map V.str)) ∧ zs.length = i ∧ ∀ z ∈ zs, ∃ c, z = ⟨#[c]⟩ ∧ lowc c = true)
      ⟨(Drawn.refl D1.well).new hD, [], upd_same, rfl, fun z hz => by cases hz⟩ ?_ ?_
    · rintro i H2 hi ⟨D2, zs, hz, hl, hc⟩
      have nD := (D1.well.ne hD).1
      refine ⟨rfl, _, rfl, wl, 26, rfl, D2.well, by decide, by decide, fun d H3 d0 d1 D3 => ?_⟩
      have hd : d.toNat < (TL.tl lettersZ).length := by
        rw [letters_len]
        omega
      have ho : lowc (TL.tl lettersZ)[d.toNat] = true := List.all_eq_true.mp letters_ok _ (List.getElem_mem hd)
      refine ⟨lettersZ, d, (TL.tl lettersZ)[d.toNat], rfl, rfl, ?_, ?_, zs.map V.str, D3.keep D' _ nD hz, ?_, ?_⟩
      · rw [TL.len_tl] at *
        exact len_fine (by decide +kernel)
      · have e : d = ((d.toNat : Nat) : Int) := by omega
        have hg : (TL.tl lettersZ)[d.toNat]? = some (TL.tl lettersZ)[d.toNat] := List.getElem?_eq_getElem hd
        have := atI_nat hg
        rw [← e] at this
        exact this
      · rw [List.length_map]
        have := bit_line
        unfold bit at this
        omega
      · refine ⟨(D2.trans D3).put D1.well hD, zs ++ [⟨#[(TL.tl lettersZ)[d.toNat]]⟩], ?_, ?_, ?_⟩
        · rw [upd_same, List.map_append]
          rfl
        · rw [List.length_append, hl]
          rfl
        · intro z hz
          rcases List.mem_append.mp hz with hz | hz
          · exact hc z hz
          · exact ⟨_, List.mem_singleton.mp hz, ho⟩
    · rintro H2 ⟨D2, zs, hz, hl, hc⟩
      obtain ⟨s1, s2, s3⟩ := join_signs zs hc
      refine ⟨_, D', zs, rfl, rfl, .inl (SqL.of hz), ?_, k _ _ ?_ (D1.trans D2)⟩
      · show (zs.map (·.length)).sum + zs.length * 0 ≤ 16777216
        omega
      · have e1 : (Txt.join ("" : Str) zs).length = m.toNat := by
          rw [TL.len_tl, join_tl, s2, hl]
        have e2 : (TL.tl (Txt.join ("" : Str) zs)).all lowc = true := by
          rw [join_tl]
          exact List.all_eq_true.mpr s3
        show ((decide (1 ≤ (Txt.join ("" : Str) zs).length) && decide ((Txt.join ("" : Str) zs).length ≤ 8)) && (TL.tl (Txt.join ("" : Str) zs)).all lowc) = true
        rw [e1, e2, decide_eq_true (by omega), decide_eq_true (by omega)]
        rfl
end
end Hs
namespace Hs
open PySem PySem.Spec PyProof.Rows L2 Hu Evl
open Hk (SI ltSI)
abbrev lUnlike : Stmt := topS 93
def ltZ (a b : Str) : Prop := a.cps.toList < b.cps.toList
theorem not_lt_of {a b : Str} (h : ltCps b.cps.toList a.cps.toList = false) : ¬ b.cps.toList < a.cps.toList := by
  rw [ltCps_eq] at h
  exact of_decide_eq_false h
theorem rising_pw : ∀ {l : List Str} {p : Str}, risingS p l = true → (p :: l).Pairwise fun a b => ¬ b.cps.toList < a.cps.toList
  | [], p, _ => List.pairwise_singleton _ _
  | x :: r, p, h => by
    have h' : (!ltCps x.cps.toList p.cps.toList && risingS x r) = true := h
    obtain ⟨h1, h2⟩ := and2 h'
    have n1 := not_lt_of (by simpa using h1)
    have ih := rising_pw h2
    rw [List.pairwise_cons]
    refine ⟨fun y hy => ?_, ih⟩
    rcases List.mem_cons.mp hy with e | hy
    · rw [e]
      exact n1
    · have n2 := (List.pairwise_cons.mp ih).1 y hy
      exact List.not_lt.mpr (List.le_trans (List.not_lt.mp n1) (List.not_lt.mp n2))
theorem sorted_lt {l : List Str} (h : sortedS l = true) (n : l.Nodup) : l.Pairwise ltZ := by
  cases l with
  | nil => exact .nil
  | cons x r =>
    refine ((rising_pw h).and n).imp fun {a b} q => ?_
    rcases Hk.lt_tri a.cps.toList b.cps.toList with z | z | z
    · exact z
    · exact absurd (Hk.str_ext z) q.2
    · exact absurd z q.1
/-- the pairs of integers of these values -/
inductive P2 (H : Hp) : List V → List (Int × Int) → Prop
  | nil : P2 H [] []
  | cons {p : Addr} {k : Int × Int} {vs : List V} {ks : List (Int × Int)} : H p = some (.tup [.int k.1, .int k.2]) → P2 H vs ks → P2 H (.ref p :: vs) (k :: ks)
theorem P2.tups {H H' : Hp} {vs : List V} {ks : List (Int × Int)} (e : ∀ b zs, H b = some (.tup zs) → H' b = some (.tup zs)) (h : P2 H vs ks) : P2 H' vs ks := by
  induction h with
  | nil => exact .nil
  | cons h _ ih => exact .cons (e _ _ h) ih
theorem P2.len {H : Hp} {vs : List V} {ks : List (Int × Int)} (h : P2 H vs ks) : vs.length = ks.length := by
  induction h with
  | nil => rfl
  | cons _ _ ih => rw [List.length_cons, List.length_cons, ih]
theorem P2.snoc {H : Hp} {vs : List V} {ks : List (Int × Int)} {p : Addr} {k : Int × Int} (h : P2 H vs ks) (hp : H p = some (.tup [.int k.1, .int k.2])) : P2 H (vs ++ [.ref p]) (ks ++ [k]) := by
  induction h with
  | nil => exact .cons hp .nil
  | cons h _ ih => exact .cons h ih
theorem P2.get {H : Hp} {vs : List V} {ks : List (Int × Int)} (h : P2 H vs ks) : ∀ {j : Nat} {v : V}, vs[j]? = some v → ∃ p k, v = .ref p ∧ ks[j]? = some k ∧ H p = some (.tup [.int k.1, .int k.2]) := by
  induction h with
  | nil => exact fun e => by simp at e
  | cons h _ ih =>
    intro j v e
    cases j with
    | zero =>
      cases e
      exact ⟨_, _, rfl, rfl, h⟩
    | succ j => exact ih e
def kf (H : Hp) (v : V) : Int × Int := match v with
  | .ref p => match H p with
    | some (.tup [.int i, .int j]) => (i, j)
    | _ => (0, 0)
  | _ => (0, 0)
theorem P2.kf {H : Hp} {vs : List V} {ks : List (Int × Int)} (h : P2 H vs ks) : ks = vs.map (kf H) := by
  induction h with
  | nil => rfl
  | cons h _ ih =>
    rw [List.map_cons, ← ih]
    congr 1
    show _ = match H _ with | some (.tup [.int i, .int j]) => (i, j) | _ => (0, 0)
    rw [h]
theorem P2.of {H : Hp} : ∀ {vs : List V}, (∀ v ∈ vs, ∃ p, v = .ref p ∧ H p = some (.tup [.int (Hs.kf H v).1, .int (Hs.kf H v).2])) → P2 H vs (vs.map (Hs.kf H))
  | [], _ => .nil
  | v :: vs, h => by
    obtain ⟨p, rfl, hp⟩ := h v (List.mem_cons_self ..)
    exact .cons hp (P2.of fun u hu => h u (List.mem_cons_of_mem _ hu))
theorem shp_list {ds : List PyData} (h : ∀ d ∈ ds, d.canLay0 = true ∧ d.depth ≤ 5) : SeqAt.shaped (.list ds) = true := by
  have h1 : PyData.canLayAll0 ds = true := by
    induction ds with
    | nil => rfl
    | cons d ds ih =>
      simp only [PyData.canLayAll0, Bool.and_eq_true]
      exact ⟨(h d (List.mem_cons_self ..)).1, ih fun x hx => h x (List.mem_cons_of_mem _ hx)⟩
  have h2 : PyData.depthAll ds ≤ 5 := by
    clear h1
    induction ds with
    | nil => simp [PyData.depthAll]
    | cons d ds ih =>
      simp only [PyData.depthAll]
      have := (h d (List.mem_cons_self ..)).2
      have := ih fun x hx => h x (List.mem_cons_of_mem _ hx)
      omega
  show ((PyData.list ds).canLay0 && decide ((PyData.list ds).depth ≤ 64)) = true
  have e1 : (PyData.list ds).canLay0 = true := by
    simp only [PyData.canLay0]
    exact h1
  have e2 : (PyData.list ds).depth ≤ 64 := by
    simp only [PyData.depth]
    omega
  rw [e1, decide_eq_true e2]
  rfl
section
variable {P : Program} {wd : World} {K : PySem.W.Frag} {mg : Str → Option Value} {base : Heap} {C : Addr}
theorem scUn : FnScope ["things", "found", "thing"] ["things"] (defScope lUnlike) := ⟨rfl, rfl, rfl, by decide +kernel, rfl, by decide +kernel, by decide +kernel⟩
/-! ### texts -/
theorem dp_strs {H : Hp} : ∀ zs : List Str, DpAll K H (zs.map V.str) (zs.map PyData.str)
  | [] => .nil
  | z :: zs => .cons (.str z) (dp_strs zs)
theorem any_strs (zs : List Str) (z : Str) : ((zs.map PyData.str).any fun d => PyData.eqv d (.str z)) = decide (z ∈ zs) := by
  induction zs with
  | nil => rfl
  | cons x zs ih =>
    rw [List.map_cons, List.any_cons, ih]
    have e : PyData.eqv (.str x) (.str z) = decide (x = z) := by
      simp only [PyData.eqv]
      by_cases q : x = z
      · rw [q]
        simp
      · rw [decide_eq_false q]
        exact beq_eq_false_iff_ne.mpr q
    rw [e]
    by_cases q : x = z
    · simp [q]
    · simp [q, Ne.symm q, fun e : z = x => q e.symm]
theorem rv_notStr {H : Hp} {l : Addr} {zs : List Str} {z : Str} (hl : H l = some (.lst (zs.map V.str))) (hz : ∀ x ∈ zs, PyData.strOk x = true) (h1 : PyData.strOk z = true) : RV (rNotInD K) (.str z) (.ref l) H (.bl (!decide (z ∈ zs))) := fun H1 e Q q =>
  ⟨_, _, .str z, .lst (sq_of (e _ _ hl)) (dp_strs zs), by
    show ((PyData.str z).canLay0 && decide ((PyData.str z).depth ≤ 64)) = true
    simp [PyData.canLay0, PyData.depth, h1], shp_list fun d hd => by
    obtain ⟨x, hx, rfl⟩ := List.mem_map.mp hd
    exact ⟨by simp [PyData.canLay0, hz x hx], by simp [PyData.depth]⟩, by
    rw [any_strs]
    exact q H1 (Ex.refl H1)⟩
def spUnS : Sp := fun vs H Q _ => ∃ (a : Addr) (zs : List Str), vs = [.ref a] ∧ H a = some (.lst (zs.map V.str)) ∧ 1 ≤ zs.length ∧ zs.length ≤ 50 ∧ (∀ z ∈ zs, PyData.strOk z = true) ∧
  ∀ (p : Addr) (ys : List Str) H', H p = none → Same H H' → H' p = some (.lst (ys.map V.str)) → 1 ≤ ys.length → ys.length ≤ zs.length → (∀ y ∈ ys, y ∈ zs) → ys.Pairwise ltZ → Q (.ref p) H'
theorem ok_unS {f : Addr} {fd : FuncData} (F : Fun K "_law_unlike" "_law_unlike" lUnlike f fd) (Z : Bz mg) : FnOk P wd K mg base CX0 2 f fd ["things"] spUnS := by
  refine F.ok scUn (fun vs H Q E h => ?_) (fun cdv A outer s H vs Q E hr h => ?_)
  · obtain ⟨a, zs, rfl, _⟩ := h
    rfl
  obtain ⟨a, zs, rfl, ha, z1, z50, hz, k⟩ := h
  have u65 : ∀ {k : Nat} {A : Around}, Room k A → A.units + 65 < cLine := fun {k A} r => by
    have := r.un
    omega
  refine ⟨_, pss_cons (ps_set (i := 1) scUn.nd rfl (.inl rfl) (pe_lst pa_nil))
    (pss_cons (ps_for PassesOwn.never rfl (pi_list (pv 0)) (pg_name (i := 2) scUn.nd rfl (Or.inl rfl))
      (pss_one (ps_if (pt_cmpR (show OpR _ _ (rNotInD K) from op_notInD (u65 hr)) (pv 2) (pv 1) (by rfl)) (pss_one (ps_expr (pe_bm PySem.F.plainAttrs_list PySem.F.slot_list_append PySem.F.type_list_append mt_append (pv 1) (pa_cons (pv 2) pa_nil)))) pss_nil)))
    (pss_one (ps_ret (pe_callB cr_sortedS (by rfl) Z.sort boot_sorted' (pa_cons (pv 1) pa_nil))))), ?_⟩
  refine q_asgL (el_lst ea_nil (by decide)) fun l H1 hl e1 h1 => ?_
  refine q_forL (ev_var rfl) (sq_of (e1 _ _ ha)) (fun i σ' H' => ∃ (x2 : Option V) (fs : List Str), σ' = [some (.ref a), some (.ref l), x2] ∧ Ex H H' ∧ H' l = some (.lst (fs.map V.str)) ∧ fs.length ≤ i ∧ (1 ≤ i → 1 ≤ fs.length) ∧ fs.Nodup ∧ ∀ y ∈ fs, y ∈ zs)
    (fun H2 e2 => ⟨_, [], rfl, e1.trans e2, e2 _ _ h1, Nat.le_refl _, fun h => absurd h (by decide), .nil, fun y hy => by cases hy⟩) (fun i σ' H' _ ⟨x2, fs, _, e, _⟩ => sq_of (e _ _ ha)) ?_ ?_
  · rintro i x σ' H2 hi ⟨x2, fs, rfl, e2, h2, l1, l2, nd, mem⟩
    rw [List.getElem?_map] at hi
    cases hzi : zs[i]? with
    | none => rw [hzi] at hi; cases hi
    | some z =>
      rw [hzi] at hi
      cases hi
      have hzm := List.mem_of_getElem? hzi
      show tIfS _ _ tNext _ [some (V.ref a), some (.ref l), some (.str z)] H2
      refine s_when (et_test (ev_op (ev_var rfl) (ev_var rfl) (rv_notStr h2 (fun y hy => hz y (mem y hy)) (hz z hzm)))) (fun q H3 e3 => ?_) (fun q H3 e3 => ?_)
      · have q' : z ∉ fs := by simpa using q
        refine s_app (K := K) (e3 _ _ h2) (ev_var rfl) (ev_var rfl) (by rw [List.length_map]; have := (List.getElem?_eq_some_iff.mp hzi).1; omega) fun H4 e4 => ⟨_, fs ++ [z], rfl, Ex.mut ((e2.trans e3).trans e4) hl, by rw [upd_same, List.map_append]; rfl, by rw [List.length_append]; show fs.length + 1 ≤ i + 1; omega, fun _ => by rw [List.length_append]; show 1 ≤ fs.length + 1; omega, ?_, ?_⟩
        · rw [List.nodup_append]
          refine ⟨nd, by simp, fun y hy c hc => ?_⟩
          rw [List.mem_singleton] at hc
          subst hc
          exact fun e => q' (e ▸ hy)
        · intro y hy
          rcases List.mem_append.mp hy with h | h
          · exact mem y h
          · rw [List.mem_singleton.mp h]
            exact hzm
      · have q' : z ∈ fs := by simpa using q
        exact ⟨_, fs, rfl, e2.trans e3, e3 _ _ h2, by omega, fun _ => List.length_pos_of_mem q', nd, mem⟩
  · rintro σ' H2 ⟨x2, fs, rfl, e2, h2, l1, l2, nd, mem⟩
    rw [List.length_map] at l1 l2
    refine ⟨.ref l, rfl, l, fs, rfl, sq_of h2, by omega, fun ys p perm hs hp => ?_⟩
    refine k p ys _ (fresh_back e2 hp) (e2.trans (Ex.new hp)) upd_same (by rw [perm.length_eq]; exact l2 z1) (by rw [perm.length_eq]; exact l1) (fun y hy => mem y (perm.mem_iff.mp hy)) (sorted_lt hs (perm.nodup_iff.mpr nd))
end
end Hs
namespace Hs
open PySem PySem.Spec PyProof.Rows L2 Hu Evl
open Hk (SI ltSI)
def ltI2 (a b : Int × Int) : Prop := a.1 < b.1 ∨ (a.1 = b.1 ∧ a.2 < b.2)
theorem P2.dp {K : PySem.W.Frag} {H : Hp} {vs : List V} {ks : List (Int × Int)} (h : P2 H vs ks) : DpAll K H vs (ks.map fun k => PyData.tuple [.int k.1, .int k.2]) := by
  induction h with
  | nil => exact .nil
  | cons h _ ih => exact .cons (dp2 h) ih
theorem any_p2 (ks : List (Int × Int)) (k : Int × Int) : ((ks.map fun k => PyData.tuple [.int k.1, .int k.2]).any fun d => PyData.eqv d (.tuple [.int k.1, .int k.2])) = decide (k ∈ ks) := by
  induction ks with
  | nil => rfl
  | cons x ks ih =>
    rw [List.map_cons, List.any_cons, ih, eqv2]
    have e : (decide (x.1 = k.1) && decide (x.2 = k.2)) = decide (x = k) := by
      by_cases q : x = k
      · rw [q]
        simp
      · rw [decide_eq_false q]
        by_cases q1 : x.1 = k.1
        · rw [decide_eq_true q1, decide_eq_false fun q2 => q (Prod.ext q1 q2)]
          rfl
        · rw [decide_eq_false q1]
          rfl
    rw [e]
    by_cases q : x = k
    · simp [q]
    · simp [q]
      exact fun e => absurd e.symm q
theorem rv_notP2 {K : PySem.W.Frag} {H : Hp} {l p : Addr} {vs : List V} {ks : List (Int × Int)} {k : Int × Int} (hl : H l = some (.lst vs)) (h : P2 H vs ks) (hp : H p = some (.tup [.int k.1, .int k.2])) : RV (rNotInD K) (.ref p) (.ref l) H (.bl (!decide (k ∈ ks))) := fun H1 e Q q =>
  ⟨_, _, dp2 (e _ _ hp), .lst (sq_of (e _ _ hl)) (P2.dp (h.tups fun b zs hb => e _ _ hb)), shp2 _ _, shp_list fun d hd => by
    obtain ⟨x, hx, rfl⟩ := List.mem_map.mp hd
    exact ⟨by simp [PyData.canLay0, PyData.canLayAll0], by simp [PyData.depth, PyData.depthAll]⟩, by
    rw [any_p2]
    exact q H1 (Ex.refl H1)⟩
section
variable {P : Program} {wd : World} {K : PySem.W.Frag} {mg : Str → Option Value} {base : Heap} {C : Addr}
def spUnP : Sp := fun vs H Q _ => ∃ (a : Addr) (xs : List V) (ks : List (Int × Int)), vs = [.ref a] ∧ H a = some (.lst xs) ∧ P2 H xs ks ∧ 1 ≤ ks.length ∧ ks.length ≤ 50 ∧
  ∀ (p : Addr) (ys : List V) (js : List (Int × Int)) H', H p = none → Same H H' → H' p = some (.lst ys) → P2 H' ys js → 1 ≤ js.length → js.length ≤ ks.length → (∀ y ∈ js, y ∈ ks) → js.Pairwise ltI2 → Q (.ref p) H'
theorem ok_unP {f : Addr} {fd : FuncData} (F : Fun K "_law_unlike" "_law_unlike" lUnlike f fd) (Z : Bz mg) : FnOk P wd K mg base CX0 2 f fd ["things"] spUnP := by
  refine F.ok scUn (fun vs H Q E h => ?_) (fun cdv A outer s H vs Q E hr h => ?_)
  · obtain ⟨a, xs, ks, rfl, _⟩ := h
    rfl
  obtain ⟨a, xs, ks, rfl, ha, hp2, z1, z50, k⟩ := h
  have u65 : ∀ {k : Nat} {A : Around}, Room k A → A.units + 65 < cLine := fun {k A} r => by
    have := r.un
    omega
  refine ⟨_, pss_cons (ps_set (i := 1) scUn.nd rfl (.inl rfl) (pe_lst pa_nil))
    (pss_cons (ps_for PassesOwn.never rfl (pi_list (pv 0)) (pg_name (i := 2) scUn.nd rfl (Or.inl rfl))
      (pss_one (ps_if (pt_cmpR (show OpR _ _ (rNotInD K) from op_notInD (u65 hr)) (pv 2) (pv 1) (by rfl)) (pss_one (ps_expr (pe_bm PySem.F.plainAttrs_list PySem.F.slot_list_append PySem.F.type_list_append mt_append (pv 1) (pa_cons (pv 2) pa_nil)))) pss_nil)))
    (pss_one (ps_ret (pe_callB cr_sortedPO (by rfl) Z.sort boot_sorted' (pa_cons (pv 1) pa_nil))))), ?_⟩
  have hlen := hp2.len
  refine q_asgL (el_lst ea_nil (by decide)) fun l H1 hl e1 h1 => ?_
  refine q_forL (ev_var rfl) (sq_of (e1 _ _ ha)) (fun i σ' H' => ∃ (x2 : Option V) (vs : List V) (js : List (Int × Int)), σ' = [some (.ref a), some (.ref l), x2] ∧ Ex H H' ∧ H' l = some (.lst vs) ∧ P2 H' vs js ∧ js.length ≤ i ∧ (1 ≤ i → 1 ≤ js.length) ∧ js.Nodup ∧ ∀ y ∈ js, y ∈ ks)
    (fun H2 e2 => ⟨_, [], [], rfl, e1.trans e2, e2 _ _ h1, .nil, Nat.le_refl _, fun h => absurd h (by decide), .nil, fun y hy => by cases hy⟩) (fun i σ' H' _ ⟨x2, vs, js, _, e, _⟩ => sq_of (e _ _ ha)) ?_ ?_
  · rintro i x σ' H2 hi ⟨x2, vs, js, rfl, e2, h2, p2, l1, l2, nd, mem⟩
    have hi' := (List.getElem?_eq_some_iff.mp hi).1
    obtain ⟨p, z, rfl, hz, hp⟩ := hp2.get hi
    have hzm := List.mem_of_getElem? hz
    have hpx := e2 _ _ hp
    show tIfS _ _ tNext _ [some (V.ref a), some (.ref l), some (.ref p)] H2
    refine s_when (et_test (ev_op (ev_var rfl) (ev_var rfl) (rv_notP2 h2 p2 hpx))) (fun q H3 e3 => ?_) (fun q H3 e3 => ?_)
    · have q' : z ∉ js := by simpa using q
      have lv := p2.len
      refine s_app (K := K) (e3 _ _ h2) (ev_var rfl) (ev_var rfl) (by omega) fun H4 e4 => ⟨_, vs ++ [.ref p], js ++ [z], rfl, Ex.mut ((e2.trans e3).trans e4) hl, upd_same, ?_, by rw [List.length_append]; show js.length + 1 ≤ i + 1; omega, fun _ => by rw [List.length_append]; show 1 ≤ js.length + 1; omega, ?_, ?_⟩
      · have nt : ∀ b zs, H4 b = some (.tup zs) → upd H4 l (.lst (vs ++ [.ref p])) b = some (.tup zs) := fun b zs hb => by
          rw [upd_ne (fun z => by rw [z, e4 _ _ (e3 _ _ h2)] at hb; cases hb)]
          exact hb
        exact ((p2.tups fun b zs hb => e4 _ _ (e3 _ _ hb)).snoc (e4 _ _ (e3 _ _ hpx))).tups nt
      · rw [List.nodup_append]
        refine ⟨nd, by simp, fun y hy c hc => ?_⟩
        rw [List.mem_singleton] at hc
        subst hc
        exact fun e => q' (e ▸ hy)
      · intro y hy
        rcases List.mem_append.mp hy with h | h
        · exact mem y h
        · rw [List.mem_singleton.mp h]
          exact hzm
    · have q' : z ∈ js := by simpa using q
      exact ⟨_, vs, js, rfl, e2.trans e3, e3 _ _ h2, p2.tups (fun b zs hb => e3 _ _ hb), by omega, fun _ => List.length_pos_of_mem q', nd, mem⟩
  · rintro σ' H2 ⟨x2, vs, js, rfl, e2, h2, p2, l1, l2, nd, mem⟩
    rw [hlen] at l1 l2
    have ek := p2.kf
    have hget : ∀ v ∈ vs, ∃ t, v = .ref t ∧ H2 t = some (.tup [.int (Hs.kf H2 v).1, .int (Hs.kf H2 v).2]) := fun v hv => by
      obtain ⟨j, hj⟩ := List.mem_iff_getElem?.mp hv
      obtain ⟨p, z, rfl, hz, hp⟩ := p2.get hj
      refine ⟨p, rfl, ?_⟩
      have : Hs.kf H2 (.ref p) = z := by
        show (match H2 p with | some (.tup [.int i, .int j]) => (i, j) | _ => (0, 0)) = z
        rw [hp]
      rw [this]
      exact hp
    refine ⟨.ref l, rfl, l, vs, Hs.kf H2, rfl, sq_of h2, hget, fun ys p hs hb hp => ?_⟩
    have perm := hb.perm
    have hget2 : ∀ v ∈ ys, ∃ t, v = .ref t ∧ H2 t = some (.tup [.int (Hs.kf H2 v).1, .int (Hs.kf H2 v).2]) := fun v hv => hget v (perm.mem_iff.mp hv)
    have pm : (ys.map (Hs.kf H2)).Perm js := by
      rw [ek]
      exact perm.map _
    have nd2 : (ys.map (Hs.kf H2)).Nodup := pm.nodup_iff.mpr nd
    refine k p ys (ys.map (Hs.kf H2)) _ (fresh_back e2 hp) (e2.trans (Ex.new hp)) upd_same ((P2.of hget2).tups fun b zs hb => Ex.new hp _ _ hb) (by rw [pm.length_eq]; exact l2 z1) (by rw [pm.length_eq]; exact l1) (fun y hy => mem y (pm.mem_iff.mp hy)) ?_
    rw [List.pairwise_map]
    have nd3 : ys.Pairwise fun a b => Hs.kf H2 a ≠ Hs.kf H2 b := List.pairwise_map.mp nd2
    refine (List.Pairwise.and hs nd3).imp fun {a b} q => ?_
    have q1 := SrtO.lexB_no.mp q.1
    by_cases h1 : (Hs.kf H2 a).1 = (Hs.kf H2 b).1
    · refine .inr ⟨h1, ?_⟩
      have : (Hs.kf H2 a).2 ≠ (Hs.kf H2 b).2 := fun h2 => q.2 (Prod.ext h1 h2)
      omega
    · refine .inl ?_
      omega
end
end Hs
namespace Hs
open PySem PySem.Spec PyProof.Rows L2 Hu Evl
section
variable {P : Program} {wd : World} {K : PySem.W.Frag} {mg : Str → Option Value} {base : Heap} {C : Addr} {fD : Addr} {dD : FuncData}
theorem At.drawn {wl : WA} {H H' : Hp} {v : V} {u : U} (D : Drawn wl H H') (h : At wl.w C H v u) : At wl.w C H' v u := h.keep fun b o nb q => D.keep b o nb q
theorem AtL.drawn {wl : WA} {H H' : Hp} {vs : List V} {us : List U} (D : Drawn wl H H') (h : AtL wl.w C H vs us) : AtL wl.w C H' vs us := h.keep fun b o nb q => D.keep b o nb q
/-! ### rows -/
def spRow (C : Addr) : Sp := fun vs H Q _ => ∃ (wl : WA) (L : Addr) (xs : List V) (us : List U), vs = [.ref wl.w, .ref L] ∧ Well H wl ∧ H L = some (.lst xs) ∧ L ≠ wl.w ∧ AtL wl.w C H xs us ∧ 1 ≤ us.length ∧ us.length ≤ 10 ∧ (∀ u ∈ us, Bd u 200 1 0 ∧ gId u = true) ∧
  ∀ (v : V) (u : U) (H' : Hp), Drawn wl H H' → At wl.w C H' v u → Bd u 3000 2 0 → gRow u = true → Q v H'
theorem scRowL : FnScope ["well", "ids", "kind", "many", "k"] ["well", "ids"] (defScope lRow) := ⟨rfl, rfl, rfl, by decide +kernel, rfl, by decide +kernel, by decide +kernel⟩
theorem ok_rowL {f : Addr} {fd : FuncData} (F : Fun K "_law_row" "_law_row" lRow f fd) (B : Bt mg) (D : Dd P wd K mg base fD dD) : FnOk P wd K mg base CX0 4 f fd ["well", "ids"] (spRow C) := by
  refine F.ok scRowL (fun vs H Q E h => ?_) (fun cdv A outer s H vs Q E hr h => ?_)
  · obtain ⟨wl, L, xs, us, rfl, _⟩ := h
    rfl
  obtain ⟨wl, L, xs, us, rfl, W, hL, nL, hl, u1, u10, hb, k⟩ := h
  have GD : FnOk P wd K mg base CX0 3 fD dD ["well", "many"] spDraw := D.ok
  refine ⟨_, pss_cons (ps_set (i := 2) scRowL.nd rfl (.inl rfl) (pe_draw D hr (by decide) (by rfl) (pv 0) pe_int))
    (pss_cons (ps_if (pt_cmpR op_eq (pv 2) pe_int (nomark _)) (pss_one (ps_ret pe_non)) pss_nil)
    (Evl.pss_cut (ps_set (i := 3) scRowL.nd rfl (.inl rfl) (pe_draw D hr (by decide) (by rfl) (pv 0) (pe_ix ix_list (pe_lst (pa_cons pe_int (pa_cons pe_int pa_nil))) (pe_callTy call_int1 (by rfl) B.int boot_int (pa_cons (pe_cmpR op_eq (pv 2) pe_int (nomark _)) pa_nil)) (fun _ _ => rfl))))
    (pss_one (ps_ret (pe_callTy call_tuple_of (by rfl) B.tup boot_tuple' (pa_cons (pe_lc (own := [("k", 4)]) (g := gName 4) (tt := tYes) rfl scRowL.nd (pi_range1 (by rfl) B.range (pa_cons (pv 3) pa_nil)) (blkOk_by (N := ["well", "ids", "kind", "many", "k"]) (sc := defScope lRow) (by decide +kernel))
      (fun _ _ _ _ _ => pg_name (i := 4) scRowL.nd rfl (Or.inl rfl)) (fun _ _ _ _ _ => pts_nil)
      (fun _ _ _ _ _ => pe_ix (show IxR _ (rIxL K) from ix_list) (pv 1) (pe_call GD hr (by rfl) D.g D.kp D.b .nil pass0 (pa_cons (pv 0) (pa_cons (pe_callB (show CallR _ _ (rLenQ K) from call_len_seq) (by rfl) B.len PySem.boot_len (pa_cons (pv 1) pa_nil)) pa_nil))) (fun _ _ => rfl))) pa_nil)))))), ?_⟩
  refine ⟨_, rfl, wl, 5, rfl, W, by decide, by decide, fun d H1 d0 d1 D1 => ⟨_, rfl, rfl, _, rfl, ite2 (fun q => ?_) (fun q => ?_)⟩⟩
  · exact k _ .non H1 D1 .non ⟨by simp only [wt]; omega, Nat.zero_le _, trivial⟩ rfl
  refine ⟨fun σ' H' => ∃ m : Int, σ' = [some (.ref wl.w), some (.ref L), some (.int d), some (.int m), none] ∧ 0 ≤ m ∧ m ≤ 12 ∧ Drawn wl H H', ?_, ?_⟩
  · have go : ∀ (i : Nat) (m : Int), (if decide (V.int d = V.int 1) = true then (1 : Int) else 0) = (i : Int) → ([V.int 4, .int 13] : List V)[i]? = some (.int m) → 0 < m → m ≤ 13 → Ev (tOp (rIxL K) (tLst (tCons (tC (.int 4)) (tCons (tC (.int 13)) tNil))) (tCB (fun xs H Q => (∃ i, xs = [V.int i] ∧ Q (.int i) H) ∨ ∃ k, xs = [.bl k] ∧ Q (.int (if k then 1 else 0)) H) (tCons (tOp rEq (tVar 2) (tC (.int 1))) tNil)))
        [some (V.ref wl.w), some (.ref L), some (.int d), none, none] H1 (.int m) := fun i m ei hm _ _ =>
      ev_pick (K := K) (i := i) (ea_cons ev_c (ea_cons ev_c ea_nil)) (by decide) (ev_is (ev_cb (ea_cons (ev_op (ev_var rfl) ev_c (rv_eq rfl)) ea_nil) fun H3 e3 Q q => .inr ⟨_, rfl, q H3 (Ex.refl H3)⟩) (congrArg V.int ei)) hm
    have fin : ∀ m : Int, 0 < m → m ≤ 13 → Ev (tOp (rIxL K) (tLst (tCons (tC (.int 4)) (tCons (tC (.int 13)) tNil))) (tCB (fun xs H Q => (∃ i, xs = [V.int i] ∧ Q (.int i) H) ∨ ∃ k, xs = [.bl k] ∧ Q (.int (if k then 1 else 0)) H) (tCons (tOp rEq (tVar 2) (tC (.int 1))) tNil)))
        [some (V.ref wl.w), some (.ref L), some (.int d), none, none] H1 (.int m) → ∀ Q' : V → Hp → Prop, (∀ e H2, 0 ≤ e → e < m → Drawn wl H H2 → Q' (.int e) H2) → tCall spDraw [] E0 (tCons (tVar 0) (tCons (tOp (rIxL K) (tLst (tCons (tC (.int 4)) (tCons (tC (.int 13)) tNil))) (tCB (fun xs H Q => (∃ i, xs = [V.int i] ∧ Q (.int i) H) ∨ ∃ k, xs = [.bl k] ∧ Q (.int (if k then 1 else 0)) H) (tCons (tOp rEq (tVar 2) (tC (.int 1))) tNil))) tNil)) [some (V.ref wl.w), some (.ref L), some (.int d), none, none] H1 Q' := fun m m0 m13 ev Q' q' =>
      ⟨_, rfl, ev H1 (Ex.refl H1) _ fun H2 e2 => ⟨wl, m, rfl, D1.well.same e2, m0, by omega, fun e H3 e0 e1 D3 => q' e H3 e0 e1 ((D1.same e2).trans D3)⟩⟩
    by_cases h : d = 1
    · exact fin 13 (by decide) (by decide) (go 1 13 (by rw [h]; rfl) rfl (by decide) (by decide)) _ fun e H2 e0 e1 D2 => ⟨e, rfl, e0, by omega, D2⟩
    · exact fin 4 (by decide) (by decide) (go 0 4 (by rw [decide_eq_false (fun z => h (V.int.inj z))]; rfl) rfl (by decide) (by decide)) _ fun e H2 e0 e1 D2 => ⟨e, rfl, e0, by omega, D2⟩
  · rintro σ' H2 ⟨m, rfl, m0, m12, D2⟩
    refine ⟨_, rfl, m, rfl, by omega, by omega, fun D' hD => ?_⟩
    refine lc_range (lo := 0) (n := m.toNat) (fun i H' => Drawn wl H2 H' ∧ ∃ (vs : List V) (us' : List U), H' D' = some (.lst vs) ∧ vs.length = i ∧ AtL wl.w C H vs us' ∧ BdL us' (i * 202) 1 0 ∧ ∀ u ∈ us', gId u = true)
      ⟨(Drawn.refl D2.well).new hD, [], [], upd_same, rfl, .nil, ⟨by simp [wtL], by simp [depL], trivial⟩, fun u hu => by cases hu⟩ ?_ ?_
    · rintro i H3 hi ⟨D3, vs, us', hz, hv, ha, hbl, hgi⟩
      have nD := (D2.well.ne hD).1
      have hL3 : H3 L = some (.lst xs) := (D2.trans D3).keep L _ nL hL
      have hxl := AtL.length hl
      refine ⟨rfl, _, rfl, _, rfl, _, rfl, L, xs, rfl, .inl (SqL.of hL3), wl, _, rfl, D3.well, by omega, by omega, fun d2 H4 e0 e1 D4 => ?_⟩
      obtain ⟨j, rfl⟩ : ∃ j : Nat, d2 = (j : Int) := ⟨d2.toNat, by omega⟩
      have hj : j < us.length := by omega
      obtain ⟨x, hx, hax⟩ := AtL.get hl (List.getElem?_eq_getElem hj)
      refine ⟨L, xs, _, x, rfl, rfl, SqL.of (D4.keep L _ nL hL3), atI_nat hx, vs, D4.keep D' _ nD hz, ?_, (D3.trans D4).put D2.well hD, vs ++ [x], us' ++ [us[j]], upd_same, ?_, AtL.snoc ha hax, ?_, ?_⟩
      · have := bit_line
        unfold bit at this
        omega
      · rw [List.length_append, hv]
        rfl
      · have := hbl.snoc (hb _ (List.getElem_mem hj)).1
        rw [show (i + 1) * 202 = i * 202 + (200 + 2) by omega]
        exact this
      · intro u hu
        rcases List.mem_append.mp hu with h | h
        · exact hgi u h
        · rw [List.mem_singleton.mp h]
          exact (hb _ (List.getElem_mem hj)).2
    · rintro H3 ⟨D3, vs, us', hz, hv, ha, hbl, hgi⟩
      have DD := D2.trans D3
      refine ⟨D', vs, rfl, .inl ⟨SqL.of hz, fun p hp => k _ (.tup us') _ (DD.new hp) (.tup upd_same (D3.well.ne hp).1 (ex_atl (Ex.new hp) (AtL.drawn DD ha))) ((Bd.tup hbl).mono ?_ (by omega) (Nat.le_refl _)) ?_⟩⟩
      · have : m.toNat ≤ 12 := by omega
        omega
      · show (decide (us'.length ≤ 12) && us'.all gId) = true
        have hle := AtL.length ha
        rw [decide_eq_true (by omega), List.all_eq_true.mpr hgi]
        rfl
end
end Hs
namespace Hs
open PySem PySem.Spec PyProof.Rows L2 Hu Evl
open Hk (SI ltSI)
/-! ### right things are plain -/
theorem gId_pln {u : U} (h : gId u = true) : pln u := by
  obtain ⟨i, j, rfl⟩ := gId_two h
  simp [pln, plnL]
theorem gRow_pln {u : U} (h : gRow u = true) : pln u := by
  cases u with
  | tup us =>
    have h2 : (decide (us.length ≤ 12) && us.all gId) = true := h
    exact plnL_all.mpr fun x hx => gId_pln (List.all_eq_true.mp (and2 h2).2 x hx)
  | non => trivial
  | _ => cases h
theorem gStamp_two {u : U} (h : gStamp u = true) : ∃ i j, u = .tup [.int i, .int j] := by
  cases u with
  | tup us =>
    match us, h with
    | [a, b], h =>
      cases a with
      | int i => cases b with
        | int j => exact ⟨i, j, rfl⟩
        | _ => cases h
      | _ => cases h
  | _ => cases h
theorem gStamp_pln {u : U} (h : gStamp u = true) : pln u := by
  obtain ⟨i, j, rfl⟩ := gStamp_two h
  simp [pln, plnL]
theorem gMembers_pln {u : U} (h : gMembers u = true) : pln u := by
  cases u with
  | tup us =>
    have h2 : (((decide (1 ≤ us.length) && decide (us.length ≤ 9)) && us.all gHome) && ascI (us.map intU)) = true := h
    refine plnL_all.mpr fun x hx => ?_
    have := List.all_eq_true.mp (and2 (and2 h2).1).2 x hx
    cases x with
    | int i => trivial
    | _ => cases this
  | _ => cases h
/-! ### rows in order -/
theorem ascN_all {n : Nat} {lt : Nat → Bool} (h : ∀ k, k + 1 < n → lt k = true) : ascN n lt = true := by
  unfold ascN
  rw [List.all_eq_true]
  intro k hk
  rw [List.mem_range] at hk
  exact h k (by omega)
theorem pw_at {α : Type} {R : α → α → Prop} {xs : List α} {d : α} (h : xs.Pairwise R) {k : Nat} (hk : k + 1 < xs.length) : R (xs.getD k d) (xs.getD (k + 1) d) := by
  rw [getD_some (List.getElem?_eq_getElem (show k < xs.length by omega)), getD_some (List.getElem?_eq_getElem hk)]
  exact List.pairwise_iff_getElem.mp h k (k + 1) (by omega) hk (by omega)
theorem ascZ_pw {zs : List Str} (h : zs.Pairwise ltZ) : ascZ zs = true := ascN_all fun k hk => decide_eq_true (pw_at h hk)
theorem ascK_pw {kss : List (List L2.Key)} (h : kss.Pairwise fun a b => Hk.ltK a b = true) : ascK kss = true := ascN_all fun k hk => pw_at h hk
theorem ltK_i2 {a b : Int × Int} (h : ltI2 a b) : Hk.ltK [.inl a.1, .inl a.2] [.inl b.1, .inl b.2] = true := by
  show (if Hk.kEq (.inl a.1) (.inl b.1) = true then (if Hk.kEq (.inl a.2) (.inl b.2) = true then Hk.ltK [] [] else Hk.kLt (.inl a.2) (.inl b.2)) else Hk.kLt (.inl a.1) (.inl b.1)) = true
  rcases h with h | ⟨h1, h2⟩
  · rw [if_neg (fun e => by have := Sum.inl.inj (Hk.kEq_iff.mp e); omega)]
    exact decide_eq_true h
  · rw [if_pos (Hk.kEq_iff.mpr (by rw [h1])), if_neg (fun e => by have := Sum.inl.inj (Hk.kEq_iff.mp e); omega)]
    exact decide_eq_true h2
theorem ltK_si {a b : SI} (h : ltSI a b = true) : Hk.ltK [.inr a.1, .inl a.2] [.inr b.1, .inl b.2] = true := by
  show (if Hk.kEq (.inr a.1) (.inr b.1) = true then (if Hk.kEq (.inl a.2) (.inl b.2) = true then Hk.ltK [] [] else Hk.kLt (.inl a.2) (.inl b.2)) else Hk.kLt (.inr a.1) (.inr b.1)) = true
  rcases Hk.ltSI_iff.mp h with h | ⟨h1, h2⟩
  · rw [if_neg (fun e => by
      have e1 := Sum.inr.inj (Hk.kEq_iff.mp e)
      rw [e1] at h
      exact List.lt_irrefl _ h)]
    exact decide_eq_true h
  · rw [if_pos (Hk.kEq_iff.mpr (by rw [h1])), if_neg (fun e => by have := Sum.inl.inj (Hk.kEq_iff.mp e); omega)]
    exact decide_eq_true h2
/-! ### members -/
theorem mem9 : ∀ b0 b1 b2 b3 b4 b5 b6 b7 b8 : Bool, (b0 || b1 || b2 || b3 || b4 || b5 || b6 || b7 || b8) = true → gMembers (.tup (((List.range 9).filter fun i => [b0, b1, b2, b3, b4, b5, b6, b7, b8].getD i false).map fun i : Nat => U.int (i : Int))) = true := by
  decide +kernel
def memU (f : Nat → Bool) : U := .tup (((List.range 9).filter f).map fun i : Nat => U.int (i : Int))
theorem memU_ok {f : Nat → Bool} (h : ∃ i, i < 9 ∧ f i = true) : gMembers (memU f) = true := by
  have e : (List.range 9).filter f = (List.range 9).filter fun i => [f 0, f 1, f 2, f 3, f 4, f 5, f 6, f 7, f 8].getD i false := by
    refine List.filter_congr fun i hi => ?_
    rw [List.mem_range] at hi
    match i, hi with
    | 0, _ | 1, _ | 2, _ | 3, _ | 4, _ | 5, _ | 6, _ | 7, _ | 8, _ => rfl
  unfold memU
  rw [e]
  refine mem9 _ _ _ _ _ _ _ _ _ ?_
  obtain ⟨i, hi, hf⟩ := h
  match i, hi with
  | 0, _ | 1, _ | 2, _ | 3, _ | 4, _ | 5, _ | 6, _ | 7, _ | 8, _ => simp [hf]
theorem atl_ints {w C : Addr} {H : Hp} : ∀ ns : List Nat, AtL w C H (ns.map fun i : Nat => V.int (i : Int)) (ns.map fun i : Nat => U.int (i : Int))
  | [] => .nil
  | n :: ns => .cons (.int _) (atl_ints ns)
theorem not_well {H : Hp} {wl : WA} {p : Addr} {xs : List V} (W : Well H wl) (h : H p = some (.tup xs)) : p ≠ wl.w := fun z => by
  obtain ⟨cells, pos, rest, mix, h1, _⟩ := W.ex
  rw [← z, h] at h1
  cases h1
theorem mem_at {C : Addr} {H : Hp} {wl : WA} {p : Addr} {f : Nat → Bool} (W : Well H wl) (h : H p = some (.tup (given 9 f fun i : Nat => V.int (i : Int)))) : At wl.w C H (.ref p) (memU f) := by
  refine .tup h (not_well W h) ?_
  unfold given
  exact atl_ints _
theorem tidy_int {i : Int} (h : i.natAbs < 2 ^ 60) : tidy 0 (.int i) := by
  simp only [tidy]
  omega
theorem memU_bd (f : Nat → Bool) : Bd (memU f) 800 1 0 := by
  have hl : ((List.range 9).filter f).length ≤ 9 := by
    have := List.length_filter_le f (List.range 9)
    rwa [List.length_range] at this
  have key : ∀ ns : List Nat, (∀ n ∈ ns, n < 9) → wtL (ns.map fun i : Nat => U.int (i : Int)) = 82 * ns.length ∧ depL (ns.map fun i : Nat => U.int (i : Int)) = 0 ∧ tidyL 0 (ns.map fun i : Nat => U.int (i : Int)) := by
    intro ns
    induction ns with
    | nil => exact fun _ => ⟨rfl, rfl, trivial⟩
    | cons n ns ih =>
      intro h
      obtain ⟨i1, i2, i3⟩ := ih fun x hx => h x (List.mem_cons_of_mem _ hx)
      have := h n (List.mem_cons_self ..)
      refine ⟨?_, ?_, ?_, i3⟩
      · simp only [List.map_cons, wtL, i1, List.length_cons, wt]
        omega
      · simp only [List.map_cons, depL, i2, dep]
        omega
      · exact tidy_int (by omega)
  obtain ⟨k1, k2, k3⟩ := key ((List.range 9).filter f) fun n hn => by
    have := (List.mem_filter.mp hn).1
    rwa [List.mem_range] at this
  unfold memU
  refine ⟨?_, ?_, ?_⟩
  · simp only [wt, k1]
    omega
  · simp only [dep, k2]
    omega
  · simpa only [tidy] using k3
theorem pair_bd {i j : Int} (h1 : i.natAbs < 2 ^ 60) (h2 : j.natAbs < 2 ^ 60) : Bd (.tup [.int i, .int j]) 200 1 0 := by
  refine ⟨?_, ?_, ?_⟩
  · simp only [wt, wtL]
    omega
  · simp only [dep, depL]
    omega
  · simp only [tidy, tidyL]
    exact ⟨by omega, by omega, trivial⟩
end Hs
namespace Hs
open PySem PySem.Spec PyProof.Rows L2 Hu Evl
open Hk (SI ltSI)
abbrev lHeads : Stmt := topS 98
abbrev lBlocks : Stmt := topS 99
theorem gNamed_pln {u : U} (h : gNamed u = true) : pln u := by
  obtain ⟨h1, h2, h3⟩ := and3 (a := gTO 3 u) (b := gNam (nth u 0)) (c := gStamp (nth u 1) && gRow (nth u 2)) h
  obtain ⟨h4, h5⟩ := and2 h3
  obtain ⟨us, rfl, hl⟩ := gTO_of h1
  match us, hl with
  | [a, b, c], _ =>
    obtain ⟨z, rfl⟩ := gNam_str (u := a) h2
    exact ⟨trivial, gStamp_pln (u := b) h4, gRow_pln (u := c) h5, trivial⟩
theorem gBlk_pln {u : U} (h : gBlk u = true) : pln u := by
  obtain ⟨h1, h2, h3⟩ := and3 h
  obtain ⟨a, b, rfl⟩ := gPair_two h1
  have h3' : gPiece b = true := h3
  have pb : pln b := by
    cases b with
    | str z => trivial
    | _ => cases h3'
  exact ⟨gId_pln (u := a) h2, pb, trivial⟩
def nameU (u : U) : Str := strU (nth u 0)
def idU (u : U) : List L2.Key := keysU (nth u 0)
theorem take_snoc' {α : Type} {xs : List α} {i : Nat} {x : α} (h : xs[i]? = some x) : xs.take (i + 1) = xs.take i ++ [x] := by
  rw [List.take_add_one, h]
  rfl
theorem nam_bd {z : Str} (h : gNam (.str z) = true) : Bd (.str z) 20 0 0 := by
  have h' : ((decide (1 ≤ z.length) && decide (z.length ≤ 8)) && (TL.tl z).all lowc) = true := h
  obtain ⟨h1, h2⟩ := and2 h'
  have h3 := of_decide_eq_true (and2 h1).2
  refine ⟨?_, Nat.zero_le _, ?_⟩
  · simp only [wt]
    omega
  · simp only [tidy]
    intro c hc
    have := List.all_eq_true.mp h2 c hc
    unfold lowc at this
    have q := and2 this
    have q1 := of_decide_eq_true q.1
    have q2 := of_decide_eq_true q.2
    refine .inl ?_
    unfold okS okc
    rw [decide_eq_true (by omega), decide_eq_true (by omega), decide_eq_true (by omega)]
    rfl
theorem nam_ok {z : Str} (h : gNam (.str z) = true) : PyData.strOk z = true := by
  have h' : ((decide (1 ≤ z.length) && decide (z.length ≤ 8)) && (TL.tl z).all lowc) = true := h
  have h2 := List.all_eq_true.mp (and2 h').2
  show z.cps.all (· < 0x110000) = true
  rw [Array.all_eq_true_iff_forall_mem]
  intro c hc
  have := h2 c (Array.mem_toList_iff.mpr hc)
  unfold lowc at this
  have q2 := of_decide_eq_true (and2 this).2
  exact decide_eq_true (by omega)
section
variable {P : Program} {wd : World} {K : PySem.W.Frag} {mg : Str → Option Value} {base : Heap} {C : Addr} {fD : Addr} {dD : FuncData}
/-- the rows that were made stand as they were while the list of them grows -/
theorem atl_put {w : Addr} {H : Hp} {l : Addr} {xs : List V} {o : HO} {vs : List V} {us : List U} (hl : H l = some (.lst xs)) (hp : ∀ u ∈ us, pln u) (h : AtL w C H vs us) : AtL w C (upd H l o) vs us :=
  atl_tups (fun b zs _ hb => by
    rw [upd_ne (fun z => by rw [z, hl] at hb; cases hb)]
    exact hb) (plnL_all.mpr hp) h
/-! ### heads -/
/-- the ids that the law draws: a list of them -/
structure Ids (C : Addr) (wl : WA) (H : Hp) (I : Addr) (xs : List V) (js : List (Int × Int)) : Prop where
  h : H I = some (.lst xs)
  ne : I ≠ wl.w
  p : P2 H xs js
  n : 1 ≤ js.length ∧ js.length ≤ 10
  b : ∀ j ∈ js, 1 ≤ j.1 ∧ j.1 ≤ 99 ∧ 1 ≤ j.2 ∧ j.2 < 2 ^ 60
  st : js.Pairwise ltI2
def idV (k : Int × Int) : U := .tup [.int k.1, .int k.2]
theorem Ids.keep {wl : WA} {H H' : Hp} {I : Addr} {xs : List V} {js : List (Int × Int)} (x : Ids C wl H I xs js) (W : Well H wl) (D : Drawn wl H H') : Ids C wl H' I xs js :=
  ⟨D.keep _ _ x.ne x.h, x.ne, x.p.tups fun b zs hb => D.keep _ _ (not_well W hb) hb, x.n, x.b, x.st⟩
theorem Ids.atl {wl : WA} {H : Hp} {I : Addr} {xs : List V} {js : List (Int × Int)} (x : Ids C wl H I xs js) (W : Well H wl) : AtL wl.w C H xs (js.map idV) := by
  have p := x.p
  clear x
  induction p with
  | nil => exact .nil
  | cons h _ ih => exact .cons (.tup h (not_well W h) (.cons (.int _) (.cons (.int _) .nil))) ih
theorem idV_ok {k : Int × Int} (h : 1 ≤ k.1 ∧ k.1 ≤ 99 ∧ 1 ≤ k.2 ∧ k.2 < 2 ^ 60) : Bd (idV k) 200 1 0 ∧ gId (idV k) = true := ⟨pair_bd (by omega) (by omega), idOk ⟨h.1, h.2.1, h.2.2.1⟩⟩
def spHeads (C : Addr) : Sp := fun vs H Q _ => ∃ (wl : WA) (N I : Addr) (zs : List Str) (xs : List V) (js : List (Int × Int)), vs = [.ref wl.w, .ref N, .ref I] ∧ Well H wl ∧ H N = some (.lst (zs.map V.str)) ∧ N ≠ wl.w ∧ zs.length ≤ 10 ∧ (∀ z ∈ zs, gNam (.str z) = true) ∧ zs.Pairwise ltZ ∧ Ids C wl H I xs js ∧
  ∀ (v : V) (u : U) (H' : Hp), Drawn wl H H' → At wl.w C H' v u → Bd u 41000 4 0 → gHeads u = true → pln u → Q v H'
theorem scHeadsL : FnScope ["well", "names", "ids", "heads", "name", "stamp"] ["well", "names", "ids"] (defScope lHeads) := ⟨rfl, rfl, rfl, by decide +kernel, rfl, by decide +kernel, by decide +kernel⟩
theorem ok_headsL {f fS fR : Addr} {fd dS dR : FuncData} (F : Fun K "_law_heads" "_law_heads" lHeads f fd) (B : Bt mg) (D : Dd P wd K mg base fD dD) (DS : Df K mg "_law_stamp" lStamp ["well"] fS dS) (GS : FnOk P wd K mg base CX0 5 fS dS ["well"] (spPair fun i j => (i = 0 ∧ j = 0) ∨ (1 ≤ i ∧ 1 ≤ j ∧ j ≤ 99)))
    (DR : Df K mg "_law_row" lRow ["well", "ids"] fR dR) (GR : FnOk P wd K mg base CX0 4 fR dR ["well", "ids"] (spRow C)) : FnOk P wd K mg base CX0 6 f fd ["well", "names", "ids"] (spHeads C) := by
  refine F.ok scHeadsL (fun vs H Q E h => ?_) (fun cdv A outer s H vs Q E hr h => ?_)
  · obtain ⟨wl, N, I, zs, xs, js, rfl, _⟩ := h
    rfl
  obtain ⟨wl, N, I, zs, xs, js, rfl, W, hN, nN, z10, hz, hzs, hI, k⟩ := h
  refine ⟨_, pss_cons (ps_set (i := 3) scHeadsL.nd rfl (.inl rfl) (pe_lst pa_nil))
    (pss_cons (ps_for PassesOwn.never rfl (pi_list (pv 1)) (pg_name (i := 4) scHeadsL.nd rfl (Or.inl rfl))
      (pss_one (ps_if (pt_cmpR op_gt (pe_draw D hr (by decide) (by rfl) (pv 0) pe_int) pe_int (nomark _))
        (pss_cons (ps_set (i := 5) scHeadsL.nd rfl (.inl rfl) (pe_call GS hr (by rfl) DS.g DS.F.kp DS.b .nil pass0 (pa_cons (pv 0) pa_nil)))
        (pss_one (ps_expr (pe_bm PySem.F.plainAttrs_list PySem.F.slot_list_append PySem.F.type_list_append mt_append (pv 3) (pa_cons (pe_tup (pa_cons (pv 4) (pa_cons (pv 5) (pa_cons (pe_call GR (hr.mono (by decide)) (by rfl) DR.g DR.F.kp DR.b .nil pass0 (pa_cons (pv 0) (pa_cons (pv 2) pa_nil))) pa_nil)))) pa_nil))))) pss_nil)))
    (pss_one (ps_ret (pe_callTy call_tuple_of (by rfl) B.tup boot_tuple' (pa_cons (pv 3) pa_nil))))), ?_⟩
  refine ⟨sz_of (show (0 : Nat) ≤ 100000 by decide), fun Dl hD => ?_⟩
  have nD := W.ne hD
  show tSeq _ _ _ [some (V.ref wl.w), some (.ref N), some (.ref I), some (.ref Dl), none, none] _
  refine q_forL (K := K) (xs := zs.map V.str) (ev_var rfl) (sq_of (by rw [upd_ne (ne_of_none hN hD)]; exact hN)) (fun i σ' H' => ∃ (x4 x5 : Option V) (vs : List V) (us : List U), σ' = [some (.ref wl.w), some (.ref N), some (.ref I), some (.ref Dl), x4, x5] ∧ Drawn wl H H' ∧ H' Dl = some (.lst vs) ∧ AtL wl.w C H' vs us ∧
      (∀ u ∈ us, gNamed u = true) ∧ BdL us (i * 4000) 3 0 ∧ us.length ≤ i ∧ (us.map nameU).Sublist (zs.take i))
    (fun H2 e2 => ⟨_, _, [], [], rfl, ((Drawn.refl W).new hD).same e2, e2 _ _ upd_same, .nil, fun u hu => (by cases hu), ⟨by simp [wtL], by simp [depL], trivial⟩, Nat.le_refl _, by simp⟩) (fun i σ' H' _ ⟨x4, x5, vs, us, _, D1, _⟩ => sq_of (D1.keep _ _ nN hN)) ?_ ?_
  · rintro i x σ' H1 hi ⟨x4, x5, vs, us, rfl, D1, h1, al, ng, bd, ln, sb⟩
    rw [List.getElem?_map] at hi
    cases hzi : zs[i]? with
    | none => rw [hzi] at hi; cases hi
    | some z =>
      rw [hzi] at hi
      cases hi
      have hi10 : i < zs.length := (List.getElem?_eq_some_iff.mp hzi).1
      have hzn := hz z (List.mem_of_getElem? hzi)
      have tk := take_snoc' hzi
      show tIfS _ _ tNext _ [some (V.ref wl.w), some (.ref N), some (.ref I), some (.ref Dl), some (.str z), x5] H1
      refine ⟨_, rfl, wl, 4, rfl, D1.well, by decide, by decide, fun d H2 d0 d1 D2 => ⟨_, _, rfl, rfl, _, rfl, ite2 (fun q => ?_) (fun q => ?_)⟩⟩
      · refine ⟨_, rfl, wl, rfl, D2.well, fun a b p H3 b1 b2 hR hp D3 h3 => ?_⟩
        dsimp only [gName]
        have D13 := (D1.trans D2).trans D3
        have h13 : H3 Dl = some (.lst vs) := D3.keep _ _ nD.1 (D2.keep _ _ nD.1 h1)
        refine ⟨_, rfl, .inl ⟨rfl, vs, sq_of h13⟩, _, rfl, _, rfl, _, rfl, _, rfl, wl, I, xs, js.map idV, rfl, D3.well, (hI.keep W D13).h, hI.ne, (hI.keep W D13).atl D3.well, by rw [List.length_map]; exact hI.n.1, by rw [List.length_map]; exact hI.n.2, fun u hu => ?_, fun v u H4 D4 hv bv gv => ⟨sz_of (show (3 : Nat) ≤ 100000 by decide), fun t ht => ?_⟩⟩
        · obtain ⟨j, hj, rfl⟩ := List.mem_map.mp hu
          exact idV_ok (hI.b j hj)
        · have D14 := D13.trans D4
          have h14 : H4 Dl = some (.lst vs) := D4.keep _ _ nD.1 h13
          have h15 : upd H4 t (.tup [.str z, .ref p, v]) Dl = some (.lst vs) := by
            rw [upd_ne (ne_of_none h14 ht)]
            exact h14
          have ap : At wl.w C H4 (.ref p) (.tup [.int a, .int b]) := (At.drawn D4 (.tup h3 (not_well D3.well h3) (.cons (.int a) (.cons (.int b) .nil))))
          have hS := stampOk hR
          have gn : gNamed (.tup [.str z, .tup [.int a, .int b], u]) = true := by
            show (decide (3 = 3) && (gNam (.str z) && (gStamp (.tup [.int a, .int b]) && gRow u))) = true
            rw [hzn, hS, gv]
            rfl
          have at5 : At wl.w C (upd H4 t (.tup [.str z, .ref p, v])) (.ref t) (.tup [.str z, .tup [.int a, .int b], u]) := .tup upd_same (D14.well.ne ht).1 (.cons (.str z) (.cons (ex_at (Ex.new ht) ap) (.cons (ex_at (Ex.new ht) hv) .nil)))
          have hlv := AtL.length al
          refine ⟨Dl, vs, .ref t, rfl, rfl, h15, sz_lt (by omega), _, _, vs ++ [.ref t], us ++ [.tup [.str z, .tup [.int a, .int b], u]], rfl, (D14.new ht).put W hD, upd_same, ?_, ?_, ?_, ?_, ?_⟩
          · refine AtL.append (atl_put h15 (fun y hy => gNamed_pln (ng y hy)) (ex_atl (Ex.new ht) (AtL.drawn ((D2.trans D3).trans D4) al))) (atl_put h15 (fun y hy => ?_) (.cons at5 .nil))
            rw [List.mem_singleton.mp hy]
            exact gNamed_pln gn
          · intro y hy
            rcases List.mem_append.mp hy with h | h
            · exact ng y h
            · rw [List.mem_singleton.mp h]
              exact gn
          · have b3 : Bd (.tup [.str z, .tup [.int a, .int b], u]) 3998 3 0 := by
              have n1 := nam_bd hzn
              have n2 := pair_bd b1 b2
              refine ⟨?_, ?_, ?_⟩
              · have := n1.w
                have := n2.w
                have := bv.w
                simp only [wt, wtL] at *
                omega
              · have := n1.d
                have := n2.d
                have := bv.d
                simp only [dep, depL] at *
                omega
              · simp only [tidy, tidyL]
                have c2 := n2.c
                simp only [tidy, tidyL] at c2
                exact ⟨by simpa only [tidy] using n1.c, c2, bv.c, trivial⟩
            have := bd.snoc b3
            rw [show (i + 1) * 4000 = i * 4000 + (3998 + 2) by omega]
            exact this
          · rw [List.length_append]
            show us.length + 1 ≤ i + 1
            omega
          · rw [tk, List.map_append]
            exact sb.append (List.Sublist.refl _)
      · exact ⟨_, _, vs, us, rfl, D1.trans D2, D2.keep _ _ nD.1 h1, AtL.drawn D2 al, ng, bd.mono (by omega) (Nat.le_refl _) (Nat.le_refl _), by omega, by rw [tk]; exact sb.trans (List.sublist_append_left _ _)⟩
  · rintro σ' H1 ⟨x4, x5, vs, us, rfl, D1, h1, al, ng, bd, ln, sb⟩
    rw [List.length_map] at bd ln sb
    rw [List.take_length] at sb
    refine ⟨_, rfl, Dl, vs, rfl, .inl ⟨sq_of h1, fun l hl => k _ (.tup us) _ (D1.new hl) (.tup upd_same (D1.well.ne hl).1 (ex_atl (Ex.new hl) al)) ((Bd.tup bd).mono (by omega) (by decide) (Nat.le_refl _)) ?_ (plnL_all.mpr fun u hu => gNamed_pln (ng u hu))⟩⟩
    show (us.all gNamed && ascZ (us.map nameU)) = true
    rw [List.all_eq_true.mpr ng, ascZ_pw (hzs.sublist sb)]
    rfl
end
end Hs
namespace Hs
open PySem PySem.Spec PyProof.Rows L2 Hu Evl
open Hk (SI ltSI)
section
variable {P : Program} {wd : World} {K : PySem.W.Frag} {mg : Str → Option Value} {base : Heap} {C : Addr} {fD : Addr} {dD : FuncData}
theorem P2.at_ {H : Hp} {xs : List V} {js : List (Int × Int)} (h : P2 H xs js) {i : Nat} {x : V} (hx : xs[i]? = some x) : ∃ p k, x = .ref p ∧ js[i]? = some k ∧ H p = some (.tup [.int k.1, .int k.2]) := h.get hx
def keysI (k : Int × Int) : List L2.Key := [.inl k.1, .inl k.2]
def spBlocks (C : Addr) : Sp := fun vs H Q _ => ∃ (wl : WA) (I : Addr) (m : Int) (xs : List V) (js : List (Int × Int)), vs = [.ref wl.w, .ref I, .int m] ∧ Well H wl ∧ 0 < m ∧ m < 1000 ∧ Ids C wl H I xs js ∧
  ∀ (v : V) (u : U) (H' : Hp), Drawn wl H H' → At wl.w C H' v u → Bd u 3000 4 0 → gBlocks u = true → pln u → Q v H'
theorem scBlocksL : FnScope ["well", "ids", "share", "blocks", "one"] ["well", "ids", "share"] (defScope lBlocks) := ⟨rfl, rfl, rfl, by decide +kernel, rfl, by decide +kernel, by decide +kernel⟩
theorem ok_blocksL {kS : Nat} {f fS : Addr} {fd dS : FuncData} (F : Fun K "_law_blocks" "_law_blocks" lBlocks f fd) (B : Bt mg) (D : Dd P wd K mg base fD dD) (DS : Df K mg "_law_string" sString ["well", "many"] fS dS) (GS : FnOk P wd K mg base CX0 5 fS dS ["well", "many"] spString) :
    FnOk P wd K mg base CX0 6 f fd ["well", "ids", "share"] (spBlocks C) := by
  refine F.ok scBlocksL (fun vs H Q E h => ?_) (fun cdv A outer s H vs Q E hr h => ?_)
  · obtain ⟨wl, I, m, xs, js, rfl, _⟩ := h
    rfl
  obtain ⟨wl, I, m, xs, js, rfl, W, m0, m1, hI, k⟩ := h
  refine ⟨_, pss_cons (ps_set (i := 3) scBlocksL.nd rfl (.inl rfl) (pe_lst pa_nil))
    (pss_cons (ps_for PassesOwn.never rfl (pi_list (pv 1)) (pg_name (i := 4) scBlocksL.nd rfl (Or.inl rfl))
      (pss_one (ps_if (pt_cmpR op_gt (pe_draw D hr (by decide) (by rfl) (pv 0) (pv 2)) pe_int (nomark _))
        (pss_one (ps_expr (pe_bm PySem.F.plainAttrs_list PySem.F.slot_list_append PySem.F.type_list_append mt_append (pv 3) (pa_cons (pe_tup (pa_cons (pv 4) (pa_cons (pe_call GS hr (by rfl) DS.g DS.F.kp DS.b .nil pass0 (pa_cons (pv 0) (pa_cons (pe_op op_add pe_int (pe_draw D hr (by decide) (by rfl) (pv 0) pe_int)) pa_nil))) pa_nil))) pa_nil)))) pss_nil)))
    (pss_one (ps_ret (pe_callTy call_tuple_of (by rfl) B.tup boot_tuple' (pa_cons (pv 3) pa_nil))))), ?_⟩
  refine ⟨sz_of (show (0 : Nat) ≤ 100000 by decide), fun Dl hD => ?_⟩
  have nD := W.ne hD
  have hlen := hI.p.len
  show tSeq _ _ _ [some (V.ref wl.w), some (.ref I), some (.int m), some (.ref Dl), none] _
  refine q_forL (K := K) (xs := xs) (ev_var rfl) (sq_of (by rw [upd_ne (ne_of_none hI.h hD)]; exact hI.h)) (fun i σ' H' => ∃ (x4 : Option V) (vs : List V) (us : List U) (ks : List (Int × Int)), σ' = [some (.ref wl.w), some (.ref I), some (.int m), some (.ref Dl), x4] ∧ Drawn wl H H' ∧ H' Dl = some (.lst vs) ∧ AtL wl.w C H' vs us ∧
      (∀ u ∈ us, gBlk u = true) ∧ BdL us (i * 290) 3 0 ∧ us.length ≤ i ∧ us.map idU = ks.map keysI ∧ ks.Sublist (js.take i))
    (fun H2 e2 => ⟨_, [], [], [], rfl, ((Drawn.refl W).new hD).same e2, e2 _ _ upd_same, .nil, fun u hu => (by cases hu), ⟨by simp [wtL], by simp [depL], trivial⟩, Nat.le_refl _, rfl, by simp⟩) (fun i σ' H' _ ⟨x4, vs, us, ks, _, D1, _⟩ => sq_of (D1.keep _ _ hI.ne hI.h)) ?_ ?_
  · rintro i x σ' H1 hi ⟨x4, vs, us, ks, rfl, D1, h1, al, ng, bd, ln, ek, sb⟩
    obtain ⟨p, j, rfl, hj, hp⟩ := hI.p.get hi
    have hi10 : i < js.length := (List.getElem?_eq_some_iff.mp hj).1
    have hjn := hI.b j (List.mem_of_getElem? hj)
    have tk := take_snoc' hj
    have l10 := hI.n.2
    show tIfS _ _ tNext _ [some (V.ref wl.w), some (.ref I), some (.int m), some (.ref Dl), some (.ref p)] H1
    refine ⟨_, rfl, _, rfl, wl, m, rfl, D1.well, m0, by omega, fun d H2 d0 d1 D2 => ⟨_, _, rfl, rfl, _, rfl, ite2 (fun q => ?_) (fun q => ?_)⟩⟩
    · have D12 := D1.trans D2
      have h12 : H2 Dl = some (.lst vs) := D2.keep _ _ nD.1 h1
      refine ⟨_, rfl, .inl ⟨rfl, vs, sq_of h12⟩, _, rfl, _, rfl, _, rfl, wl, 8, rfl, D2.well, by decide, by decide, fun e H3 e0 e1 D3 => ⟨_, _, rfl, rfl, wl, 1 + e, rfl, D3.well, by omega, by omega, fun z H4 lz hz D4 => ⟨sz_of (show (2 : Nat) ≤ 100000 by decide), fun t ht => ?_⟩⟩⟩
      have D14 := (D12.trans D3).trans D4
      have h14 : H4 Dl = some (.lst vs) := D4.keep _ _ nD.1 (D3.keep _ _ nD.1 h12)
      have h15 : upd H4 t (.tup [.ref p, .str z]) Dl = some (.lst vs) := by
        rw [upd_ne (ne_of_none h14 ht)]
        exact h14
      have hp4 : H4 p = some (.tup [.int j.1, .int j.2]) := D14.keep _ _ (not_well W hp) hp
      have ap : At wl.w C H4 (.ref p) (idV j) := .tup hp4 (not_well D14.well hp4) (.cons (.int _) (.cons (.int _) .nil))
      have zl : z.length ≤ 8 := by omega
      have z1 : 1 ≤ z.length := by omega
      have gp : gPiece (.str z) = true := by
        show (okz z && (decide (1 ≤ z.length) && decide (z.length ≤ 8))) = true
        rw [hz.ok, decide_eq_true z1, decide_eq_true zl]
        rfl
      have gn : gBlk (.tup [idV j, .str z]) = true := by
        show (decide (2 = 2) && (gId (idV j) && gPiece (.str z))) = true
        rw [(idV_ok hjn).2, gp]
        rfl
      have at5 : At wl.w C (upd H4 t (.tup [.ref p, .str z])) (.ref t) (.tup [idV j, .str z]) := .tup upd_same (D14.well.ne ht).1 (.cons (ex_at (Ex.new ht) ap) (.cons (.str z) .nil))
      have hlv := AtL.length al
      refine ⟨Dl, vs, .ref t, rfl, rfl, h15, sz_lt (by omega), _, vs ++ [.ref t], us ++ [.tup [idV j, .str z]], ks ++ [j], rfl, (D14.new ht).put W hD, upd_same, ?_, ?_, ?_, ?_, ?_, ?_⟩
      · refine AtL.append (atl_put h15 (fun y hy => gBlk_pln (ng y hy)) (ex_atl (Ex.new ht) (AtL.drawn ((D2.trans D3).trans D4) al))) (atl_put h15 (fun y hy => ?_) (.cons at5 .nil))
        rw [List.mem_singleton.mp hy]
        exact gBlk_pln gn
      · intro y hy
        rcases List.mem_append.mp hy with h | h
        · exact ng y h
        · rw [List.mem_singleton.mp h]
          exact gn
      · have b3 : Bd (.tup [idV j, .str z]) 288 3 0 := by
          have n2 := (idV_ok hjn).1
          refine ⟨?_, ?_, ?_⟩
          · have := n2.w
            simp only [wt, wtL] at *
            omega
          · have := n2.d
            simp only [dep, depL] at *
            omega
          · simp only [tidy, tidyL]
            exact ⟨n2.c, fun c hc => .inl (hz c hc), trivial⟩
        have := bd.snoc b3
        rw [show (i + 1) * 290 = i * 290 + (288 + 2) by omega]
        exact this
      · rw [List.length_append]
        show us.length + 1 ≤ i + 1
        omega
      · rw [List.map_append, List.map_append, ek]
        rfl
      · rw [tk]
        exact sb.append (List.Sublist.refl _)
    · exact ⟨_, vs, us, ks, rfl, D1.trans D2, D2.keep _ _ nD.1 h1, AtL.drawn D2 al, ng, bd.mono (by omega) (Nat.le_refl _) (Nat.le_refl _), by omega, ek, by rw [tk]; exact sb.trans (List.sublist_append_left _ _)⟩
  · rintro σ' H1 ⟨x4, vs, us, ks, rfl, D1, h1, al, ng, bd, ln, ek, sb⟩
    rw [hlen] at bd ln sb
    rw [List.take_length] at sb
    have l10 := hI.n.2
    refine ⟨_, rfl, Dl, vs, rfl, .inl ⟨sq_of h1, fun l hl => k _ (.tup us) _ (D1.new hl) (.tup upd_same (D1.well.ne hl).1 (ex_atl (Ex.new hl) al)) ((Bd.tup bd).mono (by omega) (by decide) (Nat.le_refl _)) ?_ (plnL_all.mpr fun u hu => gBlk_pln (ng u hu))⟩⟩
    show (us.all gBlk && ascK (us.map idU)) = true
    rw [List.all_eq_true.mpr ng, ek, ascK_pw ?_]
    · rfl
    · rw [List.pairwise_map]
      exact (hI.st.sublist sb).imp fun h => ltK_i2 h
end
end Hs
namespace Hs
open PySem PySem.Spec PyProof.Rows L2 Hu Evl
open Hk (SI ltSI)
abbrev lLeases : Stmt := topS 100
def sortL : List Ls → List Ls
  | [] => []
  | l :: r => insL l.1 l.2 (sortL r)
theorem srt_sortL : ∀ L : List Ls, srt (sortL L)
  | [] => List.Pairwise.nil
  | l :: r => srt_ins (srt_sortL r)
theorem getL_sortL (k : SI) : ∀ L : List Ls, getL (sortL L) k = getL L k
  | [] => rfl
  | l :: r => by
    show getL (insL l.1 l.2 (sortL r)) k = _
    rw [getL_ins, getL_sortL k r, getL_cons]
    by_cases h : k = l.1
    · rw [if_pos h, if_pos h.symm]
    · rw [if_neg h, if_neg fun e => h e.symm]
theorem len_sortL : ∀ L : List Ls, (sortL L).length ≤ L.length
  | [] => Nat.le_refl _
  | l :: r => Nat.le_trans (len_ins _ _ _) (Nat.succ_le_succ (len_sortL r))
theorem mem_of_get {A B : List Ls} (n : ndK A) (h : ∀ k, getL A k = getL B k) : ∀ l ∈ A, l ∈ B := fun l hl => by
  have e := getL_of n hl
  rw [h] at e
  exact getL_mem e
theorem len_of_get {A B : List Ls} (na : ndK A) (nb : ndK B) (hg : ∀ k, getL A k = getL B k) : A.length = B.length := by
  have p : (A.map (·.1)).Perm (B.map (·.1)) := by
    refine (List.perm_ext_iff_of_nodup na nb).mpr fun x => ?_
    have key : ∀ {A B : List Ls}, (∀ k, getL A k = getL B k) → x ∈ A.map (·.1) → x ∈ B.map (·.1) := fun {A B} h m => by
      obtain ⟨l, hl, rfl⟩ := List.mem_map.mp m
      cases g : getL A l.1 with
      | none => exact absurd rfl (getL_none.mp g l hl)
      | some v =>
        rw [h] at g
        exact List.mem_map.mpr ⟨_, getL_mem g, rfl⟩
    exact ⟨key hg, key fun k => (hg k).symm⟩
  have := p.length_eq
  rwa [List.length_map, List.length_map] at this
section
variable {P : Program} {wd : World} {K : PySem.W.Frag} {mg : Str → Option Value} {base : Heap} {C : Addr} {fD : Addr} {dD : FuncData}
/-- tuple([key + held[key] for key in sorted(held)]) -/
theorem ed_order {w : Addr} {σ : L2.St} {H : Hp} {dv j : Nat} {a : Addr} {kvs : List (List L2.Key × V)} {L L' : List Ls} (h0 : σ[dv]? = some (some (.ref a))) (h1 : ∀ x, ((wipe σ [j]).set j (some x))[dv]? = some (some (.ref a))) (h2 : ∀ x, ((wipe σ [j]).set j (some x))[j]? = some (some x))
    (h3 : ∀ x, wipe ((wipe σ [j]).set j (some x)) [j] = wipe σ [j]) (hd : H a = some (.dT kvs)) (dl : Dl H kvs L) (nd : ndK L) (st : srt L') (hg : ∀ k, getL L' k = getL L k) (hz : L.length ≤ 40000) (hw : ∃ o, H w = some o) :
    EvD w C (tCB (rTupO K) (tCons (tLc (iList K (tCB Hk.rSortDT (tCons (tVar dv) tNil))) (gName j) tYes (tOp (rCatA K) (tVar j) (tDGet (tVar dv) (tVar j))) [j]) tNil)) σ H (.tup (L'.map lsU)) := by
  have lenL := len_of_get (srt_nd st) nd hg
  refine ed_tupL hw (lc_DL (K := K) (Rx := fun xs G => ∃ zs : List (Addr × SI), xs = zs.map (fun z => V.ref z.1) ∧ byKeys L (zs.map (·.2)) = L' ∧ ∀ z ∈ zs, G z.1 = some (.tup [.str z.2.1, .int z.2.2])) (fun H0 e Q q => ?_) ?_ ?_ h3 fun xs G0 e0 hR => ?_)
  · refine ⟨_, h0, a, kvs, L.map (·.1), rfl, e _ _ hd, dl.keys, fun zs p hperm hs ht hp => ?_⟩
    refine q p _ _ (Ex.new hp) upd_same ⟨zs, rfl, ?_, fun z hz => Ex.new hp _ _ (ht z hz)⟩
    obtain ⟨b1, b2⟩ := byKeys_srt nd hperm hs
    exact srt_uniq b1 st fun k => (b2 k).trans (hg k).symm
  · rw [List.length_map, lenL]
    exact hz
  · intro u hu
    obtain ⟨l, _, rfl⟩ := List.mem_map.mp hu
    exact lsU_pln l
  · obtain ⟨zs, rfl, hb, ht⟩ := hR
    refine ⟨by rw [List.length_map, List.length_map, ← hb, byKeys_len, List.length_map], fun i x u G hx hu eg => ?_⟩
    rw [List.getElem?_map] at hx hu
    cases e1 : zs[i]? with
    | none => rw [e1] at hx; cases hx
    | some z =>
      rw [e1] at hx
      cases hx
      have hz1 := ht z (List.mem_of_getElem? e1)
      have e2 : L'[i]? = some (z.2, (getL L z.2).getD (0, 0)) := by
        rw [← hb]
        unfold byKeys
        rw [List.getElem?_map, List.getElem?_map, e1]
        rfl
      rw [e2] at hu
      have hu' : lsU (z.2, (getL L z.2).getD (0, 0)) = u := Option.some.inj hu
      subst hu'
      have hm : getL L z.2 = some ((getL L z.2).getD (0, 0)) := by
        have := getL_of (srt_nd st) (List.mem_of_getElem? e2)
        rw [hg] at this
        rw [this]
        rfl
      obtain ⟨p, hv, hp⟩ := dl.vsome hm
      refine fun G1 g1 Q q => ⟨.ref z.1, h2 _, .ref a, h1 _, .ref z.1, h2 _, a, .ref p, rfl, ?_, ?_⟩
      · have := DGet.t (k := Hk.keySI z.2) ((e0.trans (eg.trans g1)) _ _ hd) ((eg.trans g1) _ _ hz1)
        rw [hv] at this
        exact this
      · refine ⟨z.1, p, _, _, rfl, rfl, st_of ((eg.trans g1) _ _ hz1), st_of ((e0.trans (eg.trans g1)) _ _ hp), sz_of (by show (4 : Nat) ≤ 100000; decide), fun h => (by cases h), fun _ h => (by cases h), fun _ _ b hb => ?_⟩
        exact q _ _ (Ex.new hb) (.tup upd_same (new_ne (hw.imp fun o z => (e0.trans (eg.trans g1)) _ _ z) hb) (.cons (.str _) (.cons (.int _) (.cons (.int _) (.cons (.int _) .nil)))))
section
variable {σ : L2.St} {H : Hp} {tp : TE} {tu tz : TS} {D : Ends}
theorem q_forRX {j : Nat} {R : Nat → Hp → Prop} (made : ∀ Q : VK, (∀ n H', R n H' → Q (.int (n : Int)) H') → tp σ H Q) (hn : ∀ n H', R n H' → n ≤ 100000) (Pv : Nat → Nat → L2.St → Hp → Prop) (h0 : ∀ n H', R n H' → Pv n 0 σ H')
    (hs : ∀ n (i : Nat) σ' H', i < n → Pv n i σ' H' → tu { D with nx := Pv n (i + 1), ct := Pv n (i + 1), bk := tz D } (σ'.set j (some (.int (i : Int)))) H') (hd : ∀ n σ' H', Pv n n σ' H' → tz D σ' H') : tSeq (tFor (iRng1 (tCons tp tNil)) (gName j) tu) tz D σ H :=
  made (fun x H1 => tNil σ H1 fun xs H2 => ∃ j' : Int, x :: xs = [.int j'] ∧ -(2 ^ 62) ≤ j' ∧ j' < 2 ^ 62 ∧ _) fun n H1 r => by
    have hb := hn n H1 r
    refine ⟨(n : Int), rfl, by omega, by omega, for_range (D := { D with nx := tz D }) (lo := 0) (n := n) (Pv n) (h0 n H1 r) (fun i σ' H' hi p => ?_) (fun σ' H' p => hd n σ' H' p)⟩
    have e0 : (0 : Int) + (i : Int) = (i : Int) := Int.zero_add _
    show tu { D with nx := Pv n (i + 1), ct := Pv n (i + 1), bk := tz D } (σ'.set j (some (.int ((0 : Int) + (i : Int))))) H'
    rw [e0]
    exact hs n i σ' H' (by omega) p
end
theorem drawn_tups {wl : WA} {H H' : Hp} (W : Well H wl) (D : Drawn wl H H') : ∀ b zs, H b = some (.tup zs) → H' b = some (.tup zs) := fun b zs h => D.keep _ _ (not_well W h) h
/-- what the law's leases are at first -/
structure LsOk (zs : List Str) (l : Ls) : Prop where
  n : l.1.1 ∈ zs
  h : 1 ≤ l.1.2 ∧ l.1.2 ≤ 99
  t : 0 ≤ l.2.1 ∧ l.2.1 < 6
  u : 0 ≤ l.2.2 ∧ l.2.2 < 10 ^ 12
def spLs (C : Addr) : Sp := fun vs H Q _ => ∃ (wl : WA) (N : Addr) (zs : List Str) (c : Int), vs = [.ref wl.w, .ref N, .int c] ∧ Well H wl ∧ H N = some (.lst (zs.map V.str)) ∧ N ≠ wl.w ∧ 1 ≤ zs.length ∧ zs.length ≤ 10 ∧ 0 ≤ c ∧ c < 10 ^ 11 ∧
  ∀ (v : V) (L : List Ls) (H' : Hp), Drawn wl H H' → srt L → L.length ≤ 4 → (∀ l ∈ L, LsOk zs l) → At wl.w C H' v (.tup (L.map lsU)) → Q v H'
theorem scLs : FnScope ["well", "names", "clock", "held", "k", "name", "hand", "talk", "key"] ["well", "names", "clock"] (defScope lLeases) := ⟨rfl, rfl, rfl, by decide +kernel, rfl, by decide +kernel, by decide +kernel⟩
set_option maxHeartbeats 1000000 in
theorem ok_leasesL {f : Addr} {fd : FuncData} (F : Fun K "_law_leases" "_law_leases" lLeases f fd) (B : Bt mg) (Z : Bz mg) (D : Dd P wd K mg base fD dD) : FnOk P wd K mg base CX0 4 f fd ["well", "names", "clock"] (spLs C) := by
  refine F.ok scLs (fun vs H Q E h => ?_) (fun cdv A outer s H vs Q E hr h => ?_)
  · obtain ⟨wl, N, zs, c, rfl, _⟩ := h
    rfl
  obtain ⟨wl, N, zs, c, rfl, W, hN, nN, z1, z10, c0, c1, k⟩ := h
  have GD : FnOk P wd K mg base CX0 3 fD dD ["well", "many"] spDraw := D.ok
  refine ⟨_, pss_cons (ps_set (i := 3) scLs.nd rfl (.inr rfl) pe_dnewT)
    (pss_cons (ps_for PassesOwn.never rfl (pi_range1 (by rfl) B.range (pa_cons (pe_draw D hr (by decide) (by rfl) (pv 0) pe_int) pa_nil)) (pg_name (i := 4) scLs.nd rfl (Or.inl rfl))
      (pss_cons (ps_set (i := 5) scLs.nd rfl (.inl rfl) (pe_ix ix_list (pv 1) (pe_call GD hr (by rfl) D.g D.kp D.b .nil pass0 (pa_cons (pv 0) (pa_cons (pe_callB (show CallR _ _ (rLenQ K) from call_len_seq) (by rfl) B.len PySem.boot_len (pa_cons (pv 1) pa_nil)) pa_nil))) (fun _ _ => rfl)))
      (pss_cons (ps_set (i := 6) scLs.nd rfl (.inl rfl) (pe_op op_add pe_int (pe_draw D hr (by decide) (by rfl) (pv 0) (pe_ix ix_list (pe_lst (pa_cons pe_int (pa_cons pe_int pa_nil))) (pe_draw D hr (by decide) (by rfl) (pv 0) pe_int) (fun _ _ => rfl)))))
      (pss_cons (ps_set (i := 7) scLs.nd rfl (.inl rfl) (pe_draw D hr (by decide) (by rfl) (pv 0) pe_int))
      (pss_one (ps_asg (pe_tup (pa_cons (pv 7) (pa_cons (pe_op op_add (pe_callB (call_max2 rfl) (by rfl) B.max boot_max' (pa_cons pe_int (pa_cons (pe_op op_sub (pv 2) pe_int) pa_nil))) (pe_draw D hr (by decide) (by rfl) (pv 0) pe_int)) pa_nil)))
        (pg_sub (pv 3) (pe_tup (pa_cons (pv 5) (pa_cons (pv 6) pa_nil))) (set_dict (room_h1 hr)))))))))
    (pss_one (ps_ret (pe_callTy call_tuple_of (by rfl) B.tup boot_tuple' (pa_cons (pe_lc (own := [("key", 8)]) (g := gName 8) (tt := tYes) rfl scLs.nd (pi_list (pe_callB (Hk.cr_sortDT rfl) (by rfl) Z.sort boot_sorted' (pa_cons (pv 3) pa_nil)))
      (blkOk_by (N := ["well", "names", "clock", "held", "k", "name", "hand", "talk", "key"]) (sc := defScope lLeases) (by decide +kernel)) (fun _ _ _ _ _ => pg_name (i := 8) scLs.nd rfl (Or.inl rfl)) (fun _ _ _ _ _ => pts_nil)
      (fun _ _ _ _ _ => pe_op (show OpR _ _ (rCatA K) from op_catA) (pv 8) (pe_dget (room_h1 hr) (pv 3) (pv 8) (fun _ _ => rfl)))) pa_nil))))), ?_⟩
  refine fun dd hD => ?_
  have nD := W.ne hD
  dsimp only [gName]
  show tSeq _ _ _ [some (V.ref wl.w), some (.ref N), some (.int c), some (.ref dd), none, none, none, none, none] _
  have two : (2 : Nat) ≤ 100000 := by decide
  refine q_forRX (R := fun n H' => n ≤ 3 ∧ Drawn wl H H' ∧ H' dd = some (.dT [])) ?md (fun n H' h => by omega) (fun n i σ' H' => n ≤ 3 ∧ ∃ (x4 x5 x6 x7 : Option V) (kvs : List (List L2.Key × V)) (L : List Ls), σ' = [some (.ref wl.w), some (.ref N), some (.int c), some (.ref dd), x4, x5, x6, x7, none] ∧ Drawn wl H H' ∧ H' dd = some (.dT kvs) ∧ Dl H' kvs L ∧ ndK L ∧ L.length ≤ i ∧ ∀ l ∈ L, LsOk zs l)
    (fun n H' h => ⟨h.1, _, _, _, _, [], [], rfl, h.2.1, h.2.2, .nil, .nil, Nat.le_refl _, fun l hl => by cases hl⟩) ?_ ?_
  case md =>
    refine fun Q q => ⟨_, rfl, wl, 4, rfl, W.same (same_upd hD), by decide, by decide, fun d H2 d0 d1 D2 => ?_⟩
    have := q d.toNat H2 ⟨by omega, ((Drawn.refl W).new hD).trans D2, D2.keep _ _ nD.1 upd_same⟩
    rw [show ((d.toNat : Nat) : Int) = d by omega] at this
    exact this
  · rintro n i σ' H1 hi ⟨hn3, x4, x5, x6, x7, kvs, L, rfl, D1, h1, dl, nd, ln, ok⟩
    show tSeq _ _ _ [some (V.ref wl.w), some (.ref N), some (.int c), some (.ref dd), some (.int (i : Int)), x5, x6, x7, none] H1
    have hN1 : H1 N = some (.lst (zs.map V.str)) := D1.keep _ _ nN hN
    refine ⟨_, rfl, _, rfl, _, rfl, N, zs.map V.str, rfl, .inl (SqL.of hN1), wl, _, rfl, D1.well, by rw [List.length_map]; omega, by rw [List.length_map]; omega, fun d2 H2 e0 e1 D2 => ?_⟩
    rw [List.length_map] at e1
    have hd2 : d2.toNat < zs.length := by omega
    have D12 := D1.trans D2
    have hN2 : H2 N = some (.lst (zs.map V.str)) := D12.keep _ _ nN hN
    refine ⟨N, zs.map V.str, d2, .str zs[d2.toNat], rfl, rfl, SqL.of hN2, ?_, ?_⟩
    · have : atI (zs.map V.str) ((d2.toNat : Nat) : Int) = some (.str zs[d2.toNat]) := atI_nat (by rw [List.getElem?_map, List.getElem?_eq_getElem hd2]; rfl)
      rwa [show ((d2.toNat : Nat) : Int) = d2 by omega] at this
    have hzm : zs[d2.toNat] ∈ zs := List.getElem_mem hd2
    generalize zs[d2.toNat] = z at hzm ⊢
    dsimp only [gName]
    -- the hand
    refine ⟨_, rfl, sz_of two, fun p hp => ⟨_, rfl, wl, 2, rfl, D12.well.same (same_upd hp), by decide, by decide, fun d3 H3 f0 f1 D3 => ?_⟩⟩
    have np := (D12.well.ne hp).1
    have hp3 : H3 p = some (.lst [.int 3, .int 99]) := D3.keep _ _ np upd_same
    have D13 : Drawn wl H H3 := (D12.new hp).trans D3
    have pick : ∃ m : Int, atI ([.int 3, .int 99] : List V) d3 = some (.int m) ∧ 0 < m ∧ m ≤ 99 := by
      have : d3 = 0 ∨ d3 = 1 := by omega
      rcases this with h | h
      · exact ⟨3, by rw [h]; rfl, by decide, by decide⟩
      · exact ⟨99, by rw [h]; rfl, by decide, by decide⟩
    obtain ⟨m, hm, m0, m99⟩ := pick
    refine ⟨p, _, d3, .int m, rfl, rfl, SqL.of hp3, hm, wl, m, rfl, D13.well, m0, by omega, fun d4 H4 g0 g1 D4 => ⟨_, _, rfl, rfl, ?_⟩⟩
    dsimp only [gName]
    have D14 := D13.trans D4
    -- the talk
    refine ⟨_, rfl, wl, 6, rfl, D14.well, by decide, by decide, fun d5 H5 i0 i1 D5 => ?_⟩
    dsimp only [gName]
    have D15 := D14.trans D5
    refine ⟨_, rfl, _, rfl, _, _, rfl, rfl, 0, c - 2, rfl, _, rfl, wl, 12, rfl, D15.well, by decide, by decide, fun d6 H6 j0 j1 D6 => ⟨_, _, rfl, rfl, sz_of two, fun nv hnv => ?_⟩⟩
    have D16 := D15.trans D6
    refine ⟨_, rfl, eu_tup (ea_cons (ev_var rfl) (ea_cons (ev_var rfl) ea_nil)) two _ (Ex.refl _) _ fun b2 H7 hb0 e7 hb2 => ?_⟩
    generalize hmx : (if c - 2 > 0 then c - 2 else 0) = mx
    have mx0 : 0 ≤ mx ∧ mx < 10 ^ 11 := by
      rw [← hmx]
      by_cases h : c - 2 > 0
      · rw [if_pos h]
        omega
      · rw [if_neg h]
        omega
    rw [hmx] at e7 hb0
    have e67 : Ex H6 H7 := (Ex.new hnv).trans e7
    have D17 : Drawn wl H H7 := (D16.new hnv).same e7
    have keepd : ∀ {G G' : Hp}, Drawn wl G G' → G dd = some (.dT kvs) → G' dd = some (.dT kvs) := fun d h => d.keep _ _ nD.1 h
    have hk6 : H6 dd = some (.dT kvs) := keepd D6 (keepd D5 (keepd D4 (keepd D3 (by rw [upd_ne (ne_of_none (keepd D2 h1) hp)]; exact keepd D2 h1))))
    have hk7 : H7 dd = some (.dT kvs) := e67 _ _ hk6
    have t16 : ∀ b ws, H1 b = some (.tup ws) → H7 b = some (.tup ws) := fun b ws hb => by
      have b2 := drawn_tups D1.well D2 _ _ hb
      have b3 := drawn_tups (D12.well.same (same_upd hp)) D3 _ _ (Ex.new hp _ _ b2)
      exact e67 _ _ (drawn_tups D15.well D6 _ _ (drawn_tups D14.well D5 _ _ (drawn_tups D13.well D4 _ _ b3)))
    have lenk : kvs.length < sizeLine := sz_lt (by rw [dl.len]; omega)
    have hnv7 : H7 nv = some (.tup [.int d5, .int (mx + d6)]) := by
      have := e7 _ _ upd_same
      exact this
    refine ⟨dd, _, rfl, DPut.t (k := Hk.keySI (z, 1 + d4)) hk7 hb2 lenk, hn3, _, _, _, _, _, putL L (z, 1 + d4) (d5, mx + d6), rfl, D17.put W hD, upd_same, ?_, ndK_put nd, Nat.le_trans (len_put _ _ _) (by omega), ?_⟩
    · have nt : ∀ b ws, H7 b = some (.tup ws) → upd H7 dd (.dT (putK kvs (Hk.keySI (z, 1 + d4)) (.ref nv))) b = some (.tup ws) := fun b ws hb => by
        rw [upd_ne (fun z => by rw [z, hk7] at hb; cases hb)]
        exact hb
      exact (Dl.put (v := (d5, mx + d6)) nd (dl.tups t16) hnv7).tups nt
    · intro l hl
      have g := getL_of (ndK_put (k := (z, 1 + d4)) (v := (d5, mx + d6)) nd) hl
      rw [getL_put] at g
      by_cases h : l.1 = (z, 1 + d4)
      · rw [if_pos h] at g
        have e2 : l.2 = (d5, mx + d6) := (Option.some.inj g).symm
        refine ⟨by rw [h]; exact hzm, by rw [h]; exact ⟨by show 1 ≤ 1 + d4; omega, by show 1 + d4 ≤ 99; omega⟩, by rw [e2]; exact ⟨i0, i1⟩, by rw [e2]; exact ⟨by show 0 ≤ mx + d6; omega, by show mx + d6 < _; omega⟩⟩
      · rw [if_neg h] at g
        exact ok l (getL_mem g)
  · rintro n σ' H1 ⟨hn3, x4, x5, x6, x7, kvs, L, rfl, D1, h1, dl, nd, ln, ok⟩
    refine (ed_order (K := K) (C := C) (w := wl.w) (dv := 3) (j := 8) rfl (fun _ => rfl) (fun _ => rfl) (fun _ => rfl) h1 dl nd (srt_sortL L) (fun k => getL_sortL k L) (by omega) D1.well.at) H1 (Ex.refl H1) _ fun v H2 e2 a2 => ?_
    exact k v (sortL L) H2 (D1.same e2) (srt_sortL L) (Nat.le_trans (len_sortL L) (by omega)) (fun l hl => ok l (mem_of_get (srt_nd (srt_sortL L)) (fun k => getL_sortL k L) l hl)) a2
end
end Hs
namespace Hs
open PySem PySem.Spec PyProof.Rows L2 Hu Evl
open Hk (SI ltSI)
abbrev lVote : Stmt := topS 101
abbrev lTable : Stmt := topS 102
structure TabPre (zs : List Str) (T : Tb) : Prop where
  c : 0 ≤ T.clock ∧ T.clock < 10 ^ 11
  st : srt T.ls
  len : T.ls.length ≤ 4
  ls : ∀ l ∈ T.ls, LsOk zs l
  p : gStamp T.p = true
  v : gVote T.v = true
  n : (isNon T.n || gMembers T.n) = true
  kp : (T.e = .int (-1) ∧ T.m = .tup [] ∧ T.a = .tup [] ∧ T.h = .tup [] ∧ T.b = .tup []) ∨ (∃ e : Int, T.e = .int e ∧ 0 ≤ e ∧ e < 10 ^ 11 ∧ gMembers T.m = true ∧ gAhead T.a = true ∧ gHeads T.h = true ∧ gBlocks T.b = true)
  bm : Bd T.m 900 4 0
  ba : Bd T.a 900 4 0
  bh : Bd T.h 41000 4 0
  bb : Bd T.b 3000 4 0
  bp : Bd T.p 200 4 0
  bv : Bd T.v 1100 4 0
  bn : Bd T.n 900 4 0
  pl : pln T.m ∧ pln T.a ∧ pln T.h ∧ pln T.b ∧ pln T.p ∧ pln T.v ∧ pln T.n
theorem nil_bd : Bd (.tup []) 900 4 0 := ⟨by simp [wt, wtL], by simp [dep, depL], by simp [tidy, tidyL]⟩
theorem non_bd : Bd .non 900 4 0 := ⟨by simp [wt], by simp [dep], trivial⟩
section
variable {P : Program} {wd : World} {K : PySem.W.Frag} {mg : Str → Option Value} {base : Heap} {C : Addr} {fD : Addr} {dD : FuncData}
abbrev spStampL : Sp := spPair fun i j => (i = 0 ∧ j = 0) ∨ (1 ≤ i ∧ 1 ≤ j ∧ j ≤ 99)
def spVote (C : Addr) : Sp := fun vs H Q _ => ∃ wl : WA, vs = [.ref wl.w] ∧ Well H wl ∧ ∀ (v : V) (u : U) (H' : Hp), Drawn wl H H' → At wl.w C H' v u → Bd u 1100 4 0 → gVote u = true → pln u → Q v H'
theorem scVoteL : FnScope ["well", "ballot"] ["well"] (defScope lVote) := ⟨rfl, rfl, rfl, by decide +kernel, rfl, by decide +kernel, by decide +kernel⟩
theorem ok_voteL {f fS fM : Addr} {fd dS dM : FuncData} (F : Fun K "_law_vote" "_law_vote" lVote f fd) (D : Dd P wd K mg base fD dD) (DS : Df K mg "_law_stamp" lStamp ["well"] fS dS) (GS : FnOk P wd K mg base CX0 5 fS dS ["well"] spStampL)
    (DM : Df K mg "_law_members" lMembers ["well"] fM dM) (GM : FnOk P wd K mg base CX0 4 fM dM ["well"] spMem) : FnOk P wd K mg base CX0 6 f fd ["well"] (spVote C) := by
  refine F.ok scVoteL (fun vs H Q E h => ?_) (fun cdv A outer s H vs Q E hr h => ?_)
  · obtain ⟨wl, rfl, _⟩ := h
    rfl
  obtain ⟨wl, rfl, W, k⟩ := h
  refine ⟨_, pss_cons (ps_if (pt_cmpR op_eq (pe_draw D hr (by decide) (by rfl) (pv 0) pe_int) pe_int (nomark _)) (pss_one (ps_ret pe_non)) pss_nil)
    (pss_cons (ps_set (i := 1) scVoteL.nd rfl (.inl rfl) (pe_call GS hr (by rfl) DS.g DS.F.kp DS.b .nil pass0 (pa_cons (pv 0) pa_nil)))
    (pss_one (ps_ret (pe_tup (pa_cons (pv 1) (pa_cons (pe_call GM (hr.mono (by decide)) (by rfl) DM.g DM.F.kp DM.b .nil pass0 (pa_cons (pv 0) pa_nil)) pa_nil)))))), ?_⟩
  refine ⟨_, rfl, wl, 2, rfl, W, by decide, by decide, fun d H1 d0 d1 D1 => ⟨rfl, _, rfl, ite2 (fun q => ?_) (fun q => ?_)⟩⟩
  · exact k _ .non H1 D1 .non (non_bd.mono (by decide) (Nat.le_refl _) (Nat.le_refl _)) rfl trivial
  refine ⟨_, rfl, wl, rfl, D1.well, fun i j p H2 b1 b2 hR hp D2 h2 => ?_⟩
  dsimp only [gName]
  refine ⟨_, rfl, _, rfl, wl, rfl, D2.well, fun g p3 H3 hg hp3 D3 h3 => ⟨sz_of (show (2 : Nat) ≤ 100000 by decide), fun t ht => ?_⟩⟩
  have D13 := (D1.trans D2).trans D3
  have hS := stampOk hR
  have hM := memU_ok hg
  have a1 : At wl.w C H3 (.ref p) (.tup [.int i, .int j]) := At.drawn D3 (.tup h2 (not_well D2.well h2) (.cons (.int i) (.cons (.int j) .nil)))
  refine k _ (.tup [.tup [.int i, .int j], memU g]) _ (D13.new ht) (.tup upd_same (D13.well.ne ht).1 (.cons (ex_at (Ex.new ht) a1) (.cons (ex_at (Ex.new ht) (mem_at D3.well h3)) .nil))) ?_ ?_ ?_
  · have n1 := pair_bd b1 b2
    have n2 := memU_bd g
    refine ⟨?_, ?_, ?_⟩
    · have := n1.w
      have := n2.w
      simp only [wt, wtL] at *
      omega
    · have := n1.d
      have := n2.d
      simp only [dep, depL] at *
      omega
    · simp only [tidy, tidyL]
      have c1 := n1.c
      simp only [tidy, tidyL] at c1
      exact ⟨c1, n2.c, trivial⟩
  · show (false || (gStamp (.tup [.int i, .int j]) && gMembers (memU g))) = true
    rw [hS, hM]
    rfl
  · exact ⟨gStamp_pln hS, gMembers_pln hM, trivial⟩
/-! ### the table -/
def spTab (C : Addr) : Sp := fun vs H Q _ => ∃ (wl : WA) (N I : Addr) (zs : List Str) (xs : List V) (js : List (Int × Int)), vs = [.ref wl.w, .ref N, .ref I] ∧ Well H wl ∧ H N = some (.lst (zs.map V.str)) ∧ N ≠ wl.w ∧ 1 ≤ zs.length ∧ zs.length ≤ 10 ∧ (∀ z ∈ zs, gNam (.str z) = true) ∧ zs.Pairwise ltZ ∧ Ids C wl H I xs js ∧
  ∀ (v : V) (T : Tb) (H' : Hp), Drawn wl H H' → TabPre zs T → At wl.w C H' v (tabU T) → Q v H'
theorem scTab : FnScope ["well", "names", "ids", "bare", "clock", "leases", "promise", "voted", "later", "epoch", "members", "ahead", "heads", "blocks"] ["well", "names", "ids"] (defScope lTable) := ⟨rfl, rfl, rfl, by decide +kernel, rfl, by decide +kernel, by decide +kernel⟩
/-- [x, a drawn lot of members][a draw] -/
theorem ix_lots {σ : L2.St} {H : Hp} {wl : WA} {tx : TE} {Q : VK} {u0 : U} (h0 : σ[0]? = some (some (.ref wl.w))) (W : Well H wl) (hx : EvD wl.w C tx σ H u0)
    (q : ∀ (v : V) (u : U) (H' : Hp), Drawn wl H H' → At wl.w C H' v u → (u = u0 ∨ ∃ g, u = memU g ∧ gMembers (memU g) = true) → Q v H') :
    tOp (rIxL K) (tLst (tCons tx (tCons (tCall spMem [] E0 (tCons (tVar 0) tNil)) tNil))) (tCall spDraw [] E0 (tCons (tVar 0) (tCons (tC (.int 2)) tNil))) σ H Q := by
  refine hx H (Ex.refl H) _ fun x H0 e0 ax => ⟨_, h0, wl, rfl, W.same e0, fun g p H1 hg hp D1 h1 => ⟨sz_of (show (2 : Nat) ≤ 100000 by decide), fun l hl => ⟨_, h0, wl, 2, rfl, D1.well.same (same_upd hl), by decide, by decide, fun d H2 d0 d1 D2 => ?_⟩⟩⟩
  have D12 : Drawn wl H H2 := ((((Drawn.refl W).same e0).trans D1).new hl).trans D2
  have nl := (D1.well.ne hl).1
  have hl2 : H2 l = some (.lst [x, .ref p]) := D2.keep _ _ nl upd_same
  have d01 : d = 0 ∨ d = 1 := by omega
  rcases d01 with h | h
  · exact ⟨l, _, d, x, rfl, rfl, SqL.of hl2, by rw [h]; rfl, q x u0 H2 D12 (At.drawn D2 (ex_at (Ex.new hl) (At.drawn D1 ax))) (.inl rfl)⟩
  · exact ⟨l, _, d, .ref p, rfl, rfl, SqL.of hl2, by rw [h]; rfl, q _ (memU g) H2 D12 (At.drawn D2 (ex_at (Ex.new hl) (mem_at D1.well h1))) (.inr ⟨g, rfl, memU_ok hg⟩)⟩
set_option maxHeartbeats 1000000 in
theorem ok_tableL {f fN fL fS fV fM fH fB : Addr} {fd dN dL dS dV dM dH dB : FuncData} (F : Fun K "_law_table" "_law_table" lTable f fd) (D : Dd P wd K mg base fD dD) (DN : Df K mg "_law_number" lNumber ["well"] fN dN) (DL : Df K mg "_law_leases" lLeases ["well", "names", "clock"] fL dL) (GL : FnOk P wd K mg base CX0 4 fL dL ["well", "names", "clock"] (spLs C))
    (DS : Df K mg "_law_stamp" lStamp ["well"] fS dS) (GS : FnOk P wd K mg base CX0 5 fS dS ["well"] spStampL) (DV : Df K mg "_law_vote" lVote ["well"] fV dV) (GV : FnOk P wd K mg base CX0 6 fV dV ["well"] (spVote C)) (DM : Df K mg "_law_members" lMembers ["well"] fM dM) (GM : FnOk P wd K mg base CX0 4 fM dM ["well"] spMem)
    (DH : Df K mg "_law_heads" lHeads ["well", "names", "ids"] fH dH) (GH : FnOk P wd K mg base CX0 6 fH dH ["well", "names", "ids"] (spHeads C)) (DB : Df K mg "_law_blocks" lBlocks ["well", "ids", "share"] fB dB) (GB : FnOk P wd K mg base CX0 6 fB dB ["well", "ids", "share"] (spBlocks C)) :
    FnOk P wd K mg base CX0 7 f fd ["well", "names", "ids"] (spTab C) := by
  have GN : FnOk P wd K mg base CX0 4 fN dN ["well"] spNumber := ok_number DN.F D
  refine F.ok scTab (fun vs H Q E h => ?_) (fun cdv A outer s H vs Q E hr h => ?_)
  · obtain ⟨wl, N, I, zs, xs, js, rfl, _⟩ := h
    rfl
  obtain ⟨wl, N, I, zs, xs, js, rfl, W, hN, nN, z1, z10, hz, hzs, hI, k⟩ := h
  refine ⟨_, pss_cons (ps_set (i := 3) scTab.nd rfl (.inl rfl) (pe_cmpR op_eq (pe_draw D hr (by decide) (by rfl) (pv 0) pe_int) pe_int (nomark _)))
    (pss_cons (ps_set (i := 4) scTab.nd rfl (.inl rfl) (pe_call GN (hr.mono (by decide)) (by rfl) DN.g DN.F.kp DN.b .nil pass0 (pa_cons (pv 0) pa_nil)))
    (pss_cons (ps_set (i := 5) scTab.nd rfl (.inl rfl) (pe_call GL (hr.mono (by decide)) (by rfl) DL.g DL.F.kp DL.b .nil pass0 (pa_cons (pv 0) (pa_cons (pv 1) (pa_cons (pv 4) pa_nil)))))
    (pss_cons (ps_set (i := 6) scTab.nd rfl (.inl rfl) (pe_call GS (hr.mono (by decide)) (by rfl) DS.g DS.F.kp DS.b .nil pass0 (pa_cons (pv 0) pa_nil)))
    (pss_cons (ps_set (i := 7) scTab.nd rfl (.inl rfl) (pe_call GV (hr.mono (by decide)) (by rfl) DV.g DV.F.kp DV.b .nil pass0 (pa_cons (pv 0) pa_nil)))
    (pss_cons (ps_set (i := 8) scTab.nd rfl (.inl rfl) (pe_ix ix_list (pe_lst (pa_cons pe_non (pa_cons (pe_call GM (hr.mono (by decide)) (by rfl) DM.g DM.F.kp DM.b .nil pass0 (pa_cons (pv 0) pa_nil)) pa_nil))) (pe_draw D hr (by decide) (by rfl) (pv 0) pe_int) (fun _ _ => rfl)))
    (pss_cons (ps_if (pt_val (pv 3)) (pss_one (ps_ret (pe_tup (pa_cons (pe_un un_neg pe_int) (pa_cons (pe_tup pa_nil) (pa_cons (pe_tup pa_nil) (pa_cons (pv 4) (pa_cons (pe_tup pa_nil) (pa_cons (pe_tup pa_nil) (pa_cons (pv 5) (pa_cons (pv 6) (pa_cons (pv 7) (pa_cons (pv 8) pa_nil))))))))))))) pss_nil)
    (pss_cons (ps_set (i := 9) scTab.nd rfl (.inl rfl) (pe_call GN (hr.mono (by decide)) (by rfl) DN.g DN.F.kp DN.b .nil pass0 (pa_cons (pv 0) pa_nil)))
    (pss_cons (ps_set (i := 10) scTab.nd rfl (.inl rfl) (pe_call GM (hr.mono (by decide)) (by rfl) DM.g DM.F.kp DM.b .nil pass0 (pa_cons (pv 0) pa_nil)))
    (pss_cons (ps_set (i := 11) scTab.nd rfl (.inl rfl) (pe_ix ix_list (pe_lst (pa_cons (pe_tup pa_nil) (pa_cons (pe_call GM (hr.mono (by decide)) (by rfl) DM.g DM.F.kp DM.b .nil pass0 (pa_cons (pv 0) pa_nil)) pa_nil))) (pe_draw D hr (by decide) (by rfl) (pv 0) pe_int) (fun _ _ => rfl)))
    (pss_cons (ps_set (i := 12) scTab.nd rfl (.inl rfl) (pe_call GH (hr.mono (by decide)) (by rfl) DH.g DH.F.kp DH.b .nil pass0 (pa_cons (pv 0) (pa_cons (pv 1) (pa_cons (pv 2) pa_nil)))))
    (pss_cons (ps_set (i := 13) scTab.nd rfl (.inl rfl) (pe_call GB (hr.mono (by decide)) (by rfl) DB.g DB.F.kp DB.b .nil pass0 (pa_cons (pv 0) (pa_cons (pv 2) (pa_cons pe_int pa_nil)))))
    (pss_one (ps_ret (pe_tup (pa_cons (pv 9) (pa_cons (pv 10) (pa_cons (pv 11) (pa_cons (pv 4) (pa_cons (pv 12) (pa_cons (pv 13) (pa_cons (pv 5) (pa_cons (pv 6) (pa_cons (pv 7) (pa_cons (pv 8) pa_nil)))))))))))))))))))))))), ?_⟩
  refine ⟨_, rfl, wl, 8, rfl, W, by decide, by decide, fun d H1 d0 d1 D1 => ⟨rfl, ?_⟩⟩
  dsimp only [gName]
  refine ⟨_, rfl, wl, rfl, D1.well, fun c H2 c0 c1 D2' => ?_⟩
  have D2 := D1.trans D2'
  dsimp only [gName]
  refine ⟨_, rfl, _, rfl, _, rfl, wl, N, zs, c, rfl, D2.well, D2.keep _ _ nN hN, nN, z1, z10, c0, c1, fun v5 L H3 D3' st ln lok a5 => ?_⟩
  have D3 := D2.trans D3'
  dsimp only [gName]
  refine ⟨_, rfl, wl, rfl, D3.well, fun i j p H4 b1 b2 hR hp D4' h4 => ?_⟩
  have D4 := D3.trans D4'
  dsimp only [gName]
  refine ⟨_, rfl, wl, rfl, D4.well, fun v7 u7 H5 D5' a7 b7 g7 p7 => ?_⟩
  have D5 := D4.trans D5'
  dsimp only [gName]
  refine ix_lots (K := K) (C := C) (wl := wl) rfl D5.well (ed_ev ev_c .non) fun v8 u8 H6 D6' a8 h8 => ?_
  have D6 := D5.trans D6'
  dsimp only [gName]
  have hS := stampOk hR
  have a6 : At wl.w C H4 (.ref p) (.tup [.int i, .int j]) := .tup h4 (not_well D4.well h4) (.cons (.int i) (.cons (.int j) .nil))
  have g8 : (isNon u8 || gMembers u8) = true ∧ Bd u8 900 4 0 ∧ pln u8 := by
    rcases h8 with rfl | ⟨g, rfl, hg⟩
    · exact ⟨rfl, non_bd, trivial⟩
    · exact ⟨by rw [hg]; simp, (memU_bd g).mono (by decide) (by decide) (Nat.le_refl _), gMembers_pln hg⟩
  have ten : (10 : Nat) ≤ 100000 := by decide
  have x5 := At.drawn (((D4'.trans D5').trans D6')) a5
  have x6 := At.drawn (D5'.trans D6') a6
  have x7 := At.drawn D6' a7
  show tSeq _ _ _ [some (V.ref wl.w), some (.ref N), some (.ref I), some (.bl (decide (V.int d = V.int 0))), some (.int c), some v5, some (.ref p), some v7, some v8, none, none, none, none, none] H6
  refine q_when (b := decide (V.int d = V.int 0)) (et_B (ev_var rfl)) (fun q H7 e7 => ?_) (fun q H7 e7 => ?_)
  · have D7 := D6.same e7
    have hw7 := D7.well.at
    refine (ed_tup (w := wl.w) (C := C) (us := [.int (-1), .tup [], .tup [], .int c, .tup [], .tup [], .tup (L.map lsU), .tup [.int i, .int j], u7, u8]) hw7
      (eds_cons (ed_ev (ev_un ev_c ru_neg) (.int (-1))) (eds_cons (ed_tup hw7 eds_nil (by decide)) (eds_cons (ed_tup hw7 eds_nil (by decide)) (eds_cons (ed_ev (ev_var rfl) (.int c)) (eds_cons (ed_tup hw7 eds_nil (by decide)) (eds_cons (ed_tup hw7 eds_nil (by decide)) (eds_cons (ed_ev (ev_var rfl) (ex_at e7 x5)) (eds_cons (ed_ev (ev_var rfl) (ex_at e7 x6)) (eds_cons (ed_ev (ev_var rfl) (ex_at e7 x7)) (eds_cons (ed_ev (ev_var rfl) (ex_at e7 a8)) eds_nil)))))))))) ten) H7 (Ex.refl H7) _ fun v H8 e8 a => ?_
    exact k v { e := .int (-1), m := .tup [], a := .tup [], clock := c, h := .tup [], b := .tup [], ls := L, p := .tup [.int i, .int j], v := u7, n := u8 } H8 (D7.same e8)
      ⟨⟨c0, c1⟩, st, ln, lok, hS, g7, g8.1, .inl ⟨rfl, rfl, rfl, rfl, rfl⟩, nil_bd, nil_bd, nil_bd.mono (by decide) (Nat.le_refl _) (Nat.le_refl _), nil_bd.mono (by decide) (Nat.le_refl _) (Nat.le_refl _), (pair_bd b1 b2).mono (Nat.le_refl _) (by decide) (Nat.le_refl _), b7, g8.2.1, trivial, trivial, trivial, trivial, gStamp_pln hS, p7, g8.2.2⟩ a
  · have D7 := D6.same e7
    refine ⟨_, rfl, wl, rfl, D7.well, fun ep H8 p0 p1 D8' => ?_⟩
    have D8 := D7.trans D8'
    dsimp only [gName]
    refine ⟨_, rfl, wl, rfl, D8.well, fun fm pm H9 hfm hpm D9' h9 => ?_⟩
    have D9 := D8.trans D9'
    dsimp only [gName]
    refine ix_lots (K := K) (C := C) (wl := wl) (u0 := .tup []) rfl D9.well (ed_tup D9.well.at eds_nil (by decide)) fun v11 u11 H10 D10' a11 h11 => ?_
    have D10 := D9.trans D10'
    dsimp only [gName]
    refine ⟨_, rfl, _, rfl, _, rfl, wl, N, I, zs, xs, js, rfl, D10.well, D10.keep _ _ nN hN, nN, z10, hz, hzs, hI.keep W D10, fun v12 u12 H11 D11' a12 b12 g12 p12 => ?_⟩
    have D11 := D10.trans D11'
    dsimp only [gName]
    refine ⟨_, rfl, _, rfl, wl, I, 6, xs, js, rfl, D11.well, by decide, by decide, hI.keep W D11, fun v13 u13 H12 D12' a13 b13 g13 p13 => ?_⟩
    have D12 := D11.trans D12'
    dsimp only [gName]
    have hm := memU_ok hfm
    have g11 : gAhead u11 = true ∧ Bd u11 900 4 0 ∧ pln u11 := by
      rcases h11 with rfl | ⟨g, rfl, hg⟩
      · exact ⟨rfl, nil_bd, trivial⟩
      · exact ⟨by unfold gAhead; rw [hg]; simp, (memU_bd g).mono (by decide) (by decide) (Nat.le_refl _), gMembers_pln hg⟩
    have hw12 := D12.well.at
    have E := (((D8'.trans D9').trans D10').trans D11').trans D12'
    have y10 : At wl.w C H12 (.ref pm) (memU fm) := At.drawn ((D10'.trans D11').trans D12') (mem_at D9.well h9)
    refine (ed_tup (w := wl.w) (C := C) (us := [.int ep, memU fm, u11, .int c, u12, u13, .tup (L.map lsU), .tup [.int i, .int j], u7, u8]) hw12
      (eds_cons (ed_ev (ev_var rfl) (.int ep)) (eds_cons (ed_ev (ev_var rfl) y10) (eds_cons (ed_ev (ev_var rfl) (At.drawn (D11'.trans D12') a11)) (eds_cons (ed_ev (ev_var rfl) (.int c)) (eds_cons (ed_ev (ev_var rfl) (At.drawn D12' a12)) (eds_cons (ed_ev (ev_var rfl) a13) (eds_cons (ed_ev (ev_var rfl) (At.drawn E (ex_at e7 x5))) (eds_cons (ed_ev (ev_var rfl) (At.drawn E (ex_at e7 x6))) (eds_cons (ed_ev (ev_var rfl) (At.drawn E (ex_at e7 x7))) (eds_cons (ed_ev (ev_var rfl) (At.drawn E (ex_at e7 a8))) eds_nil)))))))))) ten) H12 (Ex.refl H12) _ fun v H13 e8 a => ?_
    exact k v { e := .int ep, m := memU fm, a := u11, clock := c, h := u12, b := u13, ls := L, p := .tup [.int i, .int j], v := u7, n := u8 } H13 (D12.same e8)
      ⟨⟨c0, c1⟩, st, ln, lok, hS, g7, g8.1, .inr ⟨ep, rfl, p0, p1, hm, g11.1, g12, g13⟩, (memU_bd fm).mono (by decide) (by decide) (Nat.le_refl _), g11.2.1, b12, b13, (pair_bd b1 b2).mono (Nat.le_refl _) (by decide) (Nat.le_refl _), b7, g8.2.1, gMembers_pln hm, g11.2.2, p12, p13, gStamp_pln hS, p7, g8.2.2⟩ a
end
end Hs
namespace Hs
open PySem PySem.Spec PyProof.Rows L2 Hu Evl
open Hk (SI ltSI)
abbrev lStart : Stmt := topS 103
abbrev lKeys : Stmt := topS 105
section
variable {P : Program} {wd : World} {K : PySem.W.Frag} {mg : Str → Option Value} {base : Heap} {C : Addr} {fD : Addr} {dD : FuncData}
def spStart (C : Addr) : Sp := fun vs H Q _ => ∃ wl : WA, vs = [.ref wl.w] ∧ Well H wl ∧ ∀ (p N I : Addr) (zs : List Str) (v : V) (T : Tb) (H' : Hp), Drawn wl H H' → H' p = some (.lst [.ref N, .ref I, v]) → H' N = some (.lst (zs.map V.str)) → N ≠ wl.w → 1 ≤ zs.length → zs.length ≤ 10 →
  (∀ z ∈ zs, gNam (.str z) = true) → TabPre zs T → At wl.w C H' v (tabU T) → Q (.ref p) H'
theorem scStart : FnScope ["well", "k", "names", "ids", "table"] ["well"] (defScope lStart) := ⟨rfl, rfl, rfl, by decide +kernel, rfl, by decide +kernel, by decide +kernel⟩
set_option maxHeartbeats 1000000 in
theorem ok_startL {f fU fN fI fT : Addr} {fd dU dN dI dT : FuncData} (F : Fun K "_law_start" "_law_start" lStart f fd) (B : Bt mg) (D : Dd P wd K mg base fD dD) (DU : Df K mg "_law_unlike" lUnlike ["things"] fU dU) (GS : FnOk P wd K mg base CX0 2 fU dU ["things"] spUnS) (GP : FnOk P wd K mg base CX0 2 fU dU ["things"] spUnP)
    (DN : Df K mg "_law_name" lName ["well"] fN dN) (GN : FnOk P wd K mg base CX0 4 fN dN ["well"] spName) (DI : Df K mg "_law_id" lId ["well"] fI dI) (GI : FnOk P wd K mg base CX0 5 fI dI ["well"] (spPair fun i j => 1 ≤ i ∧ i ≤ 99 ∧ 1 ≤ j)) (DT : Df K mg "_law_table" lTable ["well", "names", "ids"] fT dT)
    (GT : FnOk P wd K mg base CX0 7 fT dT ["well", "names", "ids"] (spTab C)) : FnOk P wd K mg base CX0 8 f fd ["well"] (spStart C) := by
  refine F.ok scStart (fun vs H Q E h => ?_) (fun cdv A outer s H vs Q E hr h => ?_)
  · obtain ⟨wl, rfl, _⟩ := h
    rfl
  obtain ⟨wl, rfl, W, k⟩ := h
  have GN' : FnOk P wd K mg base CX0 7 fN dN ["well"] spName := GN.mono (by decide)
  have GI' : FnOk P wd K mg base CX0 7 fI dI ["well"] (spPair fun i j => 1 ≤ i ∧ i ≤ 99 ∧ 1 ≤ j) := GI.mono (by decide)
  refine ⟨_, pss_cons (ps_set (i := 2) scStart.nd rfl (.inl rfl) (pe_call GS (hr.mono (by decide)) (by rfl) DU.g DU.F.kp DU.b .nil pass0 (pa_cons (pe_lc (own := [("k", 1)]) (g := gName 1) (tt := tYes) rfl scStart.nd (pi_range1 (by rfl) B.range (pa_cons (pe_op op_add pe_int (pe_draw D hr (by decide) (by rfl) (pv 0) pe_int)) pa_nil)) (blkOk_by (N := ["well", "k", "names", "ids", "table"]) (sc := defScope lStart) (by decide +kernel))
      (fun _ _ _ _ _ => pg_name (i := 1) scStart.nd rfl (Or.inl rfl)) (fun _ _ _ _ _ => pts_nil) (fun _ _ _ _ _ => pe_call GN' hr (by rfl) DN.g DN.F.kp DN.b .nil pass0 (pa_cons (pv 0) pa_nil))) pa_nil)))
    (pss_cons (ps_set (i := 3) scStart.nd rfl (.inl rfl) (pe_call GP (hr.mono (by decide)) (by rfl) DU.g DU.F.kp DU.b .nil pass0 (pa_cons (pe_lc (own := [("k", 1)]) (g := gName 1) (tt := tYes) rfl scStart.nd (pi_range1 (by rfl) B.range (pa_cons (pe_op op_add pe_int (pe_draw D hr (by decide) (by rfl) (pv 0) pe_int)) pa_nil)) (blkOk_by (N := ["well", "k", "names", "ids", "table"]) (sc := defScope lStart) (by decide +kernel))
      (fun _ _ _ _ _ => pg_name (i := 1) scStart.nd rfl (Or.inl rfl)) (fun _ _ _ _ _ => pts_nil) (fun _ _ _ _ _ => pe_call GI' hr (by rfl) DI.g DI.F.kp DI.b .nil pass0 (pa_cons (pv 0) pa_nil))) pa_nil)))
    (pss_cons (ps_set (i := 4) scStart.nd rfl (.inl rfl) (pe_call GT hr (by rfl) DT.g DT.F.kp DT.b .nil pass0 (pa_cons (pv 0) (pa_cons (pv 2) (pa_cons (pv 3) pa_nil)))))
    (pss_one (ps_ret (pe_lst (pa_cons (pv 2) (pa_cons (pv 3) (pa_cons (pv 4) pa_nil)))))))), ?_⟩
  -- the names
  refine ⟨_, rfl, wl, 3, rfl, W, by decide, by decide, fun d H1 d0 d1 D1 => ⟨_, _, rfl, rfl, 1 + d, rfl, by omega, by omega, fun Dl hD => ?_⟩⟩
  have nD := (D1.well.ne hD).1
  refine lc_range (lo := 0) (n := (1 + d).toNat) (fun i H' => Drawn wl H H' ∧ Drawn wl H1 H' ∧ ∃ zs : List Str, H' Dl = some (.lst (zs.map V.str)) ∧ zs.length = i ∧ ∀ z ∈ zs, gNam (.str z) = true) ⟨D1.new hD, (Drawn.refl D1.well).new hD, [], upd_same, rfl, fun z hz => (by cases hz)⟩ ?_ ?_
  · rintro i H2 hi ⟨D2, D2', zs, hz, hl, hg⟩
    refine ⟨rfl, ?_⟩
    refine et_yes _ (Ex.refl _) _ fun H3 e3 => ?_
    rw [if_pos rfl]
    refine ⟨_, rfl, wl, rfl, D2.well.same e3, fun z H4 gz D4 => ?_⟩
    have D34 : Drawn wl H2 H4 := ((Drawn.refl D2.well).same e3).trans D4
    refine ⟨_, D34.keep _ _ nD hz, ?_, D2.trans D34 |>.put W (D1.free W hD), (D2'.trans D34).put D1.well hD, zs ++ [z], ?_, ?_, ?_⟩
    · rw [List.length_map, hl]
      exact sz_lt (by omega)
    · rw [upd_same, List.map_append]
      rfl
    · rw [List.length_append, hl]
      rfl
    · intro y hy
      rcases List.mem_append.mp hy with h | h
      · exact hg y h
      · rw [List.mem_singleton.mp h]
        exact gz
  rintro H2 ⟨D2, _, zs, hz, hl, hg⟩
  refine ⟨Dl, zs, rfl, hz, by omega, by omega, fun z h => nam_ok (hg z h), fun N ns H3 hN0 e3 hN l1 l2 mem pw => ?_⟩
  have D3 := D2.same e3
  have hng : ∀ z ∈ ns, gNam (.str z) = true := fun z h => hg z (mem z h)
  have nN : N ≠ wl.w := fun z => by
    obtain ⟨o, ho⟩ := D2.well.at
    rw [← z, hN0] at ho
    cases ho
  dsimp only [gName]
  show tSeq _ _ _ [some (V.ref wl.w), none, some (.ref N), none, none] H3
  -- the ids
  refine ⟨_, rfl, wl, 3, rfl, D3.well, by decide, by decide, fun d2 H4 f0 f1 D4 => ⟨_, _, rfl, rfl, 1 + d2, rfl, by omega, by omega, fun Dm hDm => ?_⟩⟩
  have nDm := (D4.well.ne hDm).1
  have D34 := D3.trans D4
  refine lc_range (lo := 0) (n := (1 + d2).toNat) (fun i H' => Drawn wl H H' ∧ Drawn wl H4 H' ∧ ∃ (xs : List V) (js : List (Int × Int)), H' Dm = some (.lst xs) ∧ P2 H' xs js ∧ js.length = i ∧ ∀ j ∈ js, 1 ≤ j.1 ∧ j.1 ≤ 99 ∧ 1 ≤ j.2 ∧ j.2 < 2 ^ 60) ⟨D34.new hDm, (Drawn.refl D4.well).new hDm, [], [], upd_same, .nil, rfl, fun z hz => (by cases hz)⟩ ?_ ?_
  · rintro i H5 hi ⟨D5, D5', xs, js, hx, p2, hl, hb⟩
    refine ⟨rfl, ?_⟩
    refine et_yes _ (Ex.refl _) _ fun H6 e6 => ?_
    rw [if_pos rfl]
    refine ⟨_, rfl, wl, rfl, D5.well.same e6, fun a b p H7 b1 b2 hR hp D7 h7 => ?_⟩
    have D57 : Drawn wl H5 H7 := ((Drawn.refl D5.well).same e6).trans D7
    have hx7 := D57.keep _ _ nDm hx
    have nt : ∀ c zs, H7 c = some (.tup zs) → upd H7 Dm (.lst (xs ++ [.ref p])) c = some (.tup zs) := fun c zs hc => by
      rw [upd_ne (fun z => by rw [z, hx7] at hc; cases hc)]
      exact hc
    refine ⟨_, hx7, ?_, (D5.trans D57).put W (D34.free W hDm), (D5'.trans D57).put D4.well hDm, xs ++ [.ref p], js ++ [(a, b)], upd_same, ?_, ?_, ?_⟩
    · rw [p2.len, hl]
      exact sz_lt (by omega)
    · exact ((p2.tups (drawn_tups D5.well D57)).snoc (k := (a, b)) h7).tups nt
    · rw [List.length_append, hl]
      rfl
    · intro j hj
      rcases List.mem_append.mp hj with h | h
      · exact hb j h
      · rw [List.mem_singleton.mp h]
        exact ⟨hR.1, hR.2.1, hR.2.2, by show b < 2 ^ 60; omega⟩
  rintro H5 ⟨D5, D5', xs, js, hx, p2, hl, hb⟩
  refine ⟨Dm, xs, js, rfl, hx, p2, by omega, by omega, fun I ys ks H6 hI0 e6 hI p2' k1 k2 kmem kpw => ?_⟩
  have D6 := D5.same e6
  have nI : I ≠ wl.w := fun z => by
    obtain ⟨o, ho⟩ := D5.well.at
    rw [← z, hI0] at ho
    cases ho
  have hN6 : H6 N = some (.lst (ns.map V.str)) := e6 _ _ (D5'.keep _ _ nN (D4.keep _ _ nN hN))
  dsimp only [gName]
  refine ⟨_, rfl, _, rfl, _, rfl, wl, N, I, ns, ys, ks, rfl, D6.well, hN6, nN, l1, by omega, hng, pw, ⟨hI, nI, p2', ⟨k1, by omega⟩, fun j hj => hb j (kmem j hj), kpw⟩, fun v T H7 D7 tp a7 => ?_⟩
  have D67 := D6.trans D7
  dsimp only [gName]
  refine ⟨_, rfl, _, rfl, _, rfl, sz_of (show (3 : Nat) ≤ 100000 by decide), fun p hp => k p N I ns v T _ (D67.new hp) upd_same ?_ nN l1 (by omega) hng tp (ex_at (Ex.new hp) a7)⟩
  rw [upd_ne (ne_of_none (D7.keep _ _ nN hN6) hp)]
  exact D7.keep _ _ nN hN6
end
end Hs
namespace Hs
open PySem PySem.Spec PyProof.Rows L2 Hu Evl
open Hk (SI ltSI)
abbrev lDeeds : Stmt := topS 106
theorem q_asgX {te : TE} {i : Nat} {tz : TS} {D : Ends} {σ : L2.St} {H : Hp} {R : List V → Hp → Prop} (h : ∀ H0, Ex H H0 → ∀ Q : VK, (∀ p ys H', H0 p = none → Ex H0 H' → H' p = some (.lst ys) → R ys H' → Q (.ref p) H') → te σ H0 Q)
    (k : ∀ p ys H1, H p = none → Ex H H1 → H1 p = some (.lst ys) → R ys H1 → tz D (σ.set i (some (.ref p))) H1) : tSeq (tAsg te (gName i)) tz D σ H := h H (Ex.refl H) _ fun p ys H1 hp e h1 r => k p ys H1 hp e h1 r
theorem s_appD {K : PySem.W.Frag} {w C : Addr} {ta te : TE} {D : Ends} {σ : L2.St} {H : Hp} {l : Addr} {xs : List V} {u : U} (hl : H l = some (.lst xs)) (ha : Ev ta σ H (.ref l)) (h : EvD w C te σ H u) (hz : xs.length < 100000) (k : ∀ v H1, Ex H H1 → At w C H1 v u → D.nx σ (upd H1 l (.lst (xs ++ [v])))) :
    tDrop (tBM K "list" rAppend ta (tCons te tNil)) D σ H := ha H (Ex.refl H) _ fun H1 e1 =>
  ⟨Or.inl ⟨rfl, xs, sq_of (e1 l _ hl)⟩, h H1 e1 _ fun v H2 e2 a => ⟨l, xs, v, rfl, rfl, e2 l _ (e1 l _ hl), sz_lt hz, k v H2 (e1.trans e2) a⟩⟩
theorem TkL.put {H : Hp} {vs : List V} {kss : List (List L2.Key)} {l : Addr} {xs : List V} {o : HO} (hl : H l = some (.lst xs)) (h : TkL H vs kss) : TkL (upd H l o) vs kss :=
  h.tups fun b zs hb => by
    rw [upd_ne (fun z => by rw [z, hl] at hb; cases hb)]
    exact hb
section
variable {P : Program} {wd : World} {K : PySem.W.Frag} {mg : Str → Option Value} {base : Heap} {C : Addr} {fD : Addr} {dD : FuncData}
/-! ### keys -/
def spKeys (C : Addr) : Sp := fun vs H Q _ => ∃ (wl : WA) (N : Addr) (zs : List Str) (v : V) (L : List Ls), vs = [.ref wl.w, .ref N, v] ∧ Well H wl ∧ H N = some (.lst (zs.map V.str)) ∧ N ≠ wl.w ∧ 1 ≤ zs.length ∧ zs.length ≤ 10 ∧ At wl.w C H v (.tup (L.map lsU)) ∧ L.length ≤ 4 ∧
  ∀ (p : Addr) (ys : List V) (ks : List SI) (H' : Hp), Drawn wl H H' → H' p = some (.lst ys) → TkL H' ys (ks.map Hk.keySI) → 1 ≤ ks.length → ks.length ≤ 8 → (∀ l ∈ L, l.1 ∈ ks) → (∀ k ∈ ks, (∃ l ∈ L, l.1 = k) ∨ (k.1 ∈ zs ∧ 1 ≤ k.2 ∧ k.2 ≤ 3)) → p ≠ wl.w → Q (.ref p) H'
theorem scKeys : FnScope ["well", "names", "leases", "lease", "keys", "k"] ["well", "names", "leases"] (defScope lKeys) := ⟨rfl, rfl, rfl, by decide +kernel, rfl, by decide +kernel, by decide +kernel⟩
theorem ok_keysL {f : Addr} {fd : FuncData} (F : Fun K "_law_keys" "_law_keys" lKeys f fd) (B : Bt mg) (D : Dd P wd K mg base fD dD) : FnOk P wd K mg base CX0 4 f fd ["well", "names", "leases"] (spKeys C) := by
  refine F.ok scKeys (fun vs H Q E h => ?_) (fun cdv A outer s H vs Q E hr h => ?_)
  · obtain ⟨wl, N, zs, v, L, rfl, _⟩ := h
    rfl
  obtain ⟨wl, N, zs, v, L, rfl, W, hN, nN, z1, z10, hat, hL, k⟩ := h
  have GD : FnOk P wd K mg base CX0 3 fD dD ["well", "many"] spDraw := D.ok
  refine ⟨_, pss_cons (ps_setLc (i := 4) (own := [("lease", 3)]) (g := gName 3) (tt := tYes) rfl scKeys.nd rfl rfl rfl (pi_tup (pv 2)) (blkOk_by (N := ["well", "names", "leases", "lease", "keys", "k"]) (sc := defScope lKeys) (by decide +kernel))
      (fun _ _ _ _ _ => pg_name (i := 3) scKeys.nd rfl (Or.inl rfl)) (fun _ _ _ _ _ => pts_nil) (fun _ _ _ _ _ => pe_slice (show SlR _ (rSlA K) from sl_tupA) (pv 3) po_none (po_some pe_int)))
    (pss_cons (ps_for PassesOwn.never rfl (pi_range1 (by rfl) B.range (pa_cons (pe_op op_add pe_int (pe_draw D hr (by decide) (by rfl) (pv 0) pe_int)) pa_nil)) (pg_name (i := 5) scKeys.nd rfl (Or.inl rfl))
      (pss_one (ps_expr (pe_bm PySem.F.plainAttrs_list PySem.F.slot_list_append PySem.F.type_list_append mt_append (pv 4) (pa_cons (pe_tup (pa_cons (pe_ix ix_list (pv 1) (pe_call GD hr (by rfl) D.g D.kp D.b .nil pass0 (pa_cons (pv 0) (pa_cons (pe_callB (show CallR _ _ (rLenQ K) from call_len_seq) (by rfl) B.len PySem.boot_len (pa_cons (pv 1) pa_nil)) pa_nil))) (fun _ _ => rfl)) (pa_cons (pe_op op_add pe_int (pe_draw D hr (by decide) (by rfl) (pv 0) pe_int)) pa_nil))) pa_nil)))))
    (pss_one (ps_ret (pv 4)))), ?_⟩
  obtain ⟨a, xs, rfl, ha, na, hl⟩ := at_tup hat
  refine q_asgX (R := fun ys G => TkL G ys ((L.map lsU).map keyL)) (lc_newK (K := K) (tl := tVar 2) (j := 3) (vs := [3]) (σ := [some (.ref wl.w), some (.ref N), some (.ref a), none, none, none]) (f := keyL) (ev_var rfl) ha (by rw [List.length_map]; omega) hl (fun _ => rfl) (fun x u G hu eg hx Q q => ?_)) fun p ys H1 hp e1 h1 tk => ?_
  · obtain ⟨l, _, rfl⟩ := List.mem_map.mp hu
    obtain ⟨b, rfl, hb⟩ := at_ls hx
    refine ⟨_, rfl, 2, rfl, b, _, rfl, st_of hb, fun h => absurd h.2 (show ¬ (HT.sIx 4 4 (some 2) = 4) from by decide), fun _ p' hp' => q p' _ (Ex.new hp') ?_⟩
    rw [upd_same]
    rfl
  have np : p ≠ wl.w := (W.ne hp).1
  have e0 : (L.map lsU).map keyL = (L.map (·.1)).map Hk.keySI := by
    rw [List.map_map, List.map_map]
    rfl
  rw [e0] at tk
  show tSeq _ _ _ [some (V.ref wl.w), some (.ref N), some (.ref a), none, some (.ref p), none] H1
  refine q_forRX (R := fun n H' => n ≤ 4 ∧ 1 ≤ n ∧ Drawn wl H H' ∧ H' p = some (.lst ys) ∧ TkL H' ys ((L.map (·.1)).map Hk.keySI)) ?md (fun n H' h => by omega) (fun n i σ' H' => n ≤ 4 ∧ 1 ≤ n ∧ ∃ (x5 : Option V) (ys : List V) (ks : List SI), σ' = [some (.ref wl.w), some (.ref N), some (.ref a), none, some (.ref p), x5] ∧ Drawn wl H H' ∧ H' p = some (.lst ys) ∧ TkL H' ys (ks.map Hk.keySI) ∧ ks.length = L.length + i ∧ (∀ l ∈ L, l.1 ∈ ks) ∧
      (∀ k ∈ ks, (∃ l ∈ L, l.1 = k) ∨ (k.1 ∈ zs ∧ 1 ≤ k.2 ∧ k.2 ≤ 3)))
    (fun n H' h => ⟨h.1, h.2.1, _, ys, L.map (·.1), rfl, h.2.2.1, h.2.2.2.1, h.2.2.2.2, by rw [List.length_map]; rfl, fun l hl => List.mem_map.mpr ⟨l, hl, rfl⟩, fun k hk => .inl (List.mem_map.mp hk)⟩) ?_ ?_
  case md =>
    refine fun Q q => ⟨_, rfl, wl, 4, rfl, W.same e1, by decide, by decide, fun d H2 d0 d1 D2 => ⟨_, _, rfl, rfl, ?_⟩⟩
    have D02 : Drawn wl H H2 := ((Drawn.refl W).same e1).trans D2
    have := q (1 + d).toNat H2 ⟨by omega, by omega, D02, D2.keep _ _ np h1, tk.tups (drawn_tups (W.same e1) D2)⟩
    rw [show (((1 + d).toNat : Nat) : Int) = 1 + d by omega] at this
    exact this
  · rintro n i σ' H2 hi ⟨n4, n1, x5, ys2, ks, rfl, D2, h2, tk2, lk, hin, hk⟩
    show tDrop _ _ [some (V.ref wl.w), some (.ref N), some (.ref a), none, some (.ref p), some (.int (i : Int))] H2
    have hN2 : H2 N = some (.lst (zs.map V.str)) := D2.keep _ _ nN hN
    have lys := tk2.len
    rw [List.length_map] at lys
    refine ⟨_, rfl, .inl ⟨rfl, ys2, sq_of h2⟩, _, rfl, _, rfl, _, rfl, N, zs.map V.str, rfl, .inl (SqL.of hN2), wl, _, rfl, D2.well, by rw [List.length_map]; omega, by rw [List.length_map]; omega, fun d2 H3 e0 e1 D3 => ?_⟩
    rw [List.length_map] at e1
    have hd2 : d2.toNat < zs.length := by omega
    have D23 := D2.trans D3
    have hN3 : H3 N = some (.lst (zs.map V.str)) := D3.keep _ _ nN hN2
    have hzm : zs[d2.toNat] ∈ zs := List.getElem_mem hd2
    have hat2 : atI (zs.map V.str) d2 = some (.str zs[d2.toNat]) := by
      have : atI (zs.map V.str) ((d2.toNat : Nat) : Int) = some (.str zs[d2.toNat]) := atI_nat (by rw [List.getElem?_map, List.getElem?_eq_getElem hd2]; rfl)
      rwa [show ((d2.toNat : Nat) : Int) = d2 by omega] at this
    generalize zs[d2.toNat] = z at hzm hat2
    refine ⟨N, zs.map V.str, d2, .str z, rfl, rfl, SqL.of hN3, hat2, _, rfl, wl, 3, rfl, D23.well, by decide, by decide, fun d3 H4 f0 f1 D4 => ⟨_, _, rfl, rfl, sz_of (show (2 : Nat) ≤ 100000 by decide), fun t ht => ?_⟩⟩
    have D24 := D23.trans D4
    have h4 : H4 p = some (.lst ys2) := D4.keep _ _ np (D3.keep _ _ np h2)
    have h5 : upd H4 t (.tup [.str z, .int (1 + d3)]) p = some (.lst ys2) := by
      rw [upd_ne (ne_of_none h4 ht)]
      exact h4
    refine ⟨p, ys2, .ref t, rfl, rfl, h5, sz_lt (by omega), n4, n1, _, ys2 ++ [.ref t], ks ++ [(z, 1 + d3)], rfl, (D24.new ht).put W hp, upd_same, ?_, ?_, ?_, ?_⟩
    · rw [List.map_append]
      exact ((((tk2.tups (drawn_tups D2.well D3)).tups (drawn_tups D23.well D4)).tups fun b zs hb => Ex.new ht _ _ hb).snoc (ks := Hk.keySI (z, 1 + d3)) upd_same).put h5
    · rw [List.length_append, lk]
      show L.length + i + 1 = _
      omega
    · exact fun l hl => List.mem_append_left _ (hin l hl)
    · intro q hq
      rcases List.mem_append.mp hq with h | h
      · exact hk q h
      · rw [List.mem_singleton.mp h]
        exact .inr ⟨hzm, by show 1 ≤ 1 + d3; omega, by show 1 + d3 ≤ 3; omega⟩
  · rintro n σ' H2 ⟨n4, n1, x5, ys2, ks, rfl, D2, h2, tk2, lk, hin, hk⟩
    exact ⟨_, rfl, k p ys2 ks H2 D2 h2 tk2 (by omega) (by omega) hin hk np⟩
end
end Hs
namespace Hs
open PySem PySem.Spec PyProof.Rows L2 Hu Evl
open Hk (SI ltSI)
/-- a deed at one of these holders -/
def Deed.inn (ks : List SI) : Deed → Prop
  | .lease k t => k ∈ ks ∧ 0 ≤ t ∧ t < 10 ^ 11
  | .free k t => k ∈ ks ∧ 0 ≤ t ∧ t < 10 ^ 11
  | _ => True
theorem deedU_pln (D : Deed) : pln (deedU D) := by
  cases D <;> simp [deedU, Deed.parts, pln, plnL]
section
variable {P : Program} {wd : World} {K : PySem.W.Frag} {mg : Str → Option Value} {base : Heap} {C : Addr} {fD : Addr} {dD : FuncData}
def spDeeds (C : Addr) : Sp := fun vs H Q _ => ∃ (wl : WA) (p : Addr) (ys : List V) (ks : List SI), vs = [.ref wl.w, .ref p] ∧ Well H wl ∧ H p = some (.lst ys) ∧ TkL H ys (ks.map Hk.keySI) ∧ p ≠ wl.w ∧ 1 ≤ ks.length ∧ ks.length ≤ 8 ∧
  ∀ (q : Addr) (vs : List V) (Ds : List Deed) (H' : Hp), Drawn wl H H' → H' q = some (.lst vs) → AtL wl.w C H' vs (Ds.map deedU) → Ds.length ≤ 400 → (∀ D ∈ Ds, D.inn ks) → q ≠ wl.w → Q (.ref q) H'
theorem scDeeds : FnScope ["well", "keys", "deeds", "k", "kind", "key", "talk", "ticks", "tick"] ["well", "keys"] (defScope lDeeds) := ⟨rfl, rfl, rfl, by decide +kernel, rfl, by decide +kernel, by decide +kernel⟩
theorem atl_app {w : Addr} {H : Hp} {l : Addr} {vs : List V} {Ds : List Deed} {v : V} {D : Deed} (hl : H l = some (.lst vs)) (al : AtL w C H vs (Ds.map deedU)) (a : At w C H v (deedU D)) : AtL w C (upd H l (.lst (vs ++ [v]))) (vs ++ [v]) ((Ds ++ [D]).map deedU) := by
  rw [List.map_append]
  exact atl_put hl (fun u hu => by
    rcases List.mem_append.mp hu with h | h
    · obtain ⟨d, _, rfl⟩ := List.mem_map.mp h
      exact deedU_pln d
    · rw [List.mem_singleton.mp h]
      exact deedU_pln D) (AtL.append al (.cons a .nil))
set_option maxHeartbeats 1000000 in
theorem ok_deedsL {f fN : Addr} {fd dN : FuncData} (F : Fun K "_law_deeds" "_law_deeds" lDeeds f fd) (B : Bt mg) (D : Dd P wd K mg base fD dD) (DN : Df K mg "_law_number" lNumber ["well"] fN dN) : FnOk P wd K mg base CX0 5 f fd ["well", "keys"] (spDeeds C) := by
  have GN : FnOk P wd K mg base CX0 4 fN dN ["well"] spNumber := ok_number DN.F D
  refine F.ok scDeeds (fun vs H Q E h => ?_) (fun cdv A outer s H vs Q E hr h => ?_)
  · obtain ⟨wl, p, ys, ks, rfl, _⟩ := h
    rfl
  obtain ⟨wl, p, ys, ks, rfl, W, hp, tk, np, k1, k8, k⟩ := h
  have GD : FnOk P wd K mg base CX0 4 fD dD ["well", "many"] spDraw := D.ok.mono (by decide)
  refine ⟨_, pss_cons (ps_set (i := 2) scDeeds.nd rfl (.inl rfl) (pe_lst pa_nil))
    (pss_cons (ps_for PassesOwn.never rfl (pi_range1 (by rfl) B.range (pa_cons (pe_draw D hr (by decide) (by rfl) (pv 0) pe_int) pa_nil)) (pg_name (i := 3) scDeeds.nd rfl (Or.inl rfl))
      (pss_cons (ps_set (i := 4) scDeeds.nd rfl (.inl rfl) (pe_draw D hr (by decide) (by rfl) (pv 0) pe_int))
      (pss_cons (ps_set (i := 5) scDeeds.nd rfl (.inl rfl) (pe_ix ix_list (pv 1) (pe_call GD hr (by rfl) D.g D.kp D.b .nil pass0 (pa_cons (pv 0) (pa_cons (pe_callB (show CallR _ _ (rLenQ K) from call_len_seq) (by rfl) B.len PySem.boot_len (pa_cons (pv 1) pa_nil)) pa_nil))) (fun _ _ => rfl)))
      (pss_cons (ps_set (i := 6) scDeeds.nd rfl (.inl rfl) (pe_ix ix_list (pe_lst (pa_cons (pe_draw D hr (by decide) (by rfl) (pv 0) pe_int) (pa_cons (pe_call GN hr (by rfl) DN.g DN.F.kp DN.b .nil pass0 (pa_cons (pv 0) pa_nil)) pa_nil))) (pe_callTy call_int1 (by rfl) B.int boot_int (pa_cons (pe_cmpR op_eq (pv 4) pe_int (nomark _)) pa_nil)) (fun _ _ => rfl)))
      (pss_one (ps_if (pt_cmpR op_le (pv 4) pe_int (nomark _))
        (pss_one (ps_expr (pe_bm PySem.F.plainAttrs_list PySem.F.slot_list_append PySem.F.type_list_append mt_append (pv 2) (pa_cons (pe_op op_catA (pe_op op_catA (pe_tup (pa_cons pe_str pa_nil)) (pv 5)) (pe_tup (pa_cons (pv 6) pa_nil))) pa_nil))))
        (pss_one (ps_if (pt_cmpR op_le (pv 4) pe_int (nomark _))
          (pss_one (ps_expr (pe_bm PySem.F.plainAttrs_list PySem.F.slot_list_append PySem.F.type_list_append mt_append (pv 2) (pa_cons (pe_op op_catA (pe_op op_catA (pe_tup (pa_cons pe_str pa_nil)) (pv 5)) (pe_tup (pa_cons (pv 6) pa_nil))) pa_nil))))
          (pss_one (ps_if (pt_cmpR op_eq (pv 4) pe_int (nomark _))
            (pss_one (ps_expr (pe_bm PySem.F.plainAttrs_list PySem.F.slot_list_append PySem.F.type_list_append mt_append (pv 2) (pa_cons (pe_tup (pa_cons pe_str pa_nil)) pa_nil))))
            (pss_cons (ps_set (i := 7) scDeeds.nd rfl (.inl rfl) (pe_ix ix_list (pe_lst (pa_cons pe_int (pa_cons (pe_op op_add pe_int (pe_draw D hr (by decide) (by rfl) (pv 0) pe_int)) pa_nil))) (pe_op op_sub (pv 4) pe_int) (fun _ _ => rfl)))
            (pss_one (ps_for PassesOwn.never rfl (pi_range1 (by rfl) B.range (pa_cons (pv 7) pa_nil)) (pg_name (i := 8) scDeeds.nd rfl (Or.inl rfl))
              (pss_one (ps_expr (pe_bm PySem.F.plainAttrs_list PySem.F.slot_list_append PySem.F.type_list_append mt_append (pv 2) (pa_cons (pe_tup (pa_cons pe_str pa_nil)) pa_nil)))))))))))))))))
    (pss_one (ps_ret (pv 2)))), ?_⟩
  refine ⟨sz_of (show (0 : Nat) ≤ 100000 by decide), fun dl hD => ?_⟩
  have nD := (W.ne hD).1
  have lys := tk.len
  rw [List.length_map] at lys
  dsimp only [gName]
  show tSeq _ _ _ [some (V.ref wl.w), some (.ref p), some (.ref dl), none, none, none, none, none, none] _
  refine q_forRX (R := fun n H' => n ≤ 40 ∧ Drawn wl H H' ∧ H' dl = some (.lst [])) ?md (fun n H' h => by omega) (fun n i σ' H' => n ≤ 40 ∧ ∃ (x3 x4 x5 x6 x7 x8 : Option V) (vs : List V) (Ds : List Deed), σ' = [some (.ref wl.w), some (.ref p), some (.ref dl), x3, x4, x5, x6, x7, x8] ∧ Drawn wl H H' ∧ H' dl = some (.lst vs) ∧ AtL wl.w C H' vs (Ds.map deedU) ∧ Ds.length ≤ 9 * i ∧ ∀ D ∈ Ds, D.inn ks)
    (fun n H' h => ⟨h.1, _, _, _, _, _, _, [], [], rfl, h.2.1, h.2.2, .nil, Nat.le_refl _, fun D hD => by cases hD⟩) ?_ ?_
  case md =>
    refine fun Q q => ⟨_, rfl, wl, 41, rfl, W.same (same_upd hD), by decide, by decide, fun d H2 d0 d1 D2 => ?_⟩
    have := q d.toNat H2 ⟨by omega, ((Drawn.refl W).new hD).trans D2, D2.keep _ _ nD upd_same⟩
    rw [show ((d.toNat : Nat) : Int) = d by omega] at this
    exact this
  · rintro n i σ' H1 hi ⟨hn, x3, x4, x5, x6, x7, x8, vs, Ds, rfl, D1, h1, al, ln, hin⟩
    have lvs := AtL.length al
    rw [List.length_map] at lvs
    have hvz : vs.length < 100000 := by omega
    show tSeq _ _ _ [some (V.ref wl.w), some (.ref p), some (.ref dl), some (.int (i : Int)), x4, x5, x6, x7, x8] H1
    refine ⟨_, rfl, wl, 8, rfl, D1.well, by decide, by decide, fun kd H2 d0 d1 D2' => ?_⟩
    have D2 := D1.trans D2'
    dsimp only [gName]
    have hp2 : H2 p = some (.lst ys) := D2.keep _ _ np hp
    refine ⟨_, rfl, _, rfl, _, rfl, p, ys, rfl, .inl (SqL.of hp2), wl, _, rfl, D2.well, by omega, by omega, fun d2 H3 e0 e1 D3' => ?_⟩
    have D3 := D2.trans D3'
    have hp3 : H3 p = some (.lst ys) := D3.keep _ _ np hp
    have hd2 : d2.toNat < ys.length := by omega
    have tk3 := tk.tups (drawn_tups W D3)
    obtain ⟨kp, kss, ekp, hks, hkp⟩ := tk3.get (List.getElem?_eq_getElem hd2)
    rw [List.getElem?_map] at hks
    obtain ⟨kk, hkk, rfl⟩ : ∃ kk, ks[d2.toNat]? = some kk ∧ kss = Hk.keySI kk := by
      cases h : ks[d2.toNat]? with
      | none => rw [h] at hks; cases hks
      | some kk =>
        rw [h] at hks
        exact ⟨kk, rfl, (Option.some.inj hks).symm⟩
    have hkm := List.mem_of_getElem? hkk
    have hat2 : atI ys d2 = some (.ref kp) := by
      have : atI ys ((d2.toNat : Nat) : Int) = some (.ref kp) := by
        rw [← ekp]
        exact atI_nat (List.getElem?_eq_getElem hd2)
      rwa [show ((d2.toNat : Nat) : Int) = d2 by omega] at this
    refine ⟨p, ys, d2, .ref kp, rfl, rfl, SqL.of hp3, hat2, ?_⟩
    dsimp only [gName]
    have hkp' : H3 kp = some (.tup [.str kk.1, .int kk.2]) := hkp
    -- the talk
    refine ⟨_, rfl, wl, 6, rfl, D3.well, by decide, by decide, fun t1 H4 f0 f1 D4' => ?_⟩
    have D4 := D3.trans D4'
    refine ⟨_, rfl, wl, rfl, D4.well, fun t2 H5 g0 g1 D5' => ⟨sz_of (show (2 : Nat) ≤ 100000 by decide), fun l hl => ?_⟩⟩
    have D5 := D4.trans D5'
    have pick : ∃ t : Int, atI ([.int t1, .int t2] : List V) (if decide (V.int kd = V.int 0) = true then 1 else 0) = some (.int t) ∧ 0 ≤ t ∧ t < 10 ^ 11 := by
      by_cases h : decide (V.int kd = V.int 0) = true
      · rw [if_pos h]
        exact ⟨t2, rfl, g0, g1⟩
      · rw [if_neg h]
        exact ⟨t1, rfl, f0, by omega⟩
    obtain ⟨t, ht, t0, t11⟩ := pick
    refine ⟨_, rfl, rfl, .inr ⟨_, rfl, l, _, _, .int t, rfl, rfl, SqL.of upd_same, ht, ?_⟩⟩
    dsimp only [gName]
    have D6 : Drawn wl H (upd H5 l (.lst [.int t1, .int t2])) := D5.new hl
    have e6 : Ex H5 (upd H5 l (.lst [.int t1, .int t2])) := Ex.new hl
    generalize upd H5 l (.lst [.int t1, .int t2]) = H6 at D6 e6
    have E16 : Drawn wl H1 H6 := ((((D2'.trans D3').trans D4').trans D5')).same e6
    have E36 : Drawn wl H3 H6 := (D4'.trans D5').same e6
    have h6 : H6 dl = some (.lst vs) := E16.keep _ _ nD h1
    have al6 := AtL.drawn E16 al
    have hk6 : H6 kp = some (.tup [.str kk.1, .int kk.2]) := drawn_tups D3.well E36 _ _ hkp'
    have ak6 : At wl.w C H6 (.ref kp) (.tup [.str kk.1, .int kk.2]) := .tup hk6 (not_well D6.well hk6) (.cons (.str _) (.cons (.int _) .nil))
    have hw6 := D6.well.at
    -- one more deed
    have more : ∀ (De : Deed) (v : V) (G : Hp), De.inn ks → Ex H6 G → At wl.w C G v (deedU De) → n ≤ 40 ∧ ∃ (y3 y4 y5 y6 y7 y8 : Option V) (vs' : List V) (Ds' : List Deed), [some (V.ref wl.w), some (.ref p), some (.ref dl), some (.int (i : Int)), some (.int kd), some (.ref kp), some (.int t), x7, x8] = [some (.ref wl.w), some (.ref p), some (.ref dl), y3, y4, y5, y6, y7, y8] ∧ Drawn wl H (upd G dl (.lst (vs ++ [v]))) ∧ upd G dl (.lst (vs ++ [v])) dl = some (.lst vs') ∧ AtL wl.w C (upd G dl (.lst (vs ++ [v]))) vs' (Ds'.map deedU) ∧ Ds'.length ≤ 9 * (i + 1) ∧ ∀ D ∈ Ds', D.inn ks :=
      fun De v G hi' eg a => ⟨hn, _, _, _, _, x7, x8, vs ++ [v], Ds ++ [De], rfl, (D6.same eg).put W hD, upd_same, atl_app (eg _ _ h6) (ex_atl eg al6) a, by rw [List.length_append]; show Ds.length + 1 ≤ _; omega, fun D' hD' => by
        rcases List.mem_append.mp hD' with h | h
        · exact hin D' h
        · rw [List.mem_singleton.mp h]
          exact hi'⟩
    have one : (1 : Nat) ≤ 100000 := by decide
    show tIfS _ _ _ _ [some (V.ref wl.w), some (.ref p), some (.ref dl), some (.int (i : Int)), some (.int kd), some (.ref kp), some (.int t), x7, x8] H6
    refine s_if (et_test (ev_op (ev_var rfl) ev_c rv_I0)) (fun q H7 e7 => ?_) (fun q H7 e7 => ?_)
    · refine s_appD (K := K) (w := wl.w) (C := C) (u := deedU (.lease kk t)) (e7 _ _ h6) (ev_var rfl) (ed_cat (us1 := [.str "lease", .str kk.1, .int kk.2]) (us2 := [.int t]) (hw6.imp fun o z => e7 _ _ z) (ed_cat (us1 := [.str "lease"]) (us2 := [.str kk.1, .int kk.2]) (hw6.imp fun o z => e7 _ _ z) (ed_tup (hw6.imp fun o z => e7 _ _ z) (eds_cons (ed_ev ev_c (.str _)) eds_nil) one) (ed_ev (ev_var rfl) (ex_at e7 ak6)) (by show (3 : Nat) ≤ 100000; decide)) (ed_tup (hw6.imp fun o z => e7 _ _ z) (eds_cons (ed_ev (ev_var rfl) (.int _)) eds_nil) one) (by show (4 : Nat) ≤ 100000; decide)) hvz fun v G eg a => (by dsimp only; exact more (.lease kk t) v G ⟨hkm, t0, t11⟩ (e7.trans eg) a)
    · refine s_if (et_test (ev_op (ev_var rfl) ev_c rv_I0)) (fun q2 H8 e8 => ?_) (fun q2 H8 e8 => ?_)
      · have e78 := e7.trans e8
        refine s_appD (K := K) (w := wl.w) (C := C) (u := deedU (.free kk t)) (e78 _ _ h6) (ev_var rfl) (ed_cat (us1 := [.str "free", .str kk.1, .int kk.2]) (us2 := [.int t]) (hw6.imp fun o z => e78 _ _ z) (ed_cat (us1 := [.str "free"]) (us2 := [.str kk.1, .int kk.2]) (hw6.imp fun o z => e78 _ _ z) (ed_tup (hw6.imp fun o z => e78 _ _ z) (eds_cons (ed_ev ev_c (.str _)) eds_nil) one) (ed_ev (ev_var rfl) (ex_at e78 ak6)) (by show (3 : Nat) ≤ 100000; decide)) (ed_tup (hw6.imp fun o z => e78 _ _ z) (eds_cons (ed_ev (ev_var rfl) (.int _)) eds_nil) one) (by show (4 : Nat) ≤ 100000; decide)) hvz fun v G eg a => (by dsimp only; exact more (.free kk t) v G ⟨hkm, t0, t11⟩ (e78.trans eg) a)
      · have e78 := e7.trans e8
        refine s_if (et_test (ev_op (ev_var rfl) ev_c (rv_eq rfl))) (fun q3 H9 e9 => ?_) (fun q3 H9 e9 => ?_)
        · have e79 := e78.trans e9
          refine s_appD (K := K) (w := wl.w) (C := C) (u := deedU .rise) (e79 _ _ h6) (ev_var rfl) (ed_tup (hw6.imp fun o z => e79 _ _ z) (eds_cons (ed_ev ev_c (.str _)) eds_nil) one) hvz fun v G eg a => (by dsimp only; exact more .rise v G trivial (e79.trans eg) a)
        · have e79 := e78.trans e9
          have D9 := D6.same e79
          have q1 : ¬ kd ≤ 2 := of_decide_eq_false q
          have q2' : ¬ kd ≤ 4 := of_decide_eq_false q2
          have q3' : kd ≠ 5 := fun e => by
            rw [e] at q3
            exact absurd q3 (by decide)
          refine ⟨_, rfl, wl, 9, rfl, D9.well, by decide, by decide, fun t3 H10 h0 h1' D10' => ⟨_, _, rfl, rfl, sz_of (show (2 : Nat) ≤ 100000 by decide), fun l2 hl2 => ?_⟩⟩
          have D10 := D9.trans D10'
          have pick2 : ∃ tt : Int, atI ([.int 1, .int (1 + t3)] : List V) (kd - 6) = some (.int tt) ∧ 1 ≤ tt ∧ tt ≤ 9 := by
            have : kd = 6 ∨ kd = 7 := by omega
            rcases this with h | h
            · exact ⟨1, by rw [h]; rfl, by decide, by decide⟩
            · exact ⟨1 + t3, by rw [h]; rfl, by omega, by omega⟩
          obtain ⟨tt, htt, tt1, tt9⟩ := pick2
          refine ⟨_, rfl, _, _, rfl, rfl, l2, _, kd - 6, .int tt, rfl, rfl, SqL.of upd_same, htt, ?_⟩
          dsimp only [gName]
          have D11 := D10.new (o := .lst [.int 1, .int (1 + t3)]) hl2
          have e11 : Ex H10 (upd H10 l2 (.lst [.int 1, .int (1 + t3)])) := Ex.new hl2
          generalize upd H10 l2 (.lst [.int 1, .int (1 + t3)]) = H11 at D11 e11
          have h11 : H11 dl = some (.lst vs) := e11 _ _ (D10'.keep _ _ nD (e79 _ _ h6))
          have al11 : AtL wl.w C H11 vs (Ds.map deedU) := ex_atl e11 (AtL.drawn D10' (ex_atl e79 al6))
          show tFor _ _ _ _ [some (V.ref wl.w), some (.ref p), some (.ref dl), some (.int (i : Int)), some (.int kd), some (.ref kp), some (.int t), some (.int tt), x8] H11
          refine s_forR1 (n := tt) (ea_cons (ev_var rfl) ea_nil) ⟨by omega, by omega⟩ (fun j σ' H' => ∃ (y8 : Option V) (vs' : List V) (Ds' : List Deed), σ' = [some (V.ref wl.w), some (.ref p), some (.ref dl), some (.int (i : Int)), some (.int kd), some (.ref kp), some (.int t), some (.int tt), y8] ∧ Drawn wl H H' ∧ H' dl = some (.lst vs') ∧ AtL wl.w C H' vs' (Ds'.map deedU) ∧ Ds'.length = Ds.length + j ∧ ∀ D ∈ Ds', D.inn ks)
            (fun H12 e12 => ⟨_, vs, Ds, rfl, D11.same e12, e12 _ _ h11, ex_atl e12 al11, rfl, hin⟩) ?_ ?_
          · rintro j σ' H12 hj ⟨y8, vs', Ds', rfl, D12, h12, al12, l12, in12⟩
            have lv := AtL.length al12
            rw [List.length_map] at lv
            refine s_appD (K := K) (w := wl.w) (C := C) (u := deedU .tick) h12 (ev_var rfl) (ed_tup D12.well.at (eds_cons (ed_ev ev_c (.str _)) eds_nil) one) (by omega) fun v G eg a => ?_
            dsimp only
            refine ⟨_, vs' ++ [v], Ds' ++ [.tick], rfl, (D12.same eg).put W hD, upd_same, atl_app (eg _ _ h12) (ex_atl eg al12) a, ?_, ?_⟩
            · rw [List.length_append, l12]
              rfl
            · intro D' hD'
              rcases List.mem_append.mp hD' with h | h
              · exact in12 D' h
              · rw [List.mem_singleton.mp h]
                exact trivial
          · rintro σ' H12 ⟨y8, vs', Ds', rfl, D12, h12, al12, l12, in12⟩
            dsimp only
            exact ⟨hn, _, _, _, _, _, _, vs', Ds', rfl, D12, h12, al12, by omega, in12⟩
  · rintro n σ' H1 ⟨hn, x3, x4, x5, x6, x7, x8, vs, Ds, rfl, D1, h1, al, ln, hin⟩
    exact ⟨_, rfl, k dl vs Ds H1 D1 h1 al (by omega) hin nD⟩
end
end Hs
namespace Hs
open PySem PySem.Spec PyProof.Rows L2 Hu Evl
open Hk (SI ltSI)
abbrev lAlike : Stmt := topS 104
theorem depL_mem {u : U} : ∀ {us : List U}, u ∈ us → dep u ≤ depL us
  | _ :: us, .head _ => by simp only [depL]; omega
  | _ :: us, .tail _ h => by have := depL_mem h; simp only [depL]; omega
theorem Sm.mem {us : List U} {u : U} (h : Sm (.tup us)) (hu : u ∈ us) : Sm u := by
  have h1 := wt_mem hu
  have h2 : wt (.tup us) ≤ 70000 := h
  simp only [wt] at h2
  show wt u ≤ 70000
  omega
section
variable {P : Program} {wd : World} {K : PySem.W.Frag} {mg : Str → Option Value} {base : Heap} {C : Addr}
/-- all([f(k) for k in range(n)]), all true -/
theorem ev_allR {σ : L2.St} {H : Hp} {ta : TA} {te : TE} {j : Nat} {vs : List Nat} {n : Nat} (h : EvA ta σ H [.int (n : Int)]) (hn : n ≤ 40000) (hw : ∀ x, wipe ((wipe σ vs).set j (some x)) vs = wipe σ vs)
    (he : ∀ i : Nat, i < n → Ev te ((wipe σ vs).set j (some (.int (i : Int)))) H (.bl true)) : Ev (tCB (rAll K) (tCons (tLc (iRng1 ta) (gName j) tYes te vs) tNil)) σ H (.bl true) := by
  have main : EvL (tLc (iRng1 ta) (gName j) tYes te vs) σ H ((List.range ((n : Int)).toNat).map fun _ => V.bl true) := el_rngM (fun _ => .bl true) h (by omega) hw fun i hi => he i (by omega)
  refine ev_cb1 main fun p H2 h2 e2 Q q => ⟨p, List.replicate n true, rfl, sq_of ?_, ?_⟩
  · rw [h2, Int.toNat_natCast]
    congr 2
    rw [List.map_replicate]
    exact List.ext_getElem (by simp) fun i h1 h2 => by simp
  · have : (List.replicate n true).all id = true := by simp
    rw [this]
    exact q H2 (Ex.refl H2)
def spAl (C : Addr) (n : Nat) : Sp := fun vs H Q _ => ∃ (x y : V) (u : U) (w : Addr), vs = [x, y] ∧ At w C H x u ∧ At w C H y u ∧ Sm u ∧ pln u ∧ dep u < n ∧ ∀ H', Same H H' → Q (.bl true) H'
theorem scAl : FnScope ["told", "due", "k"] ["told", "due"] (defScope lAlike) := ⟨rfl, rfl, rfl, by decide +kernel, rfl, by decide +kernel, by decide +kernel⟩
theorem Sm.str {z : Str} (h : Sm (.str z)) : z.length ≤ 40000 := by
  have h2 : wt (.str z) ≤ 70000 := h
  simp only [wt] at h2
  omega
theorem ok_alike {f : Addr} {fd : FuncData} (DN : Df K mg "_law_alike" lAlike ["told", "due"] f fd) (S : Bs K mg C) : ∀ n : Nat, FnOk P wd K mg base CX0 n f fd ["told", "due"] (spAl C n)
  | 0 => ⟨fun _ _ _ _ ⟨_, _, _, _, e, _⟩ => by rw [e]; rfl, fun _ _ _ _ _ _ _ _ _ _ _ _ _ ⟨_, _, _, _, _, _, _, _, _, h, _⟩ => absurd h (Nat.not_lt_zero _)⟩
  | n + 1 => by
    have G := ok_alike DN S n
    refine DN.F.ok scAl (fun vs H Q E h => ?_) (fun cdv A outer s H vs Q E hr h => ?_)
    · obtain ⟨x, y, u, w, rfl, _⟩ := h
      rfl
    obtain ⟨x, y, u, w, rfl, hx, hy, hs, hp, hd, k⟩ := h
    refine ⟨_, pss_cons (ps_if (pt_val (pe_isiX S (by rfl) (by rfl) S.B.tup boot_tuple' (by decide) (pv 1) (by decide) (by decide)))
        (pss_cons (ps_if (PW.pt (pw_or (pt_not (pt_val (pe_isiX S (by rfl) (by rfl) S.B.tup boot_tuple' (by decide) (pv 0) (by decide) (by decide)))) (pw_or1 (pt_cmpR op_ne (pe_callB call_len_seq (by rfl) S.B.len PySem.boot_len (pa_cons (pv 0) pa_nil)) (pe_callB call_len_seq (by rfl) S.B.len PySem.boot_len (pa_cons (pv 1) pa_nil)) (nomark _))))) (pss_one (ps_ret pe_bl)) pss_nil)
        (pss_one (ps_ret (pe_callB (cr_all rfl) (by rfl) S.B.all boot_all' (pa_cons (pe_lc (own := [("k", 2)]) (g := gName 2) (tt := tYes) rfl scAl.nd (pi_range1 (by rfl) S.B.range (pa_cons (pe_callB call_len_seq (by rfl) S.B.len PySem.boot_len (pa_cons (pv 1) pa_nil)) pa_nil)) (blkOk_by (N := ["told", "due", "k"]) (sc := defScope lAlike) (by decide +kernel))
          (fun _ _ _ _ _ => pg_name (i := 2) scAl.nd rfl (Or.inl rfl)) (fun _ _ _ _ _ => pts_nil) (fun _ _ _ _ _ => pe_call G hr (by rfl) DN.g DN.F.kp DN.b .nil pass0 (pa_cons (pe_ix (show IxR _ (rIxT K) from ix_tup) (pv 0) (pv 2) (fun _ _ => rfl)) (pa_cons (pe_ix (show IxR _ (rIxT K) from ix_tup) (pv 1) (pv 2) (fun _ _ => rfl)) pa_nil)))) pa_nil))))) pss_nil)
      (pss_cons (ps_if (pt_cmpR op_isN1 (pv 1) pe_non (nomark _)) (pss_one (ps_ret (pe_cmpR op_isN1 (pv 0) pe_non (nomark _)))) pss_nil)
      (pss_cons (ps_if (pt_val (pe_isiX S (by rfl) (by rfl) S.B.str boot_str (by decide) (pv 1) (by decide) (by decide))) (pss_one (ps_ret (pe_and (pe_isiX S (by rfl) (by rfl) S.B.str boot_str (by decide) (pv 0) (by decide) (by decide)) (pe_one (pe_cmpR op_eq (pv 0) (pv 1) (nomark _)))))) pss_nil)
      (pss_one (ps_ret (pe_and (pe_isiX S (by rfl) (by rfl) S.B.int boot_int' (by decide) (pv 0) (by decide) (by decide)) (pe_and (pe_not (pe_isiX S (by rfl) (by rfl) S.B.boo boot_bool' (by decide) (pv 0) (by decide) (by decide))) (pe_one (pe_cmpR op_eq (pv 0) (pv 1) (nomark _))))))))), ?_⟩
    refine q_when (b := isT u "tuple") (et_B (ev_isi (ev_var rfl) hy)) (fun q H1 e1 => ?_) (fun q H1 e1 => ?_)
    · obtain ⟨us, rfl⟩ := isT_tup q
      obtain ⟨a, xs, rfl, ha, _, hl⟩ := at_tup (ex_at e1 hx)
      obtain ⟨b, ys, rfl, hb, _, hm⟩ := at_tup (ex_at e1 hy)
      have l1 := AtL.length hl
      have l2 := AtL.length hm
      have hz := Sm.len hs
      refine q_when (b := !true || false) (et_or (et_not (et_B (ev_isi (ev_var rfl) (ex_at e1 hx)))) fun _ => et_test (ev_is (ev_op (ev_lenT (K := K) (ev_var rfl) ha) (ev_lenT (K := K) (ev_var rfl) hb) (rv_ne rfl)) (by rw [l1, l2]; simp))) (fun q => by cases q) (fun _ H2 e2 => ?_)
      refine s_ret (ev_allR (K := K) (n := us.length) (ea_cons (ev_is (ev_lenT (K := K) (ev_var rfl) (e2 _ _ hb)) (by rw [l2])) ea_nil) hz (fun _ => rfl) fun i hi => ?_) fun H3 e3 => k H3 ((e1.trans e2).trans e3)
      obtain ⟨x1, hx1, ax⟩ := AtL.get hl (List.getElem?_eq_getElem hi)
      obtain ⟨y1, hy1, ay⟩ := AtL.get hm (List.getElem?_eq_getElem hi)
      have hpl : plnL us := hp
      have hdl : depL us + 1 < n + 1 := by simpa only [dep] using hd
      exact ev_call (ea_cons (ev_op (ev_var rfl) (ev_var rfl) (rv_ixT (st_of (e2 _ _ ha)) (atI_nat hx1))) (ea_cons (ev_op (ev_var rfl) (ev_var rfl) (rv_ixT (st_of (e2 _ _ hb)) (atI_nat hy1))) ea_nil)) fun G eg Q q E =>
        ⟨x1, y1, us[i], w, rfl, ex_at (e2.trans eg) ax, ex_at (e2.trans eg) ay, hs.mem (List.getElem_mem hi), plnL_all.mp hpl _ (List.getElem_mem hi), by have := depL_mem (List.getElem_mem hi); omega, q⟩
    · have hx1 := ex_at e1 hx
      have hy1 := ex_at e1 hy
      refine q_when (b := isNon u) (et_test (ev_is (ev_isN (ev_var rfl)) (by rw [at_non hy1]))) (fun q2 H2 e2 => ?_) (fun q2 H2 e2 => ?_)
      · exact s_ret (ev_is (ev_isN (ev_var rfl)) (by rw [at_non (ex_at e2 hx1), q2])) fun H3 e3 => k H3 ((e1.trans e2).trans e3)
      · have hx2 := ex_at e2 hx1
        have hy2 := ex_at e2 hy1
        have e12 := e1.trans e2
        refine q_when (b := isT u "str") (et_B (ev_isi (ev_var rfl) hy2)) (fun q3 H3 e3 => ?_) (fun q3 H3 e3 => ?_)
        · obtain ⟨z, rfl⟩ := isT_str q3
          have hx3 := ex_at e3 hx2
          have ex := at_str hx3
          have ey := at_str (ex_at e3 hy2)
          subst ex ey
          exact s_ret (v := .bl (true && true)) (ev_andV (ev_isi (ev_var rfl) hx3) fun _ => ev_is (ev_op (ev_var rfl) (ev_var rfl) (rv_eq rfl)) (congrArg V.bl (decide_eq_true rfl))) fun H4 e4 => k H4 ((e12.trans e3).trans e4)
        · obtain ⟨i, rfl⟩ : ∃ i, u = .int i := by
            cases u with
            | int i => exact ⟨i, rfl⟩
            | non => cases q2
            | str z => simp [isT, isS, tyU] at q3
            | tup us => simp [isT, isS, tyU] at q
            | bl b => exact hp.elim
            | lst us => exact hp.elim
            | dct us => exact hp.elim
            | exc => exact hp.elim
          have hx3 := ex_at e3 hx2
          have ex := at_int hx3
          have ey := at_int (ex_at e3 hy2)
          subst ex ey
          exact s_ret (v := .bl (true && (!false && true))) (ev_andV (ev_isi (ev_var rfl) hx3) fun _ => ev_andV (ev_notV (ev_isi (ev_var rfl) hx3)) fun _ => ev_is (ev_op (ev_var rfl) (ev_var rfl) (rv_eq rfl)) (congrArg V.bl (decide_eq_true rfl))) fun H4 e4 => k H4 ((e12.trans e3).trans e4)
end
end Hs
namespace Hs
open PySem PySem.Spec PyProof.Rows L2 Hu Evl
open Hk (SI ltSI)
abbrev lTicked : Stmt := topS 107
theorem take_filter' {α : Type} {us : List α} {i : Nat} {u : α} (g : α → Bool) (h : us[i]? = some u) : (us.take (i + 1)).filter g = (us.take i).filter g ++ if g u = true then [u] else [] := by
  rw [List.take_add_one, h, List.filter_append]
  congr 1
  by_cases q : g u = true
  · rw [if_pos q]
    show List.filter g [u] = _
    rw [List.filter_cons_of_pos q]
    rfl
  · rw [if_neg q]
    show List.filter g [u] = _
    rw [List.filter_cons_of_neg q]
    rfl
theorem take_get_none {L : List Ls} (n : ndK L) {i : Nat} {l : Ls} (h : L[i]? = some l) (f : Ls → Bool) : getL ((L.take i).filter f) l.1 = none := getL_none.mpr fun y hy e => by
  have hy' := (List.mem_filter.mp hy).1
  have n1 : ndK (L.take (i + 1)) := List.Nodup.sublist (List.Sublist.map _ (List.take_sublist _ _)) n
  rw [List.take_add_one, h] at n1
  unfold ndK at n1
  rw [List.map_append, List.nodup_append] at n1
  exact n1.2.2 y.1 (List.mem_map.mpr ⟨y, hy', rfl⟩) l.1 (by show l.1 ∈ [l.1]; simp) e
/-- a new dict with the rows of this property -/
def NewD (H : Hp) (R : List Ls → Prop) (Q : VK) : Prop := ∀ (d : Addr) (kvs : List (List L2.Key × V)) (L : List Ls) (H' : Hp), H d = none → Same H H' → H' d = some (.dT kvs) → Dl H' kvs L → ndK L → R L → Q (.ref d) H'
section
variable {P : Program} {wd : World} {K : PySem.W.Frag} {mg : Str → Option Value} {base : Heap} {C : Addr}
def spTk : Sp := fun vs H Q _ => ∃ (d : Addr) (c : Int) (kvs : List (List L2.Key × V)) (L : List Ls), vs = [.ref d, .int c] ∧ H d = some (.dT kvs) ∧ Dl H kvs L ∧ ndK L ∧ L.length ≤ 1000 ∧
  NewD H (fun L' => (∀ k, getL L' k = (getL L k).filter fun v => decide (c < v.2)) ∧ L'.length ≤ L.length) Q
theorem scTk : FnScope ["held", "clock", "later", "key"] ["held", "clock"] (defScope lTicked) := ⟨rfl, rfl, rfl, by decide +kernel, rfl, by decide +kernel, by decide +kernel⟩
theorem ok_tickedL {f : Addr} {fd : FuncData} (F : Fun K "_law_ticked" "_law_ticked" lTicked f fd) (Z : Bz mg) : FnOk P wd K mg base CX0 1 f fd ["held", "clock"] spTk := by
  refine F.ok scTk (fun vs H Q E h => ?_) (fun cdv A outer s H vs Q E hr h => ?_)
  · obtain ⟨d, c, kvs, L, rfl, _⟩ := h
    rfl
  obtain ⟨d, c, kvs, L, rfl, hd, dl, nd, hz, k⟩ := h
  refine ⟨_, pss_cons (ps_set (i := 2) scTk.nd rfl (.inl rfl) pe_dnewT)
    (pss_cons (ps_for PassesOwn.never rfl (pi_list (pe_callB (Hk.cr_sortDT rfl) (by rfl) Z.sort boot_sorted' (pa_cons (pv 0) pa_nil))) (pg_name (i := 3) scTk.nd rfl (Or.inl rfl))
      (pss_one (ps_if (pt_cmpR op_lt (pv 1) (pe_ix ix_tup (pe_dget (room_h1 hr) (pv 0) (pv 3) (fun _ _ => rfl)) pe_int (fun _ _ => rfl)) (nomark _))
        (pss_one (ps_asg (pe_dget (room_h1 hr) (pv 0) (pv 3) (fun _ _ => rfl)) (pg_sub (pv 2) (pv 3) (set_dict (room_h1 hr))))) pss_nil)))
    (pss_one (ps_ret (pv 2)))), ?_⟩
  refine fun d' hd' => ?_
  dsimp only [gName]
  have e0 : Ex H (upd H d' (.dT [])) := Ex.new hd'
  show tSeq _ _ _ [some (V.ref d), some (.int c), some (.ref d'), none] _
  refine ⟨_, rfl, d, kvs, L.map (·.1), rfl, e0 _ _ hd, dl.keys, fun zs p perm hs tups hp => ⟨p, rfl, ⟨_, sq_of upd_same⟩, ?_⟩⟩
  obtain ⟨zst, zg⟩ := byKeys_srt nd perm hs
  have znd := srt_nd zst
  have np : p ≠ d' := fun z => by rw [z, upd_same] at hp; cases hp
  have hp' : H p = none := fresh_back e0 hp
  refine for_it (walk_list (K := K) (a := p) (xs := zs.map fun z => V.ref z.1)) (fun i σ' H' => ∃ (x3 : Option V) (kvs' : List (List L2.Key × V)), σ' = [some (.ref d), some (.int c), some (.ref d'), x3] ∧ Ex H H' ∧ H' p = some (.lst (zs.map fun z => V.ref z.1)) ∧ H' d' = some (.dT kvs') ∧ Dl H' kvs' (((byKeys L (zs.map (·.2))).take i).filter fun l => decide (c < l.2.2)))
    ⟨_, [], rfl, e0.trans (Ex.new hp), upd_same, by rw [upd_ne np.symm, upd_same], .nil⟩ (fun i σ' H' _ ⟨x3, kvs', _, e, hpp, _⟩ => sq_of hpp) ?_ ?_
  · rintro i x σ' H0' H1 hi ⟨x3, kvs', rfl, e1, hp1, h1, dl1⟩ ⟨rfl, hx⟩
    rw [List.getElem?_map] at hx
    cases hzi : zs[i]? with
    | none => rw [hzi] at hx; cases hx
    | some z =>
      rw [hzi] at hx
      cases hx
      have ht := tups z (List.mem_of_getElem? hzi)
      have hz1 : H z.1 = some (.tup [.str z.2.1, .int z.2.2]) := by
        rw [upd_ne (fun e => by rw [e, upd_same] at ht; cases ht)] at ht
        exact ht
      have e2 : (byKeys L (zs.map (·.2)))[i]? = some (z.2, (getL L z.2).getD (0, 0)) := by
        unfold byKeys
        rw [List.getElem?_map, List.getElem?_map, hzi]
        rfl
      have hm : getL L z.2 = some ((getL L z.2).getD (0, 0)) := by
        have := getL_of znd (List.mem_of_getElem? e2)
        rw [zg] at this
        rw [this]
        rfl
      generalize (getL L z.2).getD (0, 0) = v at e2 hm
      obtain ⟨q, hv, hq⟩ := dl.vsome hm
      have dget : ∀ G, Ex H G → ∀ Q : VK, (Q (.ref q) G) → tDGet (tVar 0) (tVar 3) [some (.ref d), some (.int c), some (.ref d'), some (.ref z.1)] G Q := fun G eg Q qq => ⟨_, rfl, _, rfl, d, .ref q, rfl, by
        have := DGet.t (k := Hk.keySI z.2) (eg _ _ hd) (eg _ _ hz1)
        rw [hv] at this
        exact this, qq⟩
      show tIfS _ _ tNext _ [some (V.ref d), some (.int c), some (.ref d'), some (.ref z.1)] H1
      have tk := take_filter' (fun l : Ls => decide (c < l.2.2)) e2
      refine ⟨_, rfl, dget H1 e1 _ ⟨q, _, 1, .int v.2, rfl, rfl, st_of (e1 _ _ hq), rfl, _, _, rfl, rfl, _, rfl, ite2 (fun qt => ?_) (fun qt => ?_)⟩⟩
      · refine dget H1 e1 _ ⟨_, rfl, _, rfl, d', _, rfl, DPut.t (k := Hk.keySI z.2) h1 (e1 _ _ hz1) ?_, ?_⟩
        · have l1 := dl1.len
          have l2 := List.length_filter_le (fun l : Ls => decide (c < l.2.2)) ((byKeys L (zs.map (·.2))).take i)
          have l3 := List.length_take_le i (byKeys L (zs.map (·.2)))
          have l4 := len_of_get znd nd zg
          have l5 := List.length_take_le' i (byKeys L (zs.map (·.2)))
          exact sz_lt (by omega)
        · have nt : ∀ b zs, H1 b = some (.tup zs) → upd H1 d' (.dT (putK kvs' (Hk.keySI z.2) (.ref q))) b = some (.tup zs) := fun b zs hb => by
            rw [upd_ne (fun z => by rw [z, h1] at hb; cases hb)]
            exact hb
          refine ⟨_, _, rfl, Ex.mut e1 hd', by rw [upd_ne np]; exact hp1, upd_same, ?_⟩
          rw [tk, if_pos qt]
          have g0 := take_get_none znd e2 (fun l : Ls => decide (c < l.2.2))
          rw [putK_new _ (dl1.vnone g0)]
          exact (dl1.append (.cons (l := (z.2, v)) (e1 _ _ hq) .nil)).tups (by rw [← putK_new (v := V.ref q) (dl1.vnone g0)]; exact nt)
      · refine ⟨_, _, rfl, e1, hp1, h1, ?_⟩
        rw [tk, if_neg qt, List.append_nil]
        exact dl1
  · rintro σ' H1 ⟨x3, kvs', rfl, e1, hp1, h1, dl1⟩
    have el : (zs.map fun z => V.ref z.1).length = (byKeys L (zs.map (·.2))).length := by rw [List.length_map, byKeys_len, List.length_map]
    rw [el, List.take_length] at dl1
    refine ⟨_, rfl, k d' kvs' _ H1 hd' e1 h1 dl1 (ndK_filter znd _) ⟨fun j => ?_, ?_⟩⟩
    · rw [getL_filter znd, zg]
    · have l2 := List.length_filter_le (fun l : Ls => decide (c < l.2.2)) (byKeys L (zs.map (·.2)))
      have l4 := len_of_get znd nd zg
      omega
end
end Hs
namespace Hs
open PySem PySem.Spec PyProof.Rows L2 Hu Evl
open Hk (SI ltSI)
abbrev lHeld : Stmt := topS 108
theorem getL_snoc (A : List Ls) (l : Ls) (j : SI) : getL (A ++ [l]) j = match getL A j with | some v => some v | none => if l.1 = j then some l.2 else none := by
  induction A with
  | nil => rfl
  | cons a A ih =>
    rw [List.cons_append, getL_cons, getL_cons, ih]
    by_cases h : a.1 = j
    · rw [if_pos h, if_pos h]
    · rw [if_neg h, if_neg h]
/-- what stands behind the first rows -/
def over (f : Int × Int → Int × Int) (A L0 : List Ls) (j : SI) : Option (Int × Int) := match getL A j with | some v => some (f v) | none => getL L0 j
theorem over_put {f : Int × Int → Int × Int} {L L0 L' : List Ls} {i : Nat} {l : Ls} (n : ndK L) (hl : L[i]? = some l) (h : ∀ j, getL L' j = over f (L.take i) L0 j) : ∀ j, getL (putL L' l.1 (f l.2)) j = over f (L.take (i + 1)) L0 j := fun j => by
  have g0 := take_get_none n hl (fun _ => true)
  rw [List.filter_eq_self.mpr fun _ _ => rfl] at g0
  rw [getL_put]
  unfold over
  rw [List.take_add_one, hl]
  show (if j = l.1 then _ else _) = match getL (L.take i ++ [l]) j with | some v => some (f v) | none => getL L0 j
  rw [getL_snoc]
  by_cases e : j = l.1
  · rw [if_pos e, e, g0]
    simp
  · rw [if_neg e, h j]
    unfold over
    cases getL (L.take i) j with
    | some v => rfl
    | none =>
      show getL L0 j = match (if l.1 = j then some l.2 else none) with | some v => some (f v) | none => getL L0 j
      rw [if_neg fun e' => e e'.symm]
theorem Dl.at_ {H : Hp} {kvs : List (List L2.Key × V)} {L : List Ls} (h : Dl H kvs L) : ∀ {i : Nat} {k : List L2.Key} {v : V}, kvs[i]? = some (k, v) → ∃ l p, L[i]? = Option.some l ∧ k = Hk.keySI l.1 ∧ v = .ref p ∧ H p = Option.some (.tup [.int l.2.1, .int l.2.2]) := by
  induction h with
  | nil => exact fun e => by simp at e
  | @cons p l kvs L hp _ ih =>
    intro i k v e
    cases i with
    | zero =>
      cases e
      exact ⟨l, p, rfl, rfl, rfl, hp⟩
    | succ i => exact ih e
theorem find_nodup {α β : Type} [DecidableEq α] : ∀ {kvs : List (α × β)} {i : Nat} {k : α} {v : β}, (kvs.map (·.1)).Nodup → kvs[i]? = some (k, v) → kvs.find? (fun kv => decide (kv.1 = k)) = some (k, v)
  | [], i, k, v, _, h => by simp at h
  | a :: r, 0, k, v, _, h => by
    cases h
    rw [List.find?_cons_of_pos (by simp)]
  | a :: r, i + 1, k, v, n, h => by
    rw [List.map_cons, List.nodup_cons] at n
    have h2 : r[i]? = some (k, v) := h
    have ne : ¬ a.1 = k := fun e => n.1 (by rw [e]; exact List.mem_map.mpr ⟨(k, v), List.mem_of_getElem? h2, rfl⟩)
    rw [List.find?_cons_of_neg (by simpa using ne)]
    exact find_nodup n.2 h2
theorem held_loop {tb tz : TS} {D : Ends} {H : Hp} {d d3 : Addr} {c : Int} {y : V} {x4 x5 : Option V} {kvs kvs0 : List (List L2.Key × V)} {L L0 : List Ls} (f : Int × Int → Int × Int) (hd : H d = some (.dT kvs)) (dl : Dl H kvs L) (nd : ndK L) (h3 : H d3 = some (.dT kvs0)) (dl0 : Dl H kvs0 L0) (nd0 : ndK L0) (ne : d3 ≠ d) (hz : L.length + L0.length ≤ 3000)
    (hb : ∀ (D' : Ends) (l : Ls) (q pv : Addr) (od : Obj) (G : Hp) (kvs' : List (List L2.Key × V)), l ∈ L → G d = some (.frz od (.dT kvs)) → G q = some (.tup [.str l.1.1, .int l.1.2]) → valV kvs (Hk.keySI l.1) = some (.ref pv) → G pv = some (.tup [.int l.2.1, .int l.2.2]) → G d3 = some (.dT kvs') → kvs'.length < 100000 →
      (∀ p G', Ex G G' → G' p = some (.tup [.int (f l.2).1, .int (f l.2).2]) → D'.nx [some (.ref d), some (.int c), some y, some (.ref d3), some (.ref q), x5] (upd G' d3 (.dT (putK kvs' (Hk.keySI l.1) (.ref p))))) → tb D' [some (.ref d), some (.int c), some y, some (.ref d3), some (.ref q), x5] G)
    (k : ∀ (x4 : Option V) (kvs' : List (List L2.Key × V)) (L' : List Ls) (H' : Hp), (∀ b o, b ≠ d3 → H b = some o → H' b = some o) → H' d3 = some (.dT kvs') → Dl H' kvs' L' → ndK L' → L'.length ≤ L0.length + L.length → (∀ j, getL L' j = over f L L0 j) → tz D [some (.ref d), some (.int c), some y, some (.ref d3), x4, x5] H') :
    tSeq (tLock (tFor (iKeys (tVar 0)) (gName 4) tb)) tz D [some (.ref d), some (.int c), some y, some (.ref d3), x4, x5] H := by
  refine ⟨d, .dT kvs, hd, True.intro, fun od => ⟨_, rfl, d, od, rfl, .inr ⟨kvs, upd_same, ?_⟩⟩⟩
  have lk := dl.len
  have tupd : ∀ {G : Hp} {o : HO}, G d = some o → (∀ zs, o ≠ .tup zs) → ∀ b zs o', G b = some (.tup zs) → upd G d o' b = some (.tup zs) := fun {G o} hg hn b zs o' hb => by
    rw [upd_ne (fun z => by rw [z, hg] at hb; exact hn zs (Option.some.inj hb))]
    exact hb
  refine for_it walk_keysT (fun i σ' H' => ∃ (x4 : Option V) (kvs' : List (List L2.Key × V)) (L' : List Ls), σ' = [some (.ref d), some (.int c), some y, some (.ref d3), x4, x5] ∧ (∀ b o, b ≠ d3 → b ≠ d → H b = some o → H' b = some o) ∧ H' d = some (.frz od (.dT kvs)) ∧ H' d3 = some (.dT kvs') ∧ Dl H' kvs' L' ∧ ndK L' ∧ L'.length ≤ L0.length + i ∧ ∀ j, getL L' j = over f (L.take i) L0 j)
    ⟨x4, kvs0, L0, rfl, fun b o _ nb hb => by rw [upd_ne nb]; exact hb, upd_same, by rw [upd_ne ne]; exact h3, dl0.tups fun b zs hb => tupd hd (fun zs z => by cases z) b zs _ hb, nd0, Nat.le_refl _, fun j => rfl⟩ (fun i σ' H' _ ⟨_, _, _, _, _, hf, _⟩ => hf) ?_ ?_
  · rintro i x σ' H0' G hi ⟨x4', kvs', L', rfl, kp, hf, h3', dl', nd', ln', ov⟩ ⟨rfl, kk, vv, q, hkv, rfl, hq⟩
    obtain ⟨l, pv, hl, rfl, rfl, hpv⟩ := dl.at_ hkv
    have hlm := List.mem_of_getElem? hl
    have keepT : ∀ b zs, H b = some (.tup zs) → G b = some (.tup zs) := fun b zs hb => kp b _ (fun z => by rw [z, h3] at hb; cases hb) (fun z => by rw [z, hd] at hb; cases hb) hb
    have hval : valV kvs (Hk.keySI l.1) = some (.ref pv) := by
      obtain ⟨p2, e1, e2⟩ := dl.vsome (getL_of nd hlm)
      rw [e1]
      have : kvs.find? (fun kv => decide (kv.1 = Hk.keySI l.1)) = some (Hk.keySI l.1, .ref pv) := by
        have hnk : (kvs.map (·.1)).Nodup := by
          rw [dl.keys]
          exact List.Pairwise.map _ (fun a b h e => h (keySI_inj e)) nd
        exact find_nodup hnk hkv
      unfold valV at e1
      rw [this] at e1
      exact e1.symm
    have li : i < L.length := (List.getElem?_eq_some_iff.mp hl).1
    refine hb _ l q pv od G kvs' hlm hf hq hval (keepT _ _ hpv) h3' (by rw [dl'.len]; omega) fun p G' eg hp => ?_
    have h3g : G' d3 = some (.dT kvs') := eg _ _ h3'
    have nt : ∀ b zs, G' b = some (.tup zs) → upd G' d3 (.dT (putK kvs' (Hk.keySI l.1) (.ref p))) b = some (.tup zs) := fun b zs hb => by
      rw [upd_ne (fun z => by rw [z, h3g] at hb; cases hb)]
      exact hb
    dsimp only
    refine ⟨_, _, putL L' l.1 (f l.2), rfl, fun b o n1 n2 hb => by rw [upd_ne n1]; exact eg _ _ (kp b o n1 n2 hb), by rw [upd_ne ne.symm]; exact eg _ _ hf, upd_same, (Dl.put (v := f l.2) nd' (dl'.tups fun b zs hb => eg _ _ hb) hp).tups nt, ndK_put nd', Nat.le_trans (len_put _ _ _) (by omega), over_put nd hl ov⟩
  · rintro σ' H' ⟨x4', kvs', L', rfl, kp, hf, h3', dl', nd', ln', ov⟩
    rw [lk, List.take_length] at ov
    rw [lk] at ln'
    refine ⟨hf, k x4' kvs' L' _ (fun b o n1 hb => ?_) (by rw [upd_ne ne]; exact h3') (dl'.tups fun b zs hb => tupd hf (fun zs z => by cases z) b zs _ hb) nd' ln' ov⟩
    by_cases e : b = d
    · rw [e, upd_same]
      rw [e, hd] at hb
      exact hb
    · rw [upd_ne e]
      exact kp b o n1 e hb
end Hs
namespace Hs
open PySem PySem.Spec PyProof.Rows L2 Hu Evl
open Hk (SI ltSI)
section
variable {P : Program} {wd : World} {K : PySem.W.Frag} {mg : Str → Option Value} {base : Heap} {C : Addr}
def spHb (C : Addr) : Sp := fun vs H Q _ => ∃ (d : Addr) (c : Int) (y : V) (w : Addr) (D : Deed) (kvs : List (List L2.Key × V)) (L : List Ls), vs = [.ref d, .int c, y] ∧ H d = some (.dT kvs) ∧ Dl H kvs L ∧ ndK L ∧ L.length ≤ 900 ∧ At w C H y (deedU D) ∧ D.ok ∧
  NewD H (fun L' => (∀ k, getL L' k = fD D c k (getL L k)) ∧ L'.length ≤ L.length + 1) Q
theorem scHb : FnScope ["held", "clock", "deed", "later", "key", "talk"] ["held", "clock", "deed"] (defScope lHeld) := ⟨rfl, rfl, rfl, by decide +kernel, rfl, by decide +kernel, by decide +kernel⟩
theorem over_id {L : List Ls} (j : SI) : over (fun v => v) L [] j = getL L j := by
  unfold over
  cases getL L j with
  | some v => rfl
  | none => rfl
set_option maxHeartbeats 1000000 in
theorem ok_heldL {f fT : Addr} {fd dT : FuncData} (F : Fun K "_law_held_behind" "_law_held_behind" lHeld f fd) (B : Bt mg) (DT : Df K mg "_law_ticked" lTicked ["held", "clock"] fT dT) (GT : FnOk P wd K mg base CX0 1 fT dT ["held", "clock"] spTk) : FnOk P wd K mg base CX0 2 f fd ["held", "clock", "deed"] (spHb C) := by
  refine F.ok scHb (fun vs H Q E h => ?_) (fun cdv A outer s H vs Q E hr h => ?_)
  · obtain ⟨d, c, y, w, D, kvs, L, rfl, _⟩ := h
    rfl
  obtain ⟨d, c, y, w, De, kvs, L, rfl, hd, dl, nd, hz, hy, hok, k⟩ := h
  refine ⟨_, pss_cons (ps_set (i := 3) scHb.nd rfl (.inl rfl) pe_dnewT)
    (pss_cons (ps_lock (ps_for PassesOwn.never rfl (pi_keys (pv 0)) (pg_name (i := 4) scHb.nd rfl (Or.inl rfl)) (pss_one (ps_asg (pe_dget (room_h1 hr) (pv 0) (pv 4) (fun _ _ => rfl)) (pg_sub (pv 3) (pv 4) (set_dict (room_h1 hr)))))))
    (pss_cons (ps_if (pt_cmpR op_eq (pe_ix ix_tup (pv 2) pe_int (fun _ _ => rfl)) pe_str (nomark _)) (pss_one (ps_ret (pe_call GT hr (by rfl) DT.g DT.F.kp DT.b .nil pass0 (pa_cons (pv 3) (pa_cons (pv 1) pa_nil))))) pss_nil)
    (pss_cons (ps_if (pt_cmpR op_eq (pe_ix ix_tup (pv 2) pe_int (fun _ _ => rfl)) pe_str (nomark _))
      (pss_cons (ps_lock (ps_for PassesOwn.never rfl (pi_keys (pv 0)) (pg_name (i := 4) scHb.nd rfl (Or.inl rfl)) (pss_one (ps_asg (pe_tup (pa_cons (pe_ix ix_tup (pe_dget (room_h1 hr) (pv 0) (pv 4) (fun _ _ => rfl)) pe_int (fun _ _ => rfl)) (pa_cons (pe_op op_add (pv 1) pe_int) pa_nil))) (pg_sub (pv 3) (pv 4) (set_dict (room_h1 hr)))))))
        (pss_one (ps_ret (pv 3)))) pss_nil)
    (pss_cons (ps_set (i := 4) scHb.nd rfl (.inl rfl) (pe_slice sl_tupA (pv 2) (po_some pe_int) (po_some pe_int)))
    (pss_cons (ps_if (pt_cmpR op_eq (pe_ix ix_tup (pv 2) pe_int (fun _ _ => rfl)) pe_str (nomark _))
      (pss_cons (ps_set (i := 5) scHb.nd rfl (.inl rfl) (pe_ix ix_tup (pv 2) pe_int (fun _ _ => rfl)))
      (pss_cons (ps_if (pt_cmp (pc_din (room_h1 hr) (pv 4) (pv 0)) (by rfl)) (pss_one (ps_set (i := 5) scHb.nd rfl (.inl rfl) (pe_callB (call_max2 rfl) (by rfl) B.max boot_max' (pa_cons (pv 5) (pa_cons (pe_ix ix_tup (pe_dget (room_h1 hr) (pv 0) (pv 4) (fun _ _ => rfl)) pe_int (fun _ _ => rfl)) pa_nil))))) pss_nil)
      (pss_one (ps_asg (pe_tup (pa_cons (pv 5) (pa_cons (pe_op op_add (pv 1) pe_int) pa_nil))) (pg_sub (pv 3) (pv 4) (set_dict (room_h1 hr)))))))
      (pss_one (ps_if (PW.pt (pw_and (pt_cmp (pc_din (room_h1 hr) (pv 4) (pv 0)) (by rfl)) (pw_and1 (pt_cmpR op_lt (pe_ix ix_tup (pe_dget (room_h1 hr) (pv 0) (pv 4) (fun _ _ => rfl)) pe_int (fun _ _ => rfl)) (pe_ix ix_tup (pv 2) pe_int (fun _ _ => rfl)) (nomark _)))))
        (pss_one (ps_expr (pe_bm PySem.F.plainAttrs_dict PySem.F.slot_dict_pop PySem.F.type_dict_pop (Hk.mt_pop1T (room_h1 hr)) (pv 3) (pa_cons (pv 4) pa_nil)))) pss_nil)))
    (pss_one (ps_ret (pv 3)))))))), ?_⟩
  refine fun d3 hd3 => ?_
  dsimp only [gName]
  have e0 : Ex H (upd H d3 (.dT [])) := Ex.new hd3
  have ne : d3 ≠ d := fun z => by rw [z, hd] at hd3; cases hd3
  have one : (1 : Nat) ≤ 100000 := by decide
  have two : (2 : Nat) ≤ 100000 := by decide
  have frz : ∀ {G : Hp} {od : Obj} {l : Ls} {q pv : Addr}, G d = some (.frz od (.dT kvs)) → G q = some (.tup [.str l.1.1, .int l.1.2]) → valV kvs (Hk.keySI l.1) = some (.ref pv) → DGet G d (.ref q) (some (.ref pv)) := fun {G od l q pv} h1 h2 h3 => .inr ⟨kvs, Hk.keySI l.1, q, .inr ⟨od, h1⟩, rfl, h2, h3.symm⟩
  refine held_loop (x4 := none) (x5 := none) (kvs0 := []) (L0 := []) (fun v => v) (e0 _ _ hd) (dl.tups fun b zs hb => e0 _ _ hb) nd upd_same .nil .nil ne (by show L.length + 0 ≤ 3000; omega) (fun D' l q pv od G kvs' hl hf hq hv hpv h3 hz' fin => ?_) fun x4 kvs1 L1 H1 kp h1 dl1 nd1 ln1 ov1 => ?_
  · exact ⟨_, rfl, _, rfl, d, .ref pv, rfl, frz hf hq hv, _, rfl, _, rfl, d3, _, rfl, DPut.t (k := Hk.keySI l.1) h3 hq (sz_lt hz'), fin pv G (Ex.refl G) hpv⟩
  have e1 : Ex H H1 := fun b o hb => kp b o (fun z => by rw [z, hd3] at hb; cases hb) (e0 _ _ hb)
  have g1 : ∀ j, getL L1 j = getL L j := fun j => (ov1 j).trans (over_id j)
  have l1 : L1.length ≤ L.length := by
    have : ([] : List Ls).length + L.length = L.length := by simp
    omega
  have hd1 : H1 d = some (.dT kvs) := e1 _ _ hd
  have dl' : Dl H1 kvs L := dl.tups fun b zs hb => e1 _ _ hb
  obtain ⟨b, xs, rfl, hb0, _, hl⟩ := at_tup hy
  have hb := e1 _ _ hb0
  show tSeq _ _ _ [some (V.ref d), some (.int c), some (.ref b), some (.ref d3), x4, none] H1
  -- what a pair looks up
  have look : ∀ {G : Hp} {p : Addr} {kk : SI}, Ex H1 G → G p = some (.tup [.str kk.1, .int kk.2]) → DGet G d (.ref p) (valV kvs (Hk.keySI kk)) := fun {G p kk} eg hp => DGet.t (k := Hk.keySI kk) (eg _ _ hd1) hp
  have isin : ∀ {G : Hp} {p : Addr} {kk : SI} {σ : L2.St}, Ex H1 G → G p = some (.tup [.str kk.1, .int kk.2]) → σ[4]? = some (some (.ref p)) → σ[0]? = some (some (.ref d)) → EvT (tTest (tDIn (tVar 4) (tVar 0))) σ G (getL L kk).isSome := fun {G p kk σ} eg hp h4 h0 G1 e Q q => by
    have es : (valV kvs (Hk.keySI kk)).isSome = (getL L kk).isSome := by
      cases g : getL L kk with
      | none => rw [dl.vnone g]; rfl
      | some v =>
        obtain ⟨p2, e2, _⟩ := dl.vsome g
        rw [e2]
        rfl
    refine ⟨_, h4, _, h0, d, _, rfl, look (eg.trans e) (e _ _ hp), _, rfl, ?_⟩
    rw [es]
    exact q G1 (Ex.refl G1)
  have talkOf : ∀ {G : Hp} {p : Addr} {kk : SI} {σ : L2.St} {v : Int × Int}, Ex H1 G → G p = some (.tup [.str kk.1, .int kk.2]) → σ[4]? = some (some (.ref p)) → σ[0]? = some (some (.ref d)) → getL L kk = some v → Ev (tOp (rIxT K) (tDGet (tVar 0) (tVar 4)) (tC (.int 0))) σ G (.int v.1) := fun {G p kk σ v} eg hp h4 h0 g G1 e Q q => by
    obtain ⟨p2, e2, hp2⟩ := dl'.vsome g
    have dg := look (eg.trans e) (e _ _ hp)
    rw [e2] at dg
    exact ⟨_, h0, _, h4, d, .ref p2, rfl, dg, p2, _, 0, _, rfl, rfl, st_of ((eg.trans e) _ _ hp2), rfl, q G1 (Ex.refl G1)⟩
  cases De with
  | tick =>
    have hx : xs = [.str "tick"] := by
      cases hl with
      | cons h1 h2 => cases h2 with
        | nil => rw [at_str h1]; rfl
    subst hx
    refine q_when (b := true) (et_test (ev_is (ev_op (ev_ixT (j := 0) (ev_var rfl) hb rfl) ev_c (rv_eq rfl)) (by decide +kernel))) (fun _ H2 e2 => ?_) (fun q => by cases q)
    exact ⟨_, rfl, _, rfl, d3, c, kvs1, L1, rfl, e2 _ _ h1, dl1.tups (fun b zs hb => e2 _ _ hb), nd1, by omega, fun d' kvs' L' H' hn s hk dl2 nd' r => k d' kvs' L' H' (fresh_back (e1.trans e2) hn) ((e1.trans e2).trans s) hk dl2 nd' ⟨fun j => by rw [r.1 j, g1]; rfl, by have := r.2; omega⟩⟩
  | rise =>
    have hx : xs = [.str "rise"] := by
      cases hl with
      | cons h1 h2 => cases h2 with
        | nil => rw [at_str h1]; rfl
    subst hx
    refine q_when (b := false) (et_test (ev_is (ev_op (ev_ixT (j := 0) (ev_var rfl) hb rfl) ev_c (rv_eq rfl)) (by decide +kernel))) (fun q => by cases q) (fun _ H2 e2 => ?_)
    refine q_when (b := true) (et_test (ev_is (ev_op (ev_ixT (j := 0) (ev_var rfl) (e2 _ _ hb) rfl) ev_c (rv_eq rfl)) (by decide +kernel))) (fun _ H3 e3 => ?_) (fun q => by cases q)
    have e13 := e2.trans e3
    refine held_loop (fun v => (v.1, c + 8)) (e13 _ _ hd1) (dl'.tups fun b zs hb => e13 _ _ hb) nd (e13 _ _ h1) (dl1.tups fun b zs hb => e13 _ _ hb) nd1 ne (by omega) (fun D' l q pv od G kvs' hl hf hq hv hpv h3 hz' fin => ?_) fun x4' kvs2 L2' H4 kp4 h4 dl4 nd4 ln4 ov4 => ?_
    · exact ⟨_, rfl, _, rfl, d, .ref pv, rfl, frz hf hq hv, pv, _, 0, _, rfl, rfl, st_of hpv, rfl, _, rfl, _, _, rfl, rfl, sz_of two, fun p hp => ⟨_, rfl, _, rfl, d3, _, rfl, DPut.t (k := Hk.keySI l.1) (Ex.new hp _ _ h3) (Ex.new hp _ _ hq) (sz_lt hz'), fin p _ (Ex.new hp) upd_same⟩⟩
    · have e4 : Ex H H4 := fun b o hb => kp4 b o (fun z => by rw [z, hd3] at hb; cases hb) (e13 _ _ (e1 _ _ hb))
      refine ⟨_, rfl, k d3 kvs2 _ H4 hd3 e4 h4 dl4 nd4 ⟨fun j => ?_, ?_⟩⟩
      · rw [ov4 j]
        unfold over
        show _ = (getL L j).map fun v => (v.1, c + 8)
        cases g : getL L j with
        | some v => rfl
        | none =>
          show getL L1 j = none
          rw [g1, g]
      · have lg := len_of_get (A := L2') (B := L1) nd4 nd1
        have : L2'.length ≤ L.length := by
          have key : ∀ l ∈ L2'.map (·.1), l ∈ L.map (·.1) := fun x hx => by
            obtain ⟨l, hl, rfl⟩ := List.mem_map.mp hx
            have := getL_of nd4 hl
            rw [ov4] at this
            unfold over at this
            cases g : getL L l.1 with
            | some v => exact List.mem_map.mpr ⟨_, getL_mem g, rfl⟩
            | none =>
              rw [g] at this
              dsimp only at this
              rw [g1, g] at this
              cases this
          have := List.Nodup.length_le_of_subset nd4 key
          rwa [List.length_map, List.length_map] at this
        omega
  | lease kk t =>
    have hx : xs = [.str "lease", .str kk.1, .int kk.2, .int t] := by
      obtain ⟨a1, a2, a3, a4, rfl, q1, q2, q3, q4⟩ := atl_four hl
      rw [at_str q1, at_str q2, at_int q3, at_int q4]
      rfl
    subst hx
    refine q_when (b := false) (et_test (ev_is (ev_op (ev_ixT (j := 0) (ev_var rfl) hb rfl) ev_c (rv_eq rfl)) (by decide +kernel))) (fun q => by cases q) (fun _ H2 e2 => ?_)
    refine q_when (b := false) (et_test (ev_is (ev_op (ev_ixT (j := 0) (ev_var rfl) (e2 _ _ hb) rfl) ev_c (rv_eq rfl)) (by decide +kernel))) (fun q => by cases q) (fun _ H3 e3 => ?_)
    have e13 := e2.trans e3
    refine q_asgU (eu_cut (K := K) (ev_var rfl) (e13 _ _ hb) (eo_some ev_c) (eo_some ev_c) (fun h => absurd h.1 (show ¬ (HT.sIx 4 0 (some 1) = 0) from by decide))) fun p H4 hp e4 hk => ?_
    have hk' : H4 p = some (.tup [.str kk.1, .int kk.2]) := hk
    have e14 := e13.trans e4
    refine q_if (b := true) (et_test (ev_is (ev_op (ev_ixT (j := 0) (ev_var rfl) (e14 _ _ hb) rfl) ev_c (rv_eq rfl)) (by decide +kernel))) (fun _ H5 e5 => ?_) (fun q => by cases q)
    have e15 := e14.trans e5
    refine q_asg (ev_ixT (j := 3) (ev_var rfl) (e15 _ _ hb) rfl) fun H6 e6 => ?_
    have e16 := e15.trans e6
    have hk6 := e6 _ _ (e5 _ _ hk')
    refine q_ifAsg (b := (getL L kk).isSome) (v := .int (match getL L kk with | some v => max t v.1 | none => t)) (isin e16 hk6 rfl rfl) (fun q => ?_) (fun q => ?_) fun H7 e7 => ?_
    · cases g : getL L kk with
      | none => rw [g] at q; cases q
      | some v =>
        refine ev_cb (ea_cons (ev_var rfl) (ea_cons (talkOf e16 hk6 rfl rfl g) ea_nil)) fun G e Q q => ⟨_, _, rfl, ?_⟩
        have : (if v.1 > t then v.1 else t) = max t v.1 := by
          rw [Int.max_def]
          by_cases h : v.1 > t
          · rw [if_pos h, if_pos (by omega)]
          · rw [if_neg h]
            by_cases h2 : t ≤ v.1
            · rw [if_pos h2]
              omega
            · rw [if_neg h2]
        rw [this]
        exact q G (Ex.refl G)
    · cases g : getL L kk with
      | none => rfl
      | some v => rw [g] at q; cases q
    · have e17 := e16.trans e7
      generalize htt : (match getL L kk with | some v => max t v.1 | none => t) = tt
      refine (eu_tup (ea_cons (ev_var rfl) (ea_cons (ev_op (ev_var rfl) ev_c rv_I0) ea_nil)) two) H7 (Ex.refl H7) _ fun nv H8 _ e8 hnv => ?_
      have e18 := e17.trans e8
      have h8 : H8 d3 = some (.dT kvs1) := e18 _ _ h1
      have hk8 : H8 p = some (.tup [.str kk.1, .int kk.2]) := e8 _ _ (e7 _ _ hk6)
      refine ⟨_, rfl, _, rfl, d3, _, rfl, DPut.t (k := Hk.keySI kk) h8 hk8 (sz_lt (by rw [dl1.len]; omega)), ?_⟩
      have nt : ∀ b zs, H8 b = some (.tup zs) → upd H8 d3 (.dT (putK kvs1 (Hk.keySI kk) (.ref nv))) b = some (.tup zs) := fun b zs hb => by
        rw [upd_ne (fun z => by rw [z, h8] at hb; cases hb)]
        exact hb
      refine ⟨_, rfl, k d3 _ (putL L1 kk (tt, c + 8)) _ hd3 (Ex.mut (e1.trans e18) hd3) upd_same ((Dl.put (v := (tt, c + 8)) nd1 (dl1.tups fun b zs hb => e18 _ _ hb) hnv).tups nt) (ndK_put nd1) ⟨fun j => ?_, by have := len_put L1 kk (tt, c + 8); omega⟩⟩
      rw [getL_put, g1]
      show _ = if j = kk then some (match getL L j with | some v => max t v.1 | none => t, c + 8) else getL L j
      by_cases h : j = kk
      · rw [if_pos h, if_pos h, h, htt]
      · rw [if_neg h, if_neg h]
  | free kk t =>
    have hx : xs = [.str "free", .str kk.1, .int kk.2, .int t] := by
      obtain ⟨a1, a2, a3, a4, rfl, q1, q2, q3, q4⟩ := atl_four hl
      rw [at_str q1, at_str q2, at_int q3, at_int q4]
      rfl
    subst hx
    refine q_when (b := false) (et_test (ev_is (ev_op (ev_ixT (j := 0) (ev_var rfl) hb rfl) ev_c (rv_eq rfl)) (by decide +kernel))) (fun q => by cases q) (fun _ H2 e2 => ?_)
    refine q_when (b := false) (et_test (ev_is (ev_op (ev_ixT (j := 0) (ev_var rfl) (e2 _ _ hb) rfl) ev_c (rv_eq rfl)) (by decide +kernel))) (fun q => by cases q) (fun _ H3 e3 => ?_)
    have e13 := e2.trans e3
    refine q_asgU (eu_cut (K := K) (ev_var rfl) (e13 _ _ hb) (eo_some ev_c) (eo_some ev_c) (fun h => absurd h.1 (show ¬ (HT.sIx 4 0 (some 1) = 0) from by decide))) fun p H4 hp e4 hk => ?_
    have hk' : H4 p = some (.tup [.str kk.1, .int kk.2]) := hk
    have e14 := e13.trans e4
    refine q_if (b := false) (et_test (ev_is (ev_op (ev_ixT (j := 0) (ev_var rfl) (e14 _ _ hb) rfl) ev_c (rv_eq rfl)) (by decide +kernel))) (fun q => by cases q) (fun _ H5 e5 => ?_)
    have e15 := e14.trans e5
    have hk5 := e5 _ _ hk'
    have fin : ∀ (G : Hp) (kvs2 : List (List L2.Key × V)) (L2' : List Ls), Ex H G → G d3 = some (.dT kvs2) → Dl G kvs2 L2' → ndK L2' → (∀ j, getL L2' j = fD (.free kk t) c j (getL L j)) → L2'.length ≤ L.length + 1 → tRet (tVar 3) { nx := fun x H' => Q V.non H', rt := Q } [some (.ref d), some (.int c), some (.ref b), some (.ref d3), some (.ref p), none] G :=
      fun G kvs2 L2' eg h3 dl3 nd3 hg hln => ⟨_, rfl, k d3 kvs2 L2' G hd3 eg h3 dl3 nd3 ⟨hg, hln⟩⟩
    have cond : EvT (tAnd (tTest (tDIn (tVar 4) (tVar 0))) (tTest (tOp (rI0 fun i j => .bl (decide (i < j))) (tOp (rIxT K) (tDGet (tVar 0) (tVar 4)) (tC (.int 0))) (tOp (rIxT K) (tVar 2) (tC (.int 3)))))) [some (.ref d), some (.int c), some (.ref b), some (.ref d3), some (.ref p), none] H5 ((getL L kk).isSome && match getL L kk with | some v => decide (v.1 < t) | none => false) := by
      refine et_and (isin e15 hk5 rfl rfl) fun q => ?_
      cases g : getL L kk with
      | none => rw [g] at q; cases q
      | some v => exact et_test (ev_op (talkOf e15 hk5 rfl rfl g) (ev_ixT (j := 3) (ev_var rfl) (e15 _ _ hb) rfl) rv_I0)
    refine s_when cond (fun q H6 e6 => ?_) (fun q H6 e6 => ?_)
    · have e16 := e15.trans e6
      cases g : getL L kk with
      | none => rw [g] at q; cases q
      | some v =>
        rw [g] at q
        have q' : v.1 < t := by simpa using q
        have g' : getL L1 kk = some v := by rw [g1, g]
        have h6 : H6 d3 = some (.dT kvs1) := e16 _ _ h1
        obtain ⟨p2, hv2, _⟩ := dl1.vsome g'
        refine ⟨_, rfl, .inr (.inr (.inl ⟨rfl, .inr ⟨_, h6⟩⟩)), _, rfl, d3, p, kvs1, Hk.keySI kk, _, rfl, rfl, h6, e6 _ _ hk5, hv2, ?_⟩
        have nt : ∀ b zs, H6 b = some (.tup zs) → upd H6 d3 (.dT (dropK kvs1 (Hk.keySI kk))) b = some (.tup zs) := fun b zs hb => by
          rw [upd_ne (fun z => by rw [z, h6] at hb; cases hb)]
          exact hb
        refine fin _ _ (dropL L1 kk) (Ex.mut (e1.trans e16) hd3) upd_same (((dl1.tups fun b zs hb => e16 _ _ hb).drop kk).tups nt) (ndK_filter nd1 _) (fun j => ?_) (by have := List.length_filter_le (fun l : Ls => decide (l.1 ≠ kk)) L1; unfold dropL; omega)
        rw [getL_drop nd1, g1]
        show _ = if j = kk then (getL L j).filter (fun v => decide (t ≤ v.1)) else getL L j
        by_cases h : j = kk
        · rw [if_pos h, if_pos h, h, g, Option.filter_some, if_neg (by simpa using q')]
        · rw [if_neg h, if_neg h]
    · have e16 := e15.trans e6
      refine fin H6 kvs1 L1 (e1.trans e16) (e16 _ _ h1) (dl1.tups fun b zs hb => e16 _ _ hb) nd1 (fun j => ?_) (by omega)
      rw [g1]
      show _ = if j = kk then (getL L j).filter (fun v => decide (t ≤ v.1)) else getL L j
      by_cases h : j = kk
      · rw [if_pos h, h]
        cases g : getL L kk with
        | none => rfl
        | some v =>
          rw [g] at q
          have q' : ¬ v.1 < t := by simpa using q
          rw [Option.filter_some, if_pos (by simpa using (show t ≤ v.1 by omega))]
      · rw [if_neg h]
end
end Hs
namespace Hs
open PySem PySem.Spec PyProof.Rows L2 Hu Evl
open Hk (SI ltSI)
abbrev lIsTable : Stmt := topS 109
abbrev lLeaseOf : Stmt := topS 110
section
variable {P : Program} {wd : World} {K : PySem.W.Frag} {mg : Str → Option Value} {base : Heap} {C : Addr}
/-- two tables alike but for clock and leases -/
structure Sib (T T' : Tb) : Prop where
  e : T'.e = T.e
  m : T'.m = T.m
  a : T'.a = T.a
  h : T'.h = T.h
  b : T'.b = T.b
  p : T'.p = T.p
  v : T'.v = T.v
  n : T'.n = T.n
theorem q_asgD {te : TE} {i : Nat} {tz : TS} {D : Ends} {σ : L2.St} {H : Hp} {u : U} {w C : Addr} (h : EvD w C te σ H u) (k : ∀ v H1, Ex H H1 → At w C H1 v u → tz D (σ.set i (some v)) H1) : tSeq (tAsg te (gName i)) tz D σ H := h H (Ex.refl H) _ fun v H1 e a => k v H1 e a
def spIt (C : Addr) : Sp := fun vs H Q _ => ∃ (x y : V) (c : Int) (d : Addr) (w : Addr) (T0 T1 : Tb) (kvs : List (List L2.Key × V)) (L : List Ls), vs = [x, y, .int c, .ref d] ∧ At w C H x (tabU T1) ∧ At w C H y (tabU T0) ∧ (∃ o, H w = some o) ∧ H d = some (.dT kvs) ∧ Dl H kvs L ∧ ndK L ∧ L.length ≤ 1000 ∧
  srt T1.ls ∧ (∀ k, getL T1.ls k = getL L k) ∧ Sib T0 T1 ∧ T1.clock = c ∧ Sm (tabU T1) ∧ pln (tabU T1) ∧ dep (tabU T1) < 12 ∧ ∀ H', Same H H' → Q (.bl true) H'
theorem scIt : FnScope ["told", "table", "clock", "held", "key", "leases", "due"] ["told", "table", "clock", "held"] (defScope lIsTable) := ⟨rfl, rfl, rfl, by decide +kernel, rfl, by decide +kernel, by decide +kernel⟩
theorem ok_isTabL {f fA : Addr} {fd dA : FuncData} (F : Fun K "_law_is_table" "_law_is_table" lIsTable f fd) (B : Bt mg) (Z : Bz mg) (DA : Df K mg "_law_alike" lAlike ["told", "due"] fA dA) (GA : FnOk P wd K mg base CX0 12 fA dA ["told", "due"] (spAl C 12)) : FnOk P wd K mg base CX0 13 f fd ["told", "table", "clock", "held"] (spIt C) := by
  refine F.ok scIt (fun vs H Q E h => ?_) (fun cdv A outer s H vs Q E hr h => ?_)
  · obtain ⟨x, y, c, d, w, T0, T1, kvs, L, rfl, _⟩ := h
    rfl
  obtain ⟨x, y, c, d, w, T0, T1, kvs, L, rfl, hx, hy, hw, hd, dl, nd, hz, st, hg, sib, hc, sm, pl, dp, k⟩ := h
  refine ⟨_, pss_cons (ps_set (i := 5) scIt.nd rfl (.inl rfl) (pe_callTy call_tuple_of (by rfl) B.tup boot_tuple' (pa_cons (pe_lc (own := [("key", 4)]) (g := gName 4) (tt := tYes) rfl scIt.nd (pi_list (pe_callB (Hk.cr_sortDT rfl) (by rfl) Z.sort boot_sorted' (pa_cons (pv 3) pa_nil)))
      (blkOk_by (N := ["told", "table", "clock", "held", "key", "leases", "due"]) (sc := defScope lIsTable) (by decide +kernel)) (fun _ _ _ _ _ => pg_name (i := 4) scIt.nd rfl (Or.inl rfl)) (fun _ _ _ _ _ => pts_nil)
      (fun _ _ _ _ _ => pe_op (show OpR _ _ (rCatA K) from op_catA) (pv 4) (pe_dget (room_h1 hr) (pv 3) (pv 4) (fun _ _ => rfl)))) pa_nil)))
    (pss_cons (ps_set (i := 6) scIt.nd rfl (.inl rfl) (pe_op op_catA (pe_op op_catA (pe_op op_catA (pe_op op_catA (pe_slice sl_tupA (pv 1) po_none (po_some pe_int)) (pe_tup (pa_cons (pv 2) pa_nil))) (pe_slice sl_tupA (pv 1) (po_some pe_int) (po_some pe_int))) (pe_tup (pa_cons (pv 5) pa_nil))) (pe_slice sl_tupA (pv 1) (po_some pe_int) po_none)))
    (pss_one (ps_ret (pe_call GA hr (by rfl) DA.g DA.F.kp DA.b .nil pass0 (pa_cons (pv 0) (pa_cons (pv 6) pa_nil)))))), ?_⟩
  refine q_asgD (ed_order (K := K) (C := C) (w := w) (σ := [some x, some y, some (.int c), some (.ref d), none, none, none]) (dv := 3) (j := 4) rfl (fun _ => rfl) (fun _ => rfl) (fun _ => rfl) hd dl nd st hg (by omega) hw) fun v H1 e1 av => ?_
  obtain ⟨a, ys, rfl, ha, na, hl⟩ := at_tup (ex_at e1 hy)
  have hw1 := hw.imp fun o z => e1 _ _ z
  have one : (1 : Nat) ≤ 100000 := by decide
  have hl' : AtL w C H1 ys [T0.e, T0.m, T0.a, .int T0.clock, T0.h, T0.b, .tup (T0.ls.map lsU), T0.p, T0.v, T0.n] := hl
  have main : EvD w C (tOp (rCatA K) (tOp (rCatA K) (tOp (rCatA K) (tOp (rCatA K) (tSl (rSlA K) (tVar 1) tNoPart (tPart (tC (.int 3)))) (tTup (tCons (tVar 2) tNil))) (tSl (rSlA K) (tVar 1) (tPart (tC (.int 4))) (tPart (tC (.int 6))))) (tTup (tCons (tVar 5) tNil))) (tSl (rSlA K) (tVar 1) (tPart (tC (.int 7))) tNoPart)) [some x, some (V.ref a), some (.int c), some (.ref d), none, some v, none] H1 (tabU T1) := by
    have r := ed_cat (K := K) hw1 (ed_cat (K := K) hw1 (ed_cat (K := K) hw1 (ed_cat (K := K) hw1 (ed_slice (K := K) (te := tVar 1) (σ := [some x, some (V.ref a), some (.int c), some (.ref d), none, some v, none]) hw1 (ev_var rfl) ha na hl' eo_none (eo_some (i := 3) (te := tC (.int 3)) ev_c)) (ed_tup hw1 (eds_cons (ed_ev (te := tVar 2) (ev_var rfl) (.int c)) eds_nil) one) (show (3 + 1 : Nat) ≤ 100000 from by decide))
      (ed_slice (K := K) (te := tVar 1) hw1 (ev_var rfl) ha na hl' (eo_some (i := 4) (te := tC (.int 4)) ev_c) (eo_some (i := 6) (te := tC (.int 6)) ev_c)) (show (4 + 2 : Nat) ≤ 100000 from by decide)) (ed_tup hw1 (eds_cons (ed_ev (te := tVar 5) (ev_var rfl) av) eds_nil) one) (show (6 + 1 : Nat) ≤ 100000 from by decide)) (ed_slice (K := K) (te := tVar 1) hw1 (ev_var rfl) ha na hl' (eo_some (i := 7) (te := tC (.int 7)) ev_c) eo_none) (show (7 + 3 : Nat) ≤ 100000 from by decide)
    have e : tabU T1 = .tup [T0.e, T0.m, T0.a, .int c, T0.h, T0.b, .tup (T1.ls.map lsU), T0.p, T0.v, T0.n] := by
      unfold tabU
      rw [sib.e, sib.m, sib.a, sib.h, sib.b, sib.p, sib.v, sib.n, hc]
    rw [e]
    exact r
  refine q_asgD main fun v6 H2 e2 a6 => ?_
  exact s_ret (ev_call (ea_cons (ev_var rfl) (ea_cons (ev_var rfl) ea_nil)) fun G eg Q q E => ⟨x, v6, tabU T1, w, rfl, ex_at ((e1.trans e2).trans eg) hx, ex_at eg a6, sm, pl, dp, q⟩) fun H3 e3 => k H3 ((e1.trans e2).trans e3)
/-! ### _law_lease_of -/
theorem ev_opUV {r : R2} {σ : L2.St} {H : Hp} {ta tb : TE} {xs : List V} {y z : V} (ha : EvU ta σ H xs) (hb : Ev tb σ H y) (hr : ∀ p H1, H1 p = some (.tup xs) → Ex H H1 → RV r (.ref p) y H1 z) : Ev (tOp r ta tb) σ H z := fun H1 e Q k =>
  ha H1 e _ fun p H2 _ e2 hp => hb H2 (e.trans e2) _ fun H3 e3 => hr p H3 (e3 p _ hp) ((e.trans e2).trans e3) H3 (Ex.refl H3) Q fun H4 e4 => k H4 ((e2.trans e3).trans e4)
def spLo (C : Addr) : Sp := fun vs H Q _ => ∃ (x : V) (q w : Addr) (T : Tb) (k : SI), vs = [x, .ref q] ∧ At w C H x (tabU T) ∧ H q = some (.tup [.str k.1, .int k.2]) ∧ T.ls.length ≤ 1000 ∧ (∀ l ∈ T.ls, PyData.strOk l.1.1 = true) ∧ PyData.strOk k.1 = true ∧
  ∀ (p : Addr) (ys : List V) (H' : Hp), H p = none → Same H H' → H' p = some (.lst ys) → AtL w C H' ys ((T.ls.filter fun l => decide (l.1 = k)).map lsU) → Q (.ref p) H'
theorem scLo : FnScope ["table", "key", "lease"] ["table", "key"] (defScope lLeaseOf) := ⟨rfl, rfl, rfl, by decide +kernel, rfl, by decide +kernel, by decide +kernel⟩
theorem rv_eqSI {H : Hp} {p q : Addr} {a b : SI} (ha : PyData.strOk a.1 = true) (hb : PyData.strOk b.1 = true) (hp : H p = some (.tup [.str a.1, .int a.2])) (hq : H q = some (.tup [.str b.1, .int b.2])) : RV (rEqD K) (.ref p) (.ref q) H (.bl (decide (a = b))) := fun H1 e Q f =>
  ⟨_, _, dpSI (e _ _ hp), dpSI (e _ _ hq), shpSI _ ha, shpSI _ hb, by
    rw [eqvSI]
    have : (decide (a.1 = b.1) && decide (a.2 = b.2)) = decide (a = b) := by
      by_cases h : a = b
      · rw [h]
        simp
      · rw [decide_eq_false h]
        by_cases h1 : a.1 = b.1
        · rw [decide_eq_true h1, decide_eq_false fun h2 => h (Prod.ext h1 h2)]
          rfl
        · rw [decide_eq_false h1]
          rfl
    rw [this]
    exact f H1 (Ex.refl H1)⟩
theorem ok_leaseOf {f : Addr} {fd : FuncData} (F : Fun K "_law_lease_of" "_law_lease_of" lLeaseOf f fd) : FnOk P wd K mg base CX0 1 f fd ["table", "key"] (spLo C) := by
  refine F.ok scLo (fun vs H Q E h => ?_) (fun cdv A outer s H vs Q E hr h => ?_)
  · obtain ⟨x, q, w, T, k, rfl, _⟩ := h
    rfl
  obtain ⟨x, qa, w, T, kk, rfl, hx, hq, hz, hsl, hsk, k⟩ := h
  refine ⟨_, pss_one (ps_ret (pe_lc (own := [("lease", 2)]) (g := gName 2) (tt := tTest (tOp (rEqD K) (tSl (rSlA K) (tVar 2) tNoPart (tPart (tC (.int 2)))) (tVar 1))) rfl scLo.nd (pi_tup (pe_ix ix_tup (pv 0) pe_int (fun _ _ => rfl))) (blkOk_by (N := ["table", "key", "lease"]) (sc := defScope lLeaseOf) (by decide +kernel))
    (fun _ _ _ _ _ => pg_name (i := 2) scLo.nd rfl (Or.inl rfl)) (fun _ _ _ _ _ => pts_one (pt_cmpR (show OpR _ _ (rEqD K) from op_eqD (room_hu hr)) (pe_slice (show SlR _ (rSlA K) from sl_tupA) (pv 2) po_none (po_some pe_int)) (pv 1) (nomark _))) (fun _ _ _ _ _ => pv 2))), ?_⟩
  obtain ⟨y6, e6, a6⟩ := nth_at (K := K) (σ := [some x, some (.ref qa), none]) (te := tVar 0) hx (ev_var rfl) 6 (by show 6 < 10; decide)
  have a6' : At w C H y6 (.tup (T.ls.map lsU)) := a6
  obtain ⟨a, xs, rfl, ha, na, hl⟩ := at_tup a6'
  have := lc_D (K := K) (w := w) (C := C) (te := tVar 2) (t := tTest (tOp (rEqD K) (tSl (rSlA K) (tVar 2) tNoPart (tPart (tC (.int 2)))) (tVar 1))) (j := 2) (vs := [2]) (g := fun u => match u with | .tup [.str z, .int i, .int s, .int n] => decide (((z, i) : SI) = kk) | _ => false) (f := fun u => u) e6 ha hl (by rw [List.length_map]; omega) (fun u hu => by
    obtain ⟨l, _, rfl⟩ := List.mem_map.mp hu
    exact lsU_pln l) (fun _ => rfl) (fun v u G hu eg hv => ?_) (fun v u G hu _ eg hv => ed_ev (ev_var rfl) hv)
  · rw [List.map_id', filter_ls] at this
    exact this H (Ex.refl H) _ fun p ys H1 hp e1 h1 al => k p ys H1 hp e1 h1 al
  · obtain ⟨l, hl0, rfl⟩ := List.mem_map.mp hu
    obtain ⟨b, rfl, hb⟩ := at_ls hv
    exact et_test (ev_opUV (eu_cut (K := K) (ev_var rfl) hb eo_none (eo_some ev_c) (fun h => absurd h.2 (show ¬ (HT.sIx 4 4 (some 2) = 4) from by decide))) (ev_var rfl) fun p1 G1 hp1 eg1 => rv_eqSI (a := l.1) (b := kk) (hsl l hl0) hsk hp1 (eg1 _ _ (eg _ _ hq)))
end
end Hs
namespace Hs
open PySem PySem.Spec PyProof.Rows L2 Hu Evl
open Hk (SI ltSI)
/-! ### tables that deeds keep right -/
def KOk (k : SI) : Prop := gNam (.str k.1) = true ∧ 1 ≤ k.2 ∧ k.2 ≤ 99
def VOk (v : Int × Int) : Prop := 0 ≤ v.1 ∧ v.1 < 10 ^ 11 ∧ 0 ≤ v.2 ∧ v.2 < 10 ^ 12
/-- right behind n deeds -/
structure TG (ks : List SI) (n : Nat) (T : Tb) : Prop where
  c : 0 ≤ T.clock ∧ T.clock ≤ 10 ^ 11 + (n : Int)
  st : srt T.ls
  kin : ∀ l ∈ T.ls, l.1 ∈ ks
  val : ∀ l ∈ T.ls, VOk l.2
  p : gStamp T.p = true
  v : gVote T.v = true
  n : (isNon T.n || gMembers T.n) = true
  e : ∃ e : Int, T.e = .int e ∧ 0 ≤ e ∧ e < 10 ^ 11
  m : gMembers T.m = true
  a : gAhead T.a = true
  h : gHeads T.h = true
  b : gBlocks T.b = true
  bm : Bd T.m 900 4 0
  ba : Bd T.a 900 4 0
  bh : Bd T.h 41000 4 0
  bb : Bd T.b 3000 4 0
  bp : Bd T.p 200 4 0
  bv : Bd T.v 1100 4 0
  bn : Bd T.n 900 4 0
  pl : pln T.m ∧ pln T.a ∧ pln T.h ∧ pln T.b ∧ pln T.p ∧ pln T.v ∧ pln T.n
theorem TG.mono {ks : List SI} {n n' : Nat} {T : Tb} (g : TG ks n T) (h : n ≤ n') : TG ks n' T := { g with c := ⟨g.c.1, by have := g.c.2; omega⟩ }
theorem TG.old {ks : List SI} {n : Nat} {T : Tb} (g : TG ks n T) {k : SI} {v : Int × Int} (h : getL T.ls k = some v) : k ∈ ks ∧ VOk v := ⟨g.kin _ (getL_mem h), g.val _ (getL_mem h)⟩
theorem fD_in {ks : List SI} {D : Deed} {c : Int} {k : SI} {o : Option (Int × Int)} {v : Int × Int} (hin : D.inn ks) (hc : 0 ≤ c ∧ c ≤ 10 ^ 11 + 1001) (ho : ∀ u, o = some u → k ∈ ks ∧ VOk u) (h : fD D c k o = some v) : k ∈ ks ∧ VOk v := by
  cases D with
  | lease j t =>
    have h' : (if k = j then some (match (generalizing := false) o with | some v => max t v.1 | none => t, c + 8) else o) = some v := h
    by_cases e : k = j
    · rw [if_pos e] at h'
      have hin' : j ∈ ks ∧ 0 ≤ t ∧ t < 10 ^ 11 := hin
      refine ⟨e ▸ hin'.1, ?_⟩
      cases o with
      | none =>
        cases h'
        exact ⟨hin'.2.1, hin'.2.2, by show 0 ≤ c + 8; omega, by show c + 8 < 10 ^ 12; omega⟩
      | some u =>
        cases h'
        have hu := (ho u rfl).2
        have h1 := hu.1
        have h2 := hu.2.1
        exact ⟨by show 0 ≤ max t u.1; omega, by show max t u.1 < 10 ^ 11; omega, by show 0 ≤ c + 8; omega, by show c + 8 < 10 ^ 12; omega⟩
    · rw [if_neg e] at h'
      exact ho v h'
  | free j t =>
    have h' : (if k = j then o.filter fun v => decide (t ≤ v.1) else o) = some v := h
    by_cases e : k = j
    · rw [if_pos e] at h'
      exact ho v (Option.filter_eq_some_iff.mp h').1
    · rw [if_neg e] at h'
      exact ho v h'
  | tick =>
    have h' : o.filter (fun v => decide (c < v.2)) = some v := h
    exact ho v (Option.filter_eq_some_iff.mp h').1
  | rise =>
    have h' : o.map (fun v => (v.1, c + 8)) = some v := h
    cases o with
    | none => cases h'
    | some u =>
      cases h'
      have hu := ho u rfl
      exact ⟨hu.1, hu.2.1, hu.2.2.1, by show 0 ≤ c + 8; omega, by show c + 8 < 10 ^ 12; omega⟩
theorem TG.step {ks : List SI} {n : Nat} {D : Deed} {T T' : Tb} (g : TG ks n T) (nx : Nx D T T') (hin : D.inn ks) (hn : n ≤ 1000) : TG ks (n + 1) T' := by
  have hc : 0 ≤ T'.clock ∧ T'.clock ≤ 10 ^ 11 + ((n + 1 : Nat) : Int) := by
    have h1 := g.c.1
    have h2 := g.c.2
    rw [nx.c]
    split <;> omega
  have key : ∀ l ∈ T'.ls, l.1 ∈ ks ∧ VOk l.2 := fun l hl => by
    have h := getL_of (srt_nd nx.s) hl
    rw [nx.g] at h
    exact fD_in hin ⟨hc.1, by have := hc.2; omega⟩ (fun u hu => g.old hu) h
  exact { c := hc, st := nx.s, kin := fun l hl => (key l hl).1, val := fun l hl => (key l hl).2, p := by rw [nx.p]; exact g.p, v := by rw [nx.v]; exact g.v, n := by rw [nx.n]; exact g.n, e := by rw [nx.e]; exact g.e, m := by rw [nx.m]; exact g.m, a := by rw [nx.a]; exact g.a, h := by rw [nx.h]; exact g.h, b := by rw [nx.b]; exact g.b, bm := by rw [nx.m]; exact g.bm, ba := by rw [nx.a]; exact g.ba, bh := by rw [nx.h]; exact g.bh, bb := by rw [nx.b]; exact g.bb, bp := by rw [nx.p]; exact g.bp, bv := by rw [nx.v]; exact g.bv, bn := by rw [nx.n]; exact g.bn, pl := by rw [nx.m, nx.a, nx.h, nx.b, nx.p, nx.v, nx.n]; exact g.pl }
theorem TG.len {ks : List SI} {n : Nat} {T : Tb} (g : TG ks n T) : T.ls.length ≤ ks.length := by
  have nd : (T.ls.map (·.1)).Nodup := srt_nd g.st
  have := List.Nodup.length_le_of_subset nd (fun x hx => by obtain ⟨l, hl, rfl⟩ := List.mem_map.mp hx; exact g.kin l hl)
  rwa [List.length_map] at this
theorem bdl_all {m d b : Nat} : ∀ {us : List U}, (∀ u ∈ us, Bd u m d b) → BdL us (us.length * (m + 2)) d b
  | [], _ => ⟨by simp [wtL], by simp [depL], trivial⟩
  | u :: us, h => by
    have h1 := h u (by simp)
    have h2 := bdl_all fun x hx => h x (List.mem_cons_of_mem _ hx)
    have := BdL.append (.one h1) h2
    exact this.mono (by rw [List.length_cons, Nat.succ_mul]; omega) (Nat.le_refl _) (Nat.le_refl _)
theorem int_bd {i : Int} (h : i.natAbs < 2 ^ 60) : Bd (.int i) 80 0 0 := ⟨by simp [wt], by simp [dep], by simp only [tidy]; omega⟩
theorem ls_bd {l : Ls} (hk : KOk l.1) (hv : VOk l.2) : Bd (lsU l) 300 1 0 := by
  have h1 := nam_bd hk.1
  have h2 := hk.2.1
  have h3 := hk.2.2
  have h4 := hv.1
  have h5 := hv.2.1
  have h6 := hv.2.2.1
  have h7 := hv.2.2.2
  have q := BdL.append (.one h1) (BdL.append (.one (int_bd (i := l.1.2) (by omega))) (BdL.append (.one (int_bd (i := l.2.1) (by omega))) (.one (int_bd (i := l.2.2) (by omega)))))
  exact (Bd.tup q).mono (by omega) (Nat.le_refl _) (Nat.le_refl _)
theorem TG.bd {ks : List SI} {n : Nat} {T : Tb} (g : TG ks n T) (hk : ∀ k ∈ ks, KOk k) (h8 : ks.length ≤ 8) (hn : n ≤ 1001) : Bd (tabU T) 60000 5 0 := by
  obtain ⟨e, he, e0, e1⟩ := g.e
  have bl : Bd (.tup (T.ls.map lsU)) 3000 4 0 := (Bd.tup (bdl_all (us := T.ls.map lsU) (m := 300) (d := 1) (b := 0) fun u hu => by
    obtain ⟨l, hl, rfl⟩ := List.mem_map.mp hu
    exact ls_bd (hk _ (g.kin l hl)) (g.val l hl))).mono (by rw [List.length_map]; have := g.len; omega) (by omega) (Nat.le_refl _)
  have be : Bd T.e 80 4 0 := by rw [he]; exact (int_bd (by omega)).mono (Nat.le_refl _) (by omega) (Nat.le_refl _)
  have bc : Bd (.int T.clock) 80 4 0 := (int_bd (by have := g.c.1; have := g.c.2; omega)).mono (Nat.le_refl _) (by omega) (Nat.le_refl _)
  have q := BdL.append (.one be) (BdL.append (.one g.bm) (BdL.append (.one g.ba) (BdL.append (.one bc) (BdL.append (.one g.bh) (BdL.append (.one g.bb) (BdL.append (.one bl) (BdL.append (.one g.bp) (BdL.append (.one g.bv) (.one g.bn)))))))))
  exact (Bd.tup q).mono (by omega) (Nat.le_refl _) (Nat.le_refl _)
theorem TG.sm {ks : List SI} {n : Nat} {T : Tb} (g : TG ks n T) (hk : ∀ k ∈ ks, KOk k) (h8 : ks.length ≤ 8) (hn : n ≤ 1001) : Sm (tabU T) ∧ pln (tabU T) ∧ dep (tabU T) < 12 := by
  have b := g.bd hk h8 hn
  obtain ⟨e, he, _⟩ := g.e
  refine ⟨Nat.le_trans b.w (by omega), ?_, Nat.lt_of_le_of_lt b.d (by omega)⟩
  obtain ⟨p1, p2, p3, p4, p5, p6, p7⟩ := g.pl
  show plnL _
  rw [plnL_all]
  intro u hu
  simp only [List.mem_cons, List.not_mem_nil, or_false] at hu
  rcases hu with rfl | rfl | rfl | rfl | rfl | rfl | rfl | rfl | rfl | rfl
  · rw [he]; trivial
  · exact p1
  · exact p2
  · trivial
  · exact p3
  · exact p4
  · show plnL _
    rw [plnL_all]
    intro u hu
    obtain ⟨l, _, rfl⟩ := List.mem_map.mp hu
    exact lsU_pln l
  · exact p5
  · exact p6
  · exact p7
theorem TG.leases {ks : List SI} {n : Nat} {T : Tb} (g : TG ks n T) (hk : ∀ k ∈ ks, KOk k) : gLeases (.tup (T.ls.map lsU)) = true := by
  show ((T.ls.map lsU).all gLease && ascK ((T.ls.map lsU).map keyL)) = true
  have h1 : (T.ls.map lsU).all gLease = true := List.all_eq_true.mpr fun u hu => by
    obtain ⟨l, hl, rfl⟩ := List.mem_map.mp hu
    have k1 := hk _ (g.kin l hl)
    have v1 := g.val l hl
    show (true && (gNam (.str l.1.1) && (decide (1 ≤ l.1.2) && decide (l.1.2 ≤ 99))) && (decide (0 ≤ l.2.1) && decide (0 ≤ l.2.2))) = true
    rw [k1.1, decide_eq_true k1.2.1, decide_eq_true k1.2.2, decide_eq_true v1.1, decide_eq_true v1.2.2.1]
    rfl
  have h2 : ascK ((T.ls.map lsU).map keyL) = true := by
    refine ascK_pw ?_
    rw [List.map_map]
    have st := g.st
    unfold srt at st
    rw [List.pairwise_map] at st ⊢
    exact st.imp fun h => ltK_si h
  rw [h1, h2]
  rfl
theorem TG.tabOk {ks : List SI} {n : Nat} {T : Tb} (g : TG ks n T) (hk : ∀ k ∈ ks, KOk k) (h8 : ks.length ≤ 8) (hn : n ≤ 1001) : TabOk T := by
  have b := g.bd hk h8 hn
  obtain ⟨sm, pl, _⟩ := g.sm hk h8 hn
  obtain ⟨e, he, e0, e1⟩ := g.e
  refine ⟨?_, b.fine (by omega) (by omega), ⟨sm, fun k => ?_, ?_⟩, ⟨e, he, e0⟩, g.st, by have := g.len; omega, fun l hl => nam_ok (hk _ (g.kin l hl)).1⟩
  · show (true && ((decide (0 ≤ T.clock) && gLeases (.tup (T.ls.map lsU))) && ((gStamp T.p && gVote T.v) && ((isNon T.n || gMembers T.n) && (if isM1 T.e = true then nilU T.m && (nilU T.a && (nilU T.h && nilU T.b)) else gCnt T.e && (gMembers T.m && (gAhead T.a && (gHeads T.h && gBlocks T.b)))))))) = true
    have m1 : isM1 T.e = false := by rw [he]; exact decide_eq_false (by omega)
    have c1 : gCnt T.e = true := by rw [he]; exact decide_eq_true e0
    rw [g.leases hk, g.p, g.v, g.n, m1, c1, g.m, g.a, g.h, g.b, decide_eq_true g.c.1]
    rfl
  · have hp : plnL [T.e, T.m, T.a, .int T.clock, T.h, T.b, .tup (T.ls.map lsU), T.p, T.v, T.n] := pl
    rw [plnL_all] at hp
    have : ∀ u, pln u → okN u := fun u h => by cases u <;> first | trivial | cases h
    show okN (List.getD [T.e, T.m, T.a, .int T.clock, T.h, T.b, .tup (T.ls.map lsU), T.p, T.v, T.n] k .non)
    rw [List.getD_eq_getElem?_getD]
    cases h : [T.e, T.m, T.a, .int T.clock, T.h, T.b, .tup (T.ls.map lsU), T.p, T.v, T.n][k]? with
    | none => trivial
    | some u => exact this u (hp u (List.mem_of_getElem? h))
  · show flU T.e
    rw [he]
    trivial
theorem deed_ok {ks : List SI} {D : Deed} (hin : D.inn ks) (hk : ∀ k ∈ ks, KOk k) : DeedOk D := by
  have two : ∀ (z : Str) (k : SI) (t : Int), (∀ c ∈ TL.tl z, okS c = true ∨ c = 10) → z.length ≤ 10 → KOk k → 0 ≤ t → t < 10 ^ 11 → Fine (.tup [.str z, .str k.1, .int k.2, .int t]) := fun z k t hz hl h1 h2 h3 => by
    have n1 := nam_bd h1.1
    have n2 := h1.2.1
    have n3 := h1.2.2
    have bz : Bd (.str z) 30 0 0 := ⟨by simp only [wt]; omega, by simp [dep], hz⟩
    have q := BdL.append (.one bz) (BdL.append (.one n1) (BdL.append (.one (int_bd (i := k.2) (by omega))) (.one (int_bd (i := t) (by omega)))))
    exact (Bd.tup q).fine (by omega) (by omega)
  have one : ∀ (z : Str), (∀ c ∈ TL.tl z, okS c = true ∨ c = 10) → z.length ≤ 10 → Fine (.tup [.str z]) := fun z hz hl => by
    have bz : Bd (.str z) 30 0 0 := ⟨by simp only [wt]; omega, by simp [dep], hz⟩
    exact (Bd.tup (.one bz)).fine (by omega) (by omega)
  cases D with
  | lease k t =>
    have h : k ∈ ks ∧ 0 ≤ t ∧ t < 10 ^ 11 := hin
    have h1 := hk k h.1
    refine ⟨⟨h1.1, ?_, h.2.1⟩, two "lease" k t (by decide +kernel) (by decide +kernel) h1 h.2.1 h.2.2, nam_ok h1.1⟩
    show (decide (1 ≤ k.2) && decide (k.2 ≤ 99)) = true
    rw [decide_eq_true h1.2.1, decide_eq_true h1.2.2]
    rfl
  | free k t =>
    have h : k ∈ ks ∧ 0 ≤ t ∧ t < 10 ^ 11 := hin
    have h1 := hk k h.1
    refine ⟨⟨h1.1, ?_, h.2.1⟩, two "free" k t (by decide +kernel) (by decide +kernel) h1 h.2.1 h.2.2, nam_ok h1.1⟩
    show (decide (1 ≤ k.2) && decide (k.2 ≤ 99)) = true
    rw [decide_eq_true h1.2.1, decide_eq_true h1.2.2]
    rfl
  | tick => exact ⟨trivial, one "tick" (by decide +kernel) (by decide +kernel), trivial⟩
  | rise => exact ⟨trivial, one "rise" (by decide +kernel) (by decide +kernel), trivial⟩
/-! ### deeds one behind another -/
def Run : Tb → List Deed → Tb → Prop
  | T, [], T' => T' = T
  | T, D :: Ds, T' => ∃ T1, Nx D T T1 ∧ Run T1 Ds T'
theorem Run.snoc {D : Deed} : ∀ {Ds : List Deed} {T T1 T' : Tb}, Run T Ds T1 → Nx D T1 T' → Run T (Ds ++ [D]) T'
  | [], T, T1, T', h, n => by
    have h' : T1 = T := h
    subst h'
    exact ⟨T', n, rfl⟩
  | D0 :: Ds, T, T1, T', ⟨T2, n2, h⟩, n => ⟨T2, n2, Run.snoc h n⟩
theorem Nx.det {D : Deed} {T T1 T2 : Tb} (h1 : Nx D T T1) (h2 : Nx D T T2) : T1 = T2 := by
  have hc : T1.clock = T2.clock := h1.c.trans h2.c.symm
  have hl : T1.ls = T2.ls := srt_uniq h1.s h2.s fun k => by rw [h1.g, h2.g, hc]
  have a1 := h1.e.trans h2.e.symm
  have a2 := h1.m.trans h2.m.symm
  have a3 := h1.a.trans h2.a.symm
  have a4 := h1.h.trans h2.h.symm
  have a5 := h1.b.trans h2.b.symm
  have a6 := h1.p.trans h2.p.symm
  have a7 := h1.v.trans h2.v.symm
  have a8 := h1.n.trans h2.n.symm
  cases T1
  cases T2
  simp only at a1 a2 a3 a4 a5 a6 a7 a8 hc hl
  subst a1 a2 a3 a4 a5 a6 a7 a8 hc hl
  rfl
theorem Run.det : ∀ {Ds : List Deed} {T T1 T2 : Tb}, Run T Ds T1 → Run T Ds T2 → T1 = T2
  | [], T, T1, T2, h1, h2 => by
    have h1' : T1 = T := h1
    have h2' : T2 = T := h2
    rw [h1', h2']
  | D :: Ds, T, T1, T2, ⟨U1, n1, h1⟩, ⟨U2, n2, h2⟩ => by
    cases n1.det n2
    exact h1.det h2
theorem Sib.refl (T : Tb) : Sib T T := ⟨rfl, rfl, rfl, rfl, rfl, rfl, rfl, rfl⟩
theorem Sib.step {D : Deed} {T T1 T2 : Tb} (s : Sib T T1) (n : Nx D T1 T2) : Sib T T2 := ⟨n.e.trans s.e, n.m.trans s.m, n.a.trans s.a, n.h.trans s.h, n.b.trans s.b, n.p.trans s.p, n.v.trans s.v, n.n.trans s.n⟩
/-! ### the table of the law -/
def zeroT (T : Tb) : Tb := { T with e := .int 0, m := .tup [.int 0], a := .tup [] }
theorem tab0 {zs : List Str} {ks : List SI} {T : Tb} (t : TabPre zs T) (hk : ∀ l ∈ T.ls, l.1 ∈ ks) (he : ∃ e : Int, T.e = .int e ∧ 0 ≤ e) : TG ks 0 T := by
  rcases t.kp with ⟨h1, _⟩ | ⟨e, h1, h2, h3, h4, h5, h6, h7⟩
  · obtain ⟨e, h, h0⟩ := he
    rw [h1] at h
    cases h
    omega
  · exact { c := ⟨t.c.1, by have := t.c.2; omega⟩, st := t.st, kin := hk, val := fun l hl => by have := t.ls l hl; exact ⟨this.t.1, by have := this.t.2; omega, this.u.1, this.u.2⟩, p := t.p, v := t.v, n := t.n, e := ⟨e, h1, h2, h3⟩, m := h4, a := h5, h := h6, b := h7, bm := t.bm, ba := t.ba, bh := t.bh, bb := t.bb, bp := t.bp, bv := t.bv, bn := t.bn, pl := t.pl }
theorem tabZ {zs : List Str} {ks : List SI} {T : Tb} (t : TabPre zs T) (hk : ∀ l ∈ T.ls, l.1 ∈ ks) (he : ∃ e : Int, T.e = .int e ∧ e < 0) : TG ks 0 (zeroT T) := by
  rcases t.kp with ⟨h1, h2, h3, h4, h5⟩ | ⟨e, h1, h2, h3, h4, h5, h6, h7⟩
  · have b1 : Bd (.tup [.int 0]) 900 4 0 := (Bd.tup (.one (int_bd (i := 0) (by decide)))).mono (by omega) (by omega) (Nat.le_refl _)
    exact { c := ⟨t.c.1, by have := t.c.2; show T.clock ≤ _; omega⟩, st := t.st, kin := hk, val := fun l hl => by have := t.ls l hl; exact ⟨this.t.1, by have := this.t.2; omega, this.u.1, this.u.2⟩, p := t.p, v := t.v, n := t.n, e := ⟨0, rfl, by decide, by decide⟩, m := (show gMembers (.tup [.int 0]) = true by decide +kernel), a := (show gAhead (.tup []) = true by decide +kernel), h := by show gHeads T.h = true; rw [h4]; decide +kernel, b := by show gBlocks T.b = true; rw [h5]; decide +kernel, bm := b1, ba := nil_bd, bh := t.bh, bb := t.bb, bp := t.bp, bv := t.bv, bn := t.bn, pl := ⟨⟨trivial, trivial⟩, trivial, t.pl.2.2.1, t.pl.2.2.2.1, t.pl.2.2.2.2.1, t.pl.2.2.2.2.2.1, t.pl.2.2.2.2.2.2⟩ }
  · obtain ⟨e', h, h0⟩ := he
    rw [h1] at h
    cases h
    omega
theorem filter_get {L : List Ls} (n : ndK L) (k : SI) : (L.filter fun l => decide (l.1 = k)) = match getL L k with | some v => [(k, v)] | none => [] := by
  induction L with
  | nil => rfl
  | cons l r ih =>
    have n' : ndK r := List.Nodup.sublist (List.Sublist.map _ (List.sublist_cons_self l r)) n
    rw [List.filter_cons, ih n', getL_cons]
    by_cases h : l.1 = k
    · rw [if_pos (by simpa using h), if_pos h]
      have : getL r k = none := getL_none.mpr fun y hy e => by
        unfold ndK at n
        rw [List.map_cons, List.nodup_cons] at n
        exact n.1 (by rw [h, ← e]; exact List.mem_map.mpr ⟨y, hy, rfl⟩)
      rw [this]
      cases h
      rfl
    · rw [if_neg (by simpa using h), if_neg h]
end Hs
namespace Hs
open PySem PySem.Spec PyProof.Rows L2 Hu Evl
open Hk (SI ltSI)
/-! ### readings of the law's own statements -/
theorem set_same {α : Type} : ∀ {l : List α} {i : Nat} {x : α}, l[i]? = some x → l.set i x = l
  | a :: l, 0, x, h => by cases h; rfl
  | a :: l, i + 1, x, h => by
    have h' : l[i]? = some x := h
    show a :: l.set i x = a :: l
    rw [set_same h']
theorem s_ifAsgD {tt : TT} {te : TE} {D : Ends} {σ : L2.St} {H : Hp} {i : Nat} {b : Bool} {R : V → Hp → Prop} (h : EvT tt σ H b) (ht : b = true → ∀ H1, Ex H H1 → ∀ Q : VK, (∀ v H2, R v H2 → Q v H2) → te σ H1 Q)
    (he : b = false → ∀ H1, Ex H H1 → ∃ v, σ[i]? = some (some v) ∧ R v H1) (k : ∀ v H2, R v H2 → D.nx (σ.set i (some v)) H2) : tIfS tt (tAsg te (gName i)) tNext D σ H := h H (Ex.refl H) _ fun H1 e => by
  cases b with
  | true => exact ht rfl H1 e _ fun v H2 r => k v H2 r
  | false =>
    obtain ⟨v, hv, r⟩ := he rfl H1 e
    have := k v H1 r
    rw [set_same hv] at this
    exact this
theorem q_ifAsgD {tt : TT} {te : TE} {tz : TS} {D : Ends} {σ : L2.St} {H : Hp} {i : Nat} {b : Bool} {R : V → Hp → Prop} (h : EvT tt σ H b) (ht : b = true → ∀ H1, Ex H H1 → ∀ Q : VK, (∀ v H2, R v H2 → Q v H2) → te σ H1 Q)
    (he : b = false → ∀ H1, Ex H H1 → ∃ v, σ[i]? = some (some v) ∧ R v H1) (k : ∀ v H2, R v H2 → tz D (σ.set i (some v)) H2) : tSeq (tIfS tt (tAsg te (gName i)) tNext) tz D σ H := s_ifAsgD h ht he k
section
variable {K : PySem.W.Frag} {w C : Addr}
def dueOf (L : List Ls) (k : SI) : List U := (L.filter fun l => decide (l.1 = k)).map lsU
/-- key + held[key] where key is this, over a locked dict -/
theorem q_due {tz : TS} {D : Ends} {H : Hp} {σ : L2.St} {d pa : Addr} {kvs : List (List L2.Key × V)} {L : List Ls} {k0 : SI} (h7 : ∀ x, ((wipe σ [14]).set 14 (some x))[7]? = some (some (.ref pa))) (h8 : ∀ x, ((wipe σ [14]).set 14 (some x))[8]? = some (some (.ref d))) (h14 : ∀ x, ((wipe σ [14]).set 14 (some x))[14]? = some (some x)) (h88 : σ[8]? = some (some (.ref d)))
    (hwp : ∀ x, wipe ((wipe σ [14]).set 14 (some x)) [14] = wipe σ [14]) (hd : H d = some (.dT kvs)) (dl : Dl H kvs L) (nd : ndK L) (hp : H pa = some (.tup [.str k0.1, .int k0.2])) (hk0 : PyData.strOk k0.1 = true) (hks : ∀ l ∈ L, PyData.strOk l.1.1 = true) (hz : L.length ≤ 40000) (hw : ∃ o, H w = some o) (nw : w ≠ d)
    (k : ∀ p ys H', Ex H H' → H' p = some (.lst ys) → AtL w C H' ys (dueOf L k0) → tz D (σ.set 15 (some (.ref p))) H') :
    tSeq (tLock (tAsg (tLc (iKeys (tVar 8)) (gName 14) (tTest (tOp (rEqD K) (tVar 14) (tVar 7))) (tOp (rCatA K) (tVar 7) (tDGet (tVar 8) (tVar 14))) [14]) (gName 15))) tz D σ H := by
  refine ⟨d, .dT kvs, hd, True.intro, fun od => ⟨_, h88, d, od, rfl, .inr ⟨kvs, upd_same, fun Dd hD => ?_⟩⟩⟩
  have lk := dl.len
  have nD : Dd ≠ d := fun z => by rw [z, upd_same] at hD; cases hD
  have hD0 : H Dd = none := by rw [upd_ne nD] at hD; exact hD
  refine lc_it walk_keysT (fun i H' => (∀ b o, b ≠ d → H b = some o → H' b = some o) ∧ H' d = some (.frz od (.dT kvs)) ∧ ∃ ys, H' Dd = some (.lst ys) ∧ ys.length ≤ i ∧ AtL w C H' ys (dueOf (L.take i) k0))
    ⟨fun b o nb hb => by rw [upd_ne (fun z => by rw [z, hD0] at hb; cases hb), upd_ne nb]; exact hb, by rw [upd_ne nD.symm, upd_same], [], upd_same, Nat.le_refl _, .nil⟩ (fun i H' _ ⟨_, hf, _⟩ => hf) ?_ ?_
  · rintro i x H0' G hi ⟨kp, hf, ys, hD', hln, al⟩ ⟨rfl, kk, vv, q, hkv, rfl, hq⟩
    obtain ⟨l, pv, hl, rfl, rfl, hpv⟩ := dl.at_ hkv
    have hlm := List.mem_of_getElem? hl
    have keepT : ∀ {b zs}, H b = some (.tup zs) → G b = some (.tup zs) := fun {b zs} hb => kp b _ (fun z => by rw [z, hd] at hb; cases hb) hb
    have hpvG := keepT hpv
    have hpG := keepT hp
    have hq' : G q = some (.tup [.str l.1.1, .int l.1.2]) := hq
    have hval : valV kvs (Hk.keySI l.1) = some (.ref pv) := by
      obtain ⟨p2, e1, e2⟩ := dl.vsome (getL_of nd hlm)
      have : kvs.find? (fun kv => decide (kv.1 = Hk.keySI l.1)) = some (Hk.keySI l.1, .ref pv) := by
        have hnk : (kvs.map (·.1)).Nodup := by
          rw [dl.keys]
          exact List.Pairwise.map _ (fun a b h e => h (keySI_inj e)) nd
        exact find_nodup hnk hkv
      unfold valV at e1 ⊢
      rw [this]
      rfl
    have tk : dueOf (L.take (i + 1)) k0 = dueOf (L.take i) k0 ++ if decide (l.1 = k0) = true then [lsU l] else [] := by
      unfold dueOf
      rw [take_filter' (fun l : Ls => decide (l.1 = k0)) hl, List.map_append]
      congr 1
      split <;> rfl
    refine ⟨hwp _, (et_test (ev_op (ev_var (h14 _)) (ev_var (h7 _)) (rv_eqSI (K := K) (a := l.1) (b := k0) (hks l hlm) hk0 hq' hpG))) G (Ex.refl G) _ fun G1 e1 => ?_⟩
    by_cases hb : decide (l.1 = k0) = true
    · have hb' := of_decide_eq_true hb
      rw [if_pos hb]
      rw [if_pos hb] at tk
      refine ⟨_, h7 _, _, h8 _, _, h14 _, d, .ref pv, rfl, .inr ⟨kvs, Hk.keySI l.1, q, .inr ⟨od, e1 _ _ hf⟩, rfl, e1 _ _ hq, hval.symm⟩, ?_⟩
      refine ⟨pa, pv, _, _, rfl, rfl, st_of (e1 _ _ hpG), st_of (e1 _ _ hpvG), sz_of (by show (4 : Nat) ≤ 100000; decide), fun h => (by cases h), fun _ h => (by cases h), fun _ _ b hb2 => ?_⟩
      have h2 : upd G1 b (.tup ([.str k0.1, .int k0.2] ++ [.int l.2.1, .int l.2.2])) Dd = some (.lst ys) := Ex.new hb2 _ _ (e1 _ _ hD')
      refine ⟨ys, h2, ?_, ?_⟩
      · have li : i < L.length := (List.getElem?_eq_some_iff.mp hl).1
        have := bit_line
        unfold bit at this
        omega
      · have e3 : Ex G (upd G1 b (.tup ([.str k0.1, .int k0.2] ++ [.int l.2.1, .int l.2.2]))) := e1.trans (Ex.new hb2)
        have nb : b ≠ w := by
          obtain ⟨o, ho⟩ := hw
          exact fun z => by
            rw [z] at hb2
            have := e1 _ _ (kp w o nw ho)
            rw [this] at hb2
            cases hb2
        have av : At w C (upd G1 b (.tup ([.str k0.1, .int k0.2] ++ [.int l.2.1, .int l.2.2]))) (.ref b) (lsU l) := .tup upd_same nb (by rw [← hb']; exact .cons (.str _) (.cons (.int _) (.cons (.int _) (.cons (.int _) .nil))))
        generalize upd G1 b (.tup ([.str k0.1, .int k0.2] ++ [.int l.2.1, .int l.2.2])) = G2 at h2 e3 av
        have nt : ∀ b zs, G2 b = some (.tup zs) → upd G2 Dd (.lst (ys ++ [.ref b])) b = some (.tup zs) := fun b zs hb => by
          rw [upd_ne (fun z => by rw [z, h2] at hb; cases hb)]
          exact hb
        refine ⟨fun c o n h => ?_, ?_, _, upd_same, by rw [List.length_append]; show ys.length + 1 ≤ i + 1; omega, ?_⟩
        · rw [upd_ne (fun z => by rw [z, hD0] at h; cases h)]
          exact e3 _ _ (kp c o n h)
        · rw [upd_ne nD.symm]
          exact e3 _ _ hf
        · rw [tk]
          have pa1 : ∀ u ∈ dueOf (L.take i) k0, pln u := fun u hu => by
            obtain ⟨l', _, rfl⟩ := List.mem_map.mp hu
            exact lsU_pln l'
          have nt' : ∀ c zs, c ≠ w → G2 c = some (.tup zs) → upd G2 Dd (.lst (ys ++ [.ref b])) c = some (.tup zs) := fun c zs _ hc => by
            rw [upd_ne (fun z => by rw [z, h2] at hc; cases hc)]
            exact hc
          exact AtL.append (atl_tups nt' (plnL_all.mpr pa1) (ex_atl e3 al)) (.cons (at_tups nt' (lsU_pln l) av) .nil)
    · rw [if_neg hb]
      rw [if_neg hb, List.append_nil] at tk
      refine ⟨fun c o n h => e1 _ _ (kp c o n h), e1 _ _ hf, ys, e1 _ _ hD', by omega, ?_⟩
      rw [tk]
      exact ex_atl e1 al
  · rintro H' ⟨kp, hf, ys, hD', hln, al⟩
    rw [lk, List.take_length] at al
    refine ⟨hf, k Dd ys _ (fun b o hb => ?_) (by rw [upd_ne nD]; exact hD') ?_⟩
    · by_cases e : b = d
      · rw [e, upd_same]
        rw [e, hd] at hb
        exact hb
      · rw [upd_ne e]
        exact kp b o e hb
    · refine atl_tups (fun c zs _ hc => ?_) (plnL_all.mpr fun u hu => by obtain ⟨l', _, rfl⟩ := List.mem_map.mp hu; exact lsU_pln l') al
      rw [upd_ne (fun z => by rw [z, hf] at hc; cases hc)]
      exact hc
end
end Hs
namespace Hs
open PySem PySem.Spec PyProof.Rows L2 Hu Evl
open Hk (SI ltSI)
abbrev nmL : List Str := ["script", "well", "names", "ids", "table", "keys", "deeds", "alone", "held", "lease", "clock", "told", "other", "deed", "key", "due", "again"]
theorem scLaw3 : FnScope nmL ["script"] (defScope lLaw) := ⟨rfl, rfl, rfl, by decide +kernel, rfl, by decide +kernel, by decide +kernel⟩
theorem due_sm {ks : List SI} {n : Nat} {T : Tb} (g : TG ks n T) (hk : ∀ k ∈ ks, KOk k) (h8 : ks.length ≤ 8) (k0 : SI) : Sm (.tup (dueOf T.ls k0)) ∧ pln (.tup (dueOf T.ls k0)) ∧ dep (.tup (dueOf T.ls k0)) < 12 := by
  have hl : (dueOf T.ls k0).length ≤ 8 := by
    unfold dueOf
    rw [List.length_map]
    have := List.length_filter_le (fun l : Ls => decide (l.1 = k0)) T.ls
    have := g.len
    omega
  have b : Bd (.tup (dueOf T.ls k0)) _ _ 0 := Bd.tup (bdl_all (us := dueOf T.ls k0) (m := 300) (d := 1) (b := 0) fun u hu => by
    obtain ⟨l, hl, rfl⟩ := List.mem_map.mp hu
    have hl := (List.mem_filter.mp hl).1
    exact ls_bd (hk _ (g.kin l hl)) (g.val l hl))
  refine ⟨Nat.le_trans b.w (by omega), ?_, Nat.lt_of_le_of_lt b.d (by omega)⟩
  show plnL _
  rw [plnL_all]
  intro u hu
  obtain ⟨l, _, rfl⟩ := List.mem_map.mp hu
  exact lsU_pln l
section
variable {P : Program} {wd : World} {K : PySem.W.Frag} {mg : Str → Option Value} {base : Heap} {C : Addr} {fDr : Addr} {dDr : FuncData}
theorem law_core {A : Around} {outer : List Env} {s : Shared} {H : Hp} {fa : Addr} {cdv : Value} {a : Addr} {ns : List Int} {E : XK} (hS : SqL K H a (ns.map V.int)) (hr : Room 40 (A.deeper (envOfC "law" (defScope lLaw) s.heap.objs.size fa cdv)))
    {fW fS fK fN fH fB fI fL fA : Addr} {dW dS dK dN dH dB dI dL dA : FuncData} (S : Bs K mg C) (B : Bt mg) (D : Dd P wd K mg base fDr dDr)
    (DW : Df K mg "_law_well" sWell ["script"] fW dW) (GW : FnOk P wd K mg base CX0 40 fW dW ["script"] (spWell K))
    (DS : Df K mg "_law_start" lStart ["well"] fS dS) (GS : FnOk P wd K mg base CX0 40 fS dS ["well"] (spStart C))
    (DK : Df K mg "_law_keys" lKeys ["well", "names", "leases"] fK dK) (GK : FnOk P wd K mg base CX0 40 fK dK ["well", "names", "leases"] (spKeys C))
    (DN : Df K mg "_law_deeds" lDeeds ["well", "keys"] fN dN) (GN : FnOk P wd K mg base CX0 40 fN dN ["well", "keys"] (spDeeds C))
    (DH : Df K mg "_law_held_behind" lHeld ["held", "clock", "deed"] fH dH) (GH : FnOk P wd K mg base CX0 40 fH dH ["held", "clock", "deed"] (spHb C))
    (DB : Df K mg "behind" sBehind ["table", "deed"] fB dB) (GB : FnOk P wd K mg base CX0 40 fB dB ["table", "deed"] (spBehind C))
    (DI : Df K mg "_law_is_table" lIsTable ["told", "table", "clock", "held"] fI dI) (GI : FnOk P wd K mg base CX0 40 fI dI ["told", "table", "clock", "held"] (spIt C))
    (DL : Df K mg "_law_lease_of" lLeaseOf ["table", "key"] fL dL) (GL : FnOk P wd K mg base CX0 40 fL dL ["table", "key"] (spLo C))
    (DA : Df K mg "_law_alike" lAlike ["told", "due"] fA dA) (GA : FnOk P wd K mg base CX0 40 fA dA ["told", "due"] (spAl C 12)) :
    ∃ t, PSs (cxOf CX0 P wd K mg base nmL "law" (defScope lLaw) fa cdv A outer s H E) (defBody lLaw) t ∧ t { nx := fun _ H' => (fun (v : V) (_ : Hp) => v = .bl true) .non H', rt := fun v _ => v = .bl true } (L2.start nmL [.ref a]) H := by
  suffices hh : ∃ t, PSs (cxOf CX0 P wd K mg base nmL "law" (defScope lLaw) fa cdv A outer s H E).nox (defBody lLaw) t ∧ t { nx := fun _ H' => (fun (v : V) (_ : Hp) => v = .bl true) .non H', rt := fun v _ => v = .bl true } (L2.start nmL [.ref a]) H by
    obtain ⟨t, h, q⟩ := hh
    exact ⟨t, h.nox, q⟩
  have GD : FnOk P wd K mg base CX0 40 fDr dDr ["well", "many"] spDraw := D.ok.mono (by decide)
  refine ⟨_, pss_cons (ps_set (i := 1) scLaw3.nd rfl (.inl rfl) (pe_call GW hr (by rfl) DW.g DW.F.kp DW.b .nil pass0 (pa_cons (pv 0) pa_nil)))
    (pss_cons (ps_asg (pe_call GS hr (by rfl) DS.g DS.F.kp DS.b .nil pass0 (pa_cons (pv 1) pa_nil)) (pg_unl rfl (pgs_cons (pg_name (i := 2) scLaw3.nd rfl (Or.inl rfl)) (pgs_cons (pg_name (i := 3) scLaw3.nd rfl (Or.inl rfl)) (pgs_cons (pg_name (i := 4) scLaw3.nd rfl (Or.inl rfl)) pgs_nil)))))
    (pss_cons (ps_if (pt_cmpR op_lt (pe_ix ix_tup (pv 4) pe_int (fun _ _ => rfl)) pe_int (nomark _)) (pss_one (ps_set (i := 4) scLaw3.nd rfl (.inl rfl) (pe_op op_catA (pe_tup (pa_cons pe_int (pa_cons (pe_tup (pa_cons pe_int pa_nil)) (pa_cons (pe_tup pa_nil) pa_nil)))) (pe_slice sl_tupA (pv 4) (po_some pe_int) po_none)))) pss_nil)
    (pss_cons (ps_set (i := 5) scLaw3.nd rfl (.inl rfl) (pe_call GK hr (by rfl) DK.g DK.F.kp DK.b .nil pass0 (pa_cons (pv 1) (pa_cons (pv 2) (pa_cons (pe_ix ix_tup (pv 4) pe_int (fun _ _ => rfl)) pa_nil)))))
    (pss_cons (ps_set (i := 6) scLaw3.nd rfl (.inl rfl) (pe_call GN hr (by rfl) DN.g DN.F.kp DN.b .nil pass0 (pa_cons (pv 1) (pa_cons (pv 5) pa_nil))))
    (pss_cons (ps_set (i := 7) scLaw3.nd rfl (.inr rfl) (pe_ix ix_list (pv 5) (pe_call GD hr (by rfl) D.g D.kp D.b .nil pass0 (pa_cons (pv 1) (pa_cons (pe_callB (show CallR _ _ (rLenQ K) from call_len_seq) (by rfl) B.len PySem.boot_len (pa_cons (pv 5) pa_nil)) pa_nil))) (fun _ _ => rfl)))
    (pss_cons (ps_set (i := 8) scLaw3.nd rfl (.inr rfl) pe_dnewT)
    (pss_cons (ps_for PassesOwn.never rfl (pi_tup (pe_ix ix_tup (pv 4) pe_int (fun _ _ => rfl))) (pg_name (i := 9) scLaw3.nd rfl (Or.inl rfl)) (pss_one (ps_asg (pe_slice sl_tupA (pv 9) (po_some pe_int) po_none) (pg_sub (pv 8) (pe_slice sl_tupA (pv 9) po_none (po_some pe_int)) (set_dict (room_h1 hr))))))
    (pss_cons (ps_set (i := 10) scLaw3.nd rfl (.inl rfl) (pe_ix ix_tup (pv 4) pe_int (fun _ _ => rfl)))
    (pss_cons (ps_set (i := 11) scLaw3.nd rfl (.inl rfl) (pv 4))
    (pss_cons (ps_set (i := 12) scLaw3.nd rfl (.inl rfl) (pv 4))
    (pss_cons (ps_for PassesOwn.never rfl (pi_list (pv 6)) (pg_name (i := 13) scLaw3.nd rfl (Or.inl rfl))
      (pss_cons (ps_set (i := 10) scLaw3.nd rfl (.inl rfl) (pe_op op_add (pv 10) (pe_callTy call_int1 (by rfl) B.int boot_int (pa_cons (pe_cmpR op_eq (pe_ix ix_tup (pv 13) pe_int (fun _ _ => rfl)) pe_str (nomark _)) pa_nil))))
      (pss_cons (ps_set (i := 8) scLaw3.nd rfl (.inr rfl) (pe_call GH hr (by rfl) DH.g DH.F.kp DH.b .nil pass0 (pa_cons (pv 8) (pa_cons (pv 10) (pa_cons (pv 13) pa_nil)))))
      (pss_cons (ps_set (i := 11) scLaw3.nd rfl (.inl rfl) (pe_call GB hr (by rfl) DB.g DB.F.kp DB.b .nil pass0 (pa_cons (pv 11) (pa_cons (pv 13) pa_nil))))
      (pss_cons (ps_if (pt_not (pt_val (pe_call GI hr (by rfl) DI.g DI.F.kp DI.b .nil pass0 (pa_cons (pv 11) (pa_cons (pv 4) (pa_cons (pv 10) (pa_cons (pv 8) pa_nil))))))) (pss_one (ps_ret pe_bl)) pss_nil)
      (pss_one (ps_if (PW.pt (pw_or (pt_cmpR op_eq (pe_callB call_len_seq (by rfl) B.len PySem.boot_len (pa_cons (pv 13) pa_nil)) pe_int (nomark _)) (pw_or1 (pt_cmpR (show OpR _ _ (rEqD K) from op_eqD (room_hu hr)) (pe_slice (show SlR _ (rSlA K) from sl_tupA) (pv 13) (po_some pe_int) (po_some pe_int)) (pv 7) (nomark _)))))
        (pss_one (ps_set (i := 12) scLaw3.nd rfl (.inl rfl) (pe_call GB hr (by rfl) DB.g DB.F.kp DB.b .nil pass0 (pa_cons (pv 12) (pa_cons (pv 13) pa_nil))))) pss_nil)))))))
    (pss_cons (ps_if (PW.pt (pw_or (pt_not (pt_val (pe_isiX S (by rfl) (by rfl) S.B.tup boot_tuple' (by decide) (pv 12) (by decide) (by decide)))) (pw_or (pt_cmpR op_ne (pe_callB call_len_seq (by rfl) S.B.len PySem.boot_len (pa_cons (pv 12) pa_nil)) pe_int (nomark _)) (pw_or1 (pt_not (pt_val (pe_isiX S (by rfl) (by rfl) S.B.tup boot_tuple' (by decide) (pe_ix ix_tup (pv 12) pe_int (fun _ _ => rfl)) (by decide) (by decide)))))))) (pss_one (ps_ret pe_bl)) pss_nil)
    (pss_cons (ps_lock (ps_setLc (i := 15) (own := [("key", 14)]) (g := gName 14) (tt := tTest (tOp (rEqD K) (tVar 14) (tVar 7))) rfl scLaw3.nd rfl rfl rfl (pi_keys (pv 8)) (blkOk_by (N := nmL) (sc := defScope lLaw) (by decide +kernel))
      (fun _ _ _ _ _ => pg_name (i := 14) scLaw3.nd rfl (Or.inl rfl)) (fun _ _ _ _ _ => pts_one (pt_cmpR (show OpR _ _ (rEqD K) from op_eqD (room_hu hr)) (pv 14) (pv 7) (nomark _))) (fun _ _ _ _ _ => pe_op (show OpR _ _ (rCatA K) from op_catA) (pv 7) (pe_dget (room_h1 hr) (pv 8) (pv 14) (fun _ _ => rfl)))))
    (pss_cons (ps_if (pt_not (pt_val (pe_call GA hr (by rfl) DA.g DA.F.kp DA.b .nil pass0 (pa_cons (pe_callTy call_tuple_of (by rfl) B.tup boot_tuple' (pa_cons (pe_call GL hr (by rfl) DL.g DL.F.kp DL.b .nil pass0 (pa_cons (pv 12) (pa_cons (pv 7) pa_nil))) pa_nil)) (pa_cons (pe_callTy call_tuple_of (by rfl) B.tup boot_tuple' (pa_cons (pv 15) pa_nil)) pa_nil))))) (pss_one (ps_ret pe_bl)) pss_nil)
    (pss_cons (ps_set (i := 16) scLaw3.nd rfl (.inl rfl) (pv 4))
    (pss_cons (ps_for PassesOwn.never rfl (pi_list (pv 6)) (pg_name (i := 13) scLaw3.nd rfl (Or.inl rfl))
      (pss_one (ps_set (i := 16) scLaw3.nd rfl (.inl rfl) (pe_call GB hr (by rfl) DB.g DB.F.kp DB.b .nil pass0 (pa_cons (pv 16) (pa_cons (pv 13) pa_nil))))))
    (pss_one (ps_ret (pe_call GA hr (by rfl) DA.g DA.F.kp DA.b .nil pass0 (pa_cons (pv 16) (pa_cons (pv 11) pa_nil))))))))))))))))))))), ?_⟩
  refine ⟨_, rfl, a, ns, rfl, hS, fun wl H1 s1 W => ?_⟩
  refine ⟨_, rfl, wl, rfl, W, fun p N I zs v T H2 D2 hp hN nN z1 z10 hz tp hv => ⟨p, _, rfl, SqL.of hp, rfl, _, _, rfl, _, _, rfl, _, _, rfl, rfl, ?_⟩⟩
  obtain ⟨e, he⟩ : ∃ e : Int, T.e = .int e := by rcases tp.kp with ⟨h, _⟩ | ⟨e, h, _⟩ <;> exact ⟨_, h⟩
  have one : (1 : Nat) ≤ 100000 := by decide
  obtain ⟨a4, xs4, rfl, ha4, na4, hl4⟩ := at_tup hv
  show tSeq _ _ _ [some (V.ref a), some (.ref wl.w), some (.ref N), some (.ref I), some (.ref a4), none, none, none, none, none, none, none, none, none, none, none, none] H2
  obtain ⟨y0, ev0, a0⟩ := nth_at (K := K) (σ := [some (V.ref a), some (.ref wl.w), some (.ref N), some (.ref I), some (.ref a4), none, none, none, none, none, none, none, none, none, none, none, none]) (te := tVar 4) hv (ev_var rfl) 0 (by show 0 < 10; decide)
  have y0e : y0 = .int e := by
    have : At wl.w C H2 y0 T.e := a0
    rw [he] at this
    exact at_int this
  subst y0e
  refine q_ifAsgD (b := decide (e < 0)) (R := fun v' H3 => Ex H2 H3 ∧ ∃ T0 : Tb, At wl.w C H3 v' (tabU T0) ∧ T0.ls = T.ls ∧ T0.clock = T.clock ∧ ∀ ks : List SI, (∀ l ∈ T.ls, l.1 ∈ ks) → TG ks 0 T0) (et_test (ev_op ev0 ev_c rv_I0)) (fun q H3 e3 Q f => ?_)
    (fun q H3 e3 => ⟨.ref a4, rfl, e3, T, ex_at e3 hv, rfl, rfl, fun ks hk => tab0 tp hk ⟨e, he, by have := of_decide_eq_false q; omega⟩⟩) fun v4 H4 ⟨e4, T0, h4, hls, hcl, hTG⟩ => ?_
  · have hw3 : ∃ o, H3 wl.w = some o := D2.well.at.imp fun o z => e3 _ _ z
    refine (ed_cat (K := K) (C := C) hw3 (ed_tup hw3 (eds_cons (ed_ev (te := tC (.int 0)) ev_c (.int 0)) (eds_cons (ed_tup hw3 (eds_cons (ed_ev (te := tC (.int 0)) ev_c (.int 0)) eds_nil) one) (eds_cons (ed_tup hw3 eds_nil (by decide)) eds_nil))) (by decide)) (ed_slice (K := K) (te := tVar 4) hw3 (ev_var rfl) (e3 _ _ ha4) na4 (ex_atl e3 hl4) (eo_some (i := 3) (te := tC (.int 3)) ev_c) eo_none) (show (3 + 7 : Nat) ≤ 100000 by decide)) H3 (Ex.refl H3) _ fun v' H5 e5 a5 => f v' H5 ⟨e3.trans e5, zeroT T, a5, rfl, rfl, fun ks hk => tabZ tp hk ⟨e, he, of_decide_eq_true q⟩⟩
  have D4 : Drawn wl H2 H4 := (Drawn.refl D2.well).same e4
  have W4 := D4.well
  obtain ⟨y6, ev6, a6⟩ := nth_at (K := K) (σ := [some (V.ref a), some (.ref wl.w), some (.ref N), some (.ref I), some v4, none, none, none, none, none, none, none, none, none, none, none, none]) (te := tVar 4) h4 (ev_var rfl) 6 (by show 6 < 10; decide)
  have a6' : At wl.w C H4 y6 (.tup (T.ls.map lsU)) := by rw [← hls]; exact a6
  show tSeq _ _ _ [some (V.ref a), some (.ref wl.w), some (.ref N), some (.ref I), some v4, none, none, none, none, none, none, none, none, none, none, none, none] H4
  refine ⟨_, rfl, _, rfl, ev6 H4 (Ex.refl H4) _ fun H5 e5 => ⟨wl, N, zs, y6, T.ls, rfl, W4.same e5, (e4.trans e5) _ _ hN, nN, z1, z10, ex_at e5 a6', tp.len, fun pk ys ks H6 D6' hpk tk k1 k8 kin kout npk => ?_⟩⟩
  have D6 : Drawn wl H4 H6 := ((Drawn.refl W4).same e5).trans D6'
  have npk' : pk ≠ wl.w := npk
  have h46 : At wl.w C H6 v4 (tabU T0) := h4.keep fun b o n q => D6.keep b o n q
  refine ⟨_, rfl, _, rfl, wl, pk, ys, ks, rfl, D6.well, hpk, tk, npk, k1, k8, fun q vs Ds H7 D7 hq al dl7 din nq => ?_⟩
  have lys := tk.len
  rw [List.length_map] at lys
  have hpk7 := D7.keep _ _ npk hpk
  refine ⟨_, rfl, _, rfl, _, rfl, pk, ys, rfl, .inl (SqL.of hpk7), wl, _, rfl, D7.well, by omega, by omega, fun d2 H8 e0 e1 D8 => ?_⟩
  have hpk8 := D8.keep _ _ npk hpk7
  have hd2 : d2.toNat < ys.length := by omega
  have tk8 := (tk.tups (drawn_tups D6.well D7)).tups (drawn_tups D7.well D8)
  obtain ⟨pa, kss, ekp, hks, hkp⟩ := tk8.get (List.getElem?_eq_getElem hd2)
  rw [List.getElem?_map] at hks
  obtain ⟨k0, hk0, rfl⟩ : ∃ kk, ks[d2.toNat]? = some kk ∧ kss = Hk.keySI kk := by
    cases h : ks[d2.toNat]? with
    | none => rw [h] at hks; cases hks
    | some kk =>
      rw [h] at hks
      exact ⟨kk, rfl, (Option.some.inj hks).symm⟩
  have hkm := List.mem_of_getElem? hk0
  have hat2 : atI ys d2 = some (.ref pa) := by
    have : atI ys ((d2.toNat : Nat) : Int) = some (.ref pa) := by
      rw [← ekp]
      exact atI_nat (List.getElem?_eq_getElem hd2)
    rwa [show ((d2.toNat : Nat) : Int) = d2 by omega] at this
  refine ⟨pk, ys, d2, .ref pa, rfl, rfl, SqL.of hpk8, hat2, ?_⟩
  have hpa : H8 pa = some (.tup [.str k0.1, .int k0.2]) := hkp
  have D68 := D7.trans D8
  have h48 : At wl.w C H8 v4 (tabU T0) := h46.keep fun b o n q => D68.keep b o n q
  have hq8 := D8.keep _ _ nq hq
  have al8 : AtL wl.w C H8 vs (Ds.map deedU) := al.keep fun b o n q => D8.keep b o n q
  have kok : ∀ k ∈ ks, KOk k := fun k hk => by
    rcases kout k hk with ⟨l, hl, rfl⟩ | ⟨h1, h2, h3⟩
    · have := tp.ls l hl
      exact ⟨hz _ this.n, this.h.1, this.h.2⟩
    · exact ⟨hz _ h1, h2, by omega⟩
  have tg0 := hTG ks kin
  have W8 := D8.well
  refine fun d8 hd8 => ?_
  have n8 : d8 ≠ wl.w := fun z => by
    obtain ⟨o, ho⟩ := W8.at
    rw [z, ho] at hd8
    cases hd8
  have e9 : Ex H8 (upd H8 d8 (.dT [])) := Ex.new hd8
  have u8 : upd H8 d8 (.dT []) d8 = some (.dT []) := upd_same
  show tSeq _ _ _ [some (V.ref a), some (.ref wl.w), some (.ref N), some (.ref I), some v4, some (.ref pk), some (.ref q), some (.ref pa), some (.ref d8), none, none, none, none, none, none, none, none] (upd H8 d8 (.dT []))
  generalize upd H8 d8 (.dT []) = H9 at e9 u8
  obtain ⟨y6, ev6, a6⟩ := nth_at (K := K) (σ := [some (V.ref a), some (.ref wl.w), some (.ref N), some (.ref I), some v4, some (.ref pk), some (.ref q), some (.ref pa), some (.ref d8), none, none, none, none, none, none, none, none]) (te := tVar 4) (ex_at e9 h48) (ev_var rfl) 6 (by show 6 < 10; decide)
  have a6' : At wl.w C H9 y6 (.tup (T0.ls.map lsU)) := a6
  obtain ⟨t6, xs6, rfl, ht6, nt6, hl6⟩ := at_tup a6'
  have hlen6 := AtL.length hl6
  rw [List.length_map] at hlen6
  have nd0 := srt_nd tg0.st
  have lenT0 : T0.ls.length ≤ 4 := by rw [hls]; exact tp.len
  refine ev6 H9 (Ex.refl H9) _ fun H10 e10 => ⟨t6, rfl, ⟨_, st_of (e10 _ _ ht6)⟩, ?_⟩
  have e810 : Ex H8 H10 := e9.trans e10
  refine for_it (walk_tup (K := K) (a := t6) (xs := xs6)) (fun i σ' H' => ∃ (x9 : Option V) (kvs : List (List L2.Key × V)), σ' = [some (V.ref a), some (.ref wl.w), some (.ref N), some (.ref I), some v4, some (.ref pk), some (.ref q), some (.ref pa), some (.ref d8), x9, none, none, none, none, none, none, none] ∧ Ex H8 H' ∧ H' t6 = some (.tup xs6) ∧ AtL wl.w C H' xs6 (T0.ls.map lsU) ∧ H' d8 = some (.dT kvs) ∧ Dl H' kvs (T0.ls.take i))
    ⟨none, [], rfl, e810, e10 _ _ ht6, ex_atl e10 hl6, e10 _ _ u8, .nil⟩ (fun i σ' H' _ ⟨_, _, _, _, h, _⟩ => st_of h) ?_ ?_
  · rintro i x σ' H0' H11 hi ⟨x9, kvs, rfl, e11, ht11, al11, h11, dl11⟩ ⟨rfl, hx⟩
    obtain ⟨l, hl1, hx1⟩ := atl_leases al11 hx
    obtain ⟨b, rfl, hb⟩ := at_ls hx1
    have two : (2 : Nat) ≤ 100000 := by decide
    refine (eu_cut (K := K) (te := tVar 9) (ev_var rfl) hb (eo_some (i := 2) (te := tC (.int 2)) ev_c) eo_none (fun h => absurd h.1 (show ¬ (HT.sIx 4 0 (some 2) = 0) from by decide))) H11 (Ex.refl H11) _ fun pv H12 _ e12 hpv => ?_
    refine ⟨_, rfl, (eu_cut (K := K) (te := tVar 9) (ev_var rfl) (e12 _ _ hb) eo_none (eo_some (i := 2) (te := tC (.int 2)) ev_c) (fun h => absurd h.2 (show ¬ (HT.sIx 4 4 (some 2) = 4) from by decide))) H12 (Ex.refl H12) _ fun pq H13 _ e13 hpq => ?_⟩
    have hpv' : H13 pv = some (.tup [.int l.2.1, .int l.2.2]) := e13 _ _ hpv
    have hpq' : H13 pq = some (.tup [.str l.1.1, .int l.1.2]) := hpq
    have h13 : H13 d8 = some (.dT kvs) := e13 _ _ (e12 _ _ h11)
    have g0 := take_get_none nd0 hl1 (fun _ => true)
    rw [List.filter_eq_self.mpr fun _ _ => rfl] at g0
    have dl13 : Dl H13 kvs (T0.ls.take i) := dl11.tups fun b zs hb => (e12.trans e13) _ _ hb
    have i4 : i < T0.ls.length := (List.getElem?_eq_some_iff.mp hl1).1
    refine ⟨d8, _, rfl, DPut.t (k := Hk.keySI l.1) h13 hpq' (sz_lt (by rw [dl13.len, List.length_take]; omega)), ?_⟩
    have nt : ∀ b zs, H13 b = some (.tup zs) → upd H13 d8 (.dT (putK kvs (Hk.keySI l.1) (.ref pv))) b = some (.tup zs) := fun b zs hb => by
      rw [upd_ne (fun z => by rw [z, h13] at hb; cases hb)]
      exact hb
    refine ⟨_, _, rfl, Ex.mut (e11.trans (e12.trans e13)) hd8, nt _ _ ((e12.trans e13) _ _ ht11), atl_tups (fun b zs _ hb => nt _ _ hb) (plnL_all.mpr fun u hu => by obtain ⟨l', _, rfl⟩ := List.mem_map.mp hu; exact lsU_pln l') (ex_atl (e12.trans e13) al11), upd_same, ?_⟩
    rw [List.take_add_one, hl1]
    rw [putK_new _ (dl13.vnone g0)]
    exact (dl13.append (.cons (l := l) hpv' .nil)).tups (by rw [← putK_new (v := V.ref pv) (dl13.vnone g0)]; exact nt)
  rintro σ' H11 ⟨x9, kvs, rfl, e11, ht11, al11, h11, dl11⟩
  rw [hlen6, List.take_length] at dl11
  have h411 : At wl.w C H11 v4 (tabU T0) := ex_at e11 h48
  obtain ⟨y3, ev3, a3⟩ := nth_at (K := K) (σ := [some (V.ref a), some (.ref wl.w), some (.ref N), some (.ref I), some v4, some (.ref pk), some (.ref q), some (.ref pa), some (.ref d8), x9, none, none, none, none, none, none, none]) (te := tVar 4) h411 (ev_var rfl) 3 (by show 3 < 10; decide)
  have y3e : y3 = .int T0.clock := at_int a3
  subst y3e
  refine q_asg ev3 fun H12 e12 => ⟨_, rfl, _, rfl, ?_⟩
  have e812 := e11.trans e12
  have dl12 : Dl H12 kvs T0.ls := dl11.tups fun b zs hb => e12 _ _ hb
  have h12 := e12 _ _ h11
  have hw12 : ∃ o, H12 wl.w = some o := W8.at.imp fun o z => e812 _ _ z
  have hq12 := e812 _ _ hq8
  have hpa12 := e812 _ _ hpa
  have al12 := ex_atl e812 al8
  have h412 := ex_at e12 h411
  have hlq := AtL.length al12
  rw [List.length_map] at hlq
  refine ⟨_, rfl, q, rfl, ⟨_, sq_of hq12⟩, ?_⟩
  clear ev3 a3
  refine for_it (walk_list (K := K) (a := q) (xs := vs)) (fun i σ' H' => ∃ (x9 x13 : Option V) (v11 v12 : V) (T1 T2 : Tb) (dh : Addr) (kvs : List (List L2.Key × V)) (L : List Ls), σ' = [some (V.ref a), some (.ref wl.w), some (.ref N), some (.ref I), some v4, some (.ref pk), some (.ref q), some (.ref pa), some (.ref dh), x9, some (.int T1.clock), some v11, some v12, x13, none, none, none] ∧ Ex H12 H' ∧
      At wl.w C H' v11 (tabU T1) ∧ At wl.w C H' v12 (tabU T2) ∧ Run T0 (Ds.take i) T1 ∧ TG ks i T1 ∧ TG ks i T2 ∧ Sib T0 T1 ∧ T2.clock = T1.clock ∧ getL T2.ls k0 = getL T1.ls k0 ∧ H' dh = some (.dT kvs) ∧ Dl H' kvs L ∧ ndK L ∧ (∀ k, getL L k = getL T1.ls k) ∧ dh ≠ wl.w)
    ⟨x9, none, v4, v4, T0, T0, d8, kvs, T0.ls, rfl, Ex.refl _, h412, h412, rfl, tg0, tg0, Sib.refl _, rfl, rfl, h12, dl12, nd0, fun _ => rfl, n8⟩ (fun i σ' H' _ ⟨_, _, _, _, _, _, _, _, _, _, e, _⟩ => sq_of (e _ _ hq12)) ?_ ?_
  · rintro i x σ' H0' G hi ⟨x9, x13, v11, v12, T1, T2, dh, kvs, L, rfl, eG, g11, g12, run, tg1, tg2, sib, cl, gk, gh, dlh, ndh, gL, nh⟩ ⟨rfl, hx⟩
    have hi' : i < Ds.length := by
      have := (List.getElem?_eq_some_iff.mp hx).1
      omega
    obtain ⟨x', hx', ax⟩ := AtL.get (ex_atl eG al12) (i := i) (u := deedU Ds[i]) (by rw [List.getElem?_map, List.getElem?_eq_getElem hi']; rfl)
    rw [hx] at hx'
    cases hx'
    have tkD : Ds.take (i + 1) = Ds.take i ++ [Ds[i]] := by rw [List.take_add_one, List.getElem?_eq_getElem hi']; rfl
    have hin := din _ (List.getElem_mem hi')
    generalize Ds[i] = De at ax tkD hin
    have dok := deed_ok hin kok
    have kz : ks.length ≤ 8 := k8
    obtain ⟨b, xs, rfl, hb, nb, hl⟩ := at_tup ax
    obtain ⟨x0, xr, rfl, h0⟩ : ∃ x0 xr, xs = x0 :: xr ∧ x0 = .str De.word := by
      cases hl with
      | cons h1 h2 => exact ⟨_, _, rfl, at_str h1⟩
    subst h0
    show tSeq _ _ _ [some (V.ref a), some (.ref wl.w), some (.ref N), some (.ref I), some v4, some (.ref pk), some (.ref q), some (.ref pa), some (.ref dh), x9, some (.int T1.clock), some v11, some v12, some (.ref b), none, none, none] G
    have hword : decide (V.str De.word = V.str "tick") = De.isTick := by
      cases De with
      | lease k t => show decide (V.str "lease" = V.str "tick") = false; decide +kernel
      | free k t => show decide (V.str "free" = V.str "tick") = false; decide +kernel
      | tick => show decide (V.str "tick" = V.str "tick") = true; decide +kernel
      | rise => show decide (V.str "rise" = V.str "tick") = false; decide +kernel
    refine q_asg (v := .int (T1.clock + if De.isTick = true then 1 else 0)) (ev_is (ev_op (ev_var rfl) (ev_cb (ea_cons (ev_op (ev_ixT (j := 0) (ev_var rfl) hb rfl) ev_c (rv_eq rfl)) ea_nil) fun G e Q q => .inr ⟨_, rfl, q G (Ex.refl G)⟩) rv_I0) (by rw [hword])) fun G1 e1 => ?_
    generalize hc : (T1.clock + if De.isTick = true then 1 else 0) = c1
    have nd1 := srt_nd tg1.st
    have lL : L.length ≤ 8 := by
      rw [len_of_get ndh nd1 gL]
      have := tg1.len
      omega
    have eG1 := eG.trans e1
    have hwG : ∀ {G' : Hp}, Ex G G' → ∃ o, G' wl.w = some o := fun {G'} e => hw12.imp fun o z => e _ _ (eG _ _ z)
    refine ⟨_, rfl, _, rfl, _, rfl, dh, c1, .ref b, wl.w, De, kvs, L, rfl, e1 _ _ gh, dlh.tups fun b zs hb => e1 _ _ hb, ndh, by omega, ex_at e1 ax, dok.ok, fun d' kvs' L' G2 hn s2 hk2 dl2 nd2 r2 => ?_⟩
    have e02 : Ex G G2 := e1.trans s2
    have nd' : d' ≠ wl.w := fun z => by
      obtain ⟨o, ho⟩ := hwG e1
      rw [z, ho] at hn
      cases hn
    refine ⟨_, rfl, _, rfl, v11, .ref b, De, T1, wl.w, rfl, ex_at e02 g11, ex_at e02 ax, hwG e02, tg1.tabOk kok kz (by omega), dok, fun v11' G3 T1' s3 nx at1 => ?_⟩
    have e03 : Ex G G3 := e02.trans s3
    have c1e : T1'.clock = c1 := by rw [nx.c, hc]
    have tg1' := tg1.step nx hin (by omega)
    obtain ⟨sm, pl, dp⟩ := tg1'.sm kok kz (by omega)
    have gL' : ∀ k, getL T1'.ls k = getL L' k := fun k => by rw [nx.g, r2.1, c1e, gL]
    have lL' : L'.length ≤ 9 := by have := r2.2; omega
    have sib' := sib.step nx
    dsimp only [gName]
    refine q_when (b := !true) (et_not (et_B (ev_call (ea_cons (ev_var rfl) (ea_cons (ev_var rfl) (ea_cons (ev_var rfl) (ea_cons (ev_var rfl) ea_nil)))) fun G' e' Q q E =>
      ⟨v11', v4, c1, d', wl.w, T0, T1', kvs', L', rfl, ex_at e' at1, ex_at ((eG.trans e03).trans e') h412, hwG (e03.trans e'), e' _ _ (s3 _ _ hk2), dl2.tups (fun b zs hb => (s3.trans e') _ _ hb), nd2, by omega, nx.s, gL', sib', c1e, sm, pl, dp, q⟩))) (fun q => by cases q) (fun _ G4 e4 => ?_)
    have e04 := e03.trans e4
    have hb4 := e04 _ _ hb
    have fin : ∀ (v : V) (T2' : Tb) (G5 : Hp), Ex G4 G5 → At wl.w C G5 v (tabU T2') → TG ks (i + 1) T2' → T2'.clock = T1'.clock → getL T2'.ls k0 = getL T1'.ls k0 → _ := fun v T2' G5 e5 a5 tg5 c5 g5 =>
      (⟨x9, some (.ref b), v11', v, T1', T2', d', kvs', L', by rw [c1e], (eG.trans e04).trans e5, ex_at (e4.trans e5) at1, a5, by rw [tkD]; exact run.snoc nx, tg1', tg5, sib', c5, g5, (s3.trans (e4.trans e5)) _ _ hk2, dl2.tups (fun b zs hb => (s3.trans (e4.trans e5)) _ _ hb), nd2, fun k => (gL' k).symm, nd'⟩ : ∃ (y9 x13 : Option V) (v11 v12 : V) (T1 T2 : Tb) (dh : Addr) (kvs : List (List L2.Key × V)) (L : List Ls), [some (V.ref a), some (.ref wl.w), some (.ref N), some (.ref I), some v4, some (.ref pk), some (.ref q), some (.ref pa), some (.ref d'), x9, some (.int c1), some v11', some v, some (.ref b), none, none, none] = [some (V.ref a), some (.ref wl.w), some (.ref N), some (.ref I), some v4, some (.ref pk), some (.ref q), some (.ref pa), some (.ref dh), y9, some (.int T1.clock), some v11, some v12, x13, none, none, none] ∧ Ex H12 G5 ∧
      At wl.w C G5 v11 (tabU T1) ∧ At wl.w C G5 v12 (tabU T2) ∧ Run T0 (Ds.take (i + 1)) T1 ∧ TG ks (i + 1) T1 ∧ TG ks (i + 1) T2 ∧ Sib T0 T1 ∧ T2.clock = T1.clock ∧ getL T2.ls k0 = getL T1.ls k0 ∧ G5 dh = some (.dT kvs) ∧ Dl G5 kvs L ∧ ndK L ∧ (∀ k, getL L k = getL T1.ls k) ∧ dh ≠ wl.w)
    have hit : ∀ (G5 : Hp), Ex G4 G5 → ∀ Q : VK, (∀ v G6, (∃ T2', Ex G4 G6 ∧ At wl.w C G6 v (tabU T2') ∧ TG ks (i + 1) T2' ∧ T2'.clock = T1'.clock ∧ getL T2'.ls k0 = getL T1'.ls k0) → Q v G6) → tCall (spBehind C) [] E0 (tCons (tVar 12) (tCons (tVar 13) tNil)) [some (V.ref a), some (.ref wl.w), some (.ref N), some (.ref I), some v4, some (.ref pk), some (.ref q), some (.ref pa), some (.ref d'), x9, some (.int c1), some v11', some v12, some (.ref b), none, none, none] G5 Q := fun G5 e5 Q qq =>
      ⟨_, rfl, _, rfl, v12, .ref b, De, T2, wl.w, rfl, ex_at (e04.trans e5) g12, ex_at (e04.trans e5) ax, hwG (e04.trans e5), tg2.tabOk kok kz (by omega), dok, fun v G6 T2' s6 nx2 at2 => qq v G6 ⟨T2', e5.trans s6, at2, tg2.step nx2 hin (by omega), by rw [nx2.c, nx.c, cl], by rw [nx2.g, nx.g, nx2.c, nx.c, cl, gk]⟩⟩
    have away : De.off k0 → De.isTick = false → getL T2.ls k0 = getL T1'.ls k0 ∧ T2.clock = T1'.clock := fun ho ht => by
      refine ⟨?_, ?_⟩
      · rw [nx.g, fD_off ho, gk]
      · rw [nx.c, ht, cl]
        simp
    have hlx := AtL.length hl
    have hpa4 : G4 pa = some (.tup [.str k0.1, .int k0.2]) := e04 _ _ (eG _ _ hpa12)
    have hsk0 := nam_ok (kok _ hkm).1
    have kk : ∀ v G6, (∃ T2', Ex G4 G6 ∧ At wl.w C G6 v (tabU T2') ∧ TG ks (i + 1) T2' ∧ T2'.clock = T1'.clock ∧ getL T2'.ls k0 = getL T1'.ls k0) → _ := fun v G6 ⟨T2', e6, a6, t6, c6, g6⟩ => fin v T2' G6 e6 a6 t6 c6 g6
    have stay : De.off k0 → De.isTick = false → ∀ G5, Ex G4 G5 → ∃ v, ([some (V.ref a), some (.ref wl.w), some (.ref N), some (.ref I), some v4, some (.ref pk), some (.ref q), some (.ref pa), some (.ref d'), x9, some (.int c1), some v11', some v12, some (.ref b), none, none, none] : L2.St)[12]? = some (some v) ∧ (∃ T2', Ex G4 G5 ∧ At wl.w C G5 v (tabU T2') ∧ TG ks (i + 1) T2' ∧ T2'.clock = T1'.clock ∧ getL T2'.ls k0 = getL T1'.ls k0) := fun ho ht G5 e5 => ⟨v12, rfl, T2, e5, ex_at (e04.trans e5) g12, tg2.mono (by omega), (away ho ht).2, (away ho ht).1⟩
    cases De with
    | tick => exact s_ifAsgD (i := 12) (b := true || false) (et_or (et_test (ev_is (ev_op (ev_lenT (K := K) (ev_var rfl) hb4) ev_c (rv_eq rfl)) (congrArg V.bl (decide_eq_true (by rw [hlx]; rfl))))) fun q => by cases q) (fun _ G5 e5 Q qq => hit G5 e5 Q qq) (fun q => by cases q) kk
    | rise => exact s_ifAsgD (i := 12) (b := true || false) (et_or (et_test (ev_is (ev_op (ev_lenT (K := K) (ev_var rfl) hb4) ev_c (rv_eq rfl)) (congrArg V.bl (decide_eq_true (by rw [hlx]; rfl))))) fun q => by cases q) (fun _ G5 e5 Q qq => hit G5 e5 Q qq) (fun q => by cases q) kk
    | lease k t =>
      have hk : k ∈ ks ∧ 0 ≤ t ∧ t < 10 ^ 11 := hin
      obtain ⟨a1, a2, a3, a4, exs, q1, q2, q3, q4⟩ := atl_four hl
      rw [at_str q1, at_str q2, at_int q3, at_int q4] at exs
      have hb5 := hb4
      rw [exs] at hb5
      exact s_ifAsgD (i := 12) (b := false || decide (k = k0)) (et_or (et_test (ev_is (ev_op (ev_lenT (K := K) (ev_var rfl) hb4) ev_c (rv_eq rfl)) (congrArg V.bl (decide_eq_false (by rw [hlx]; exact fun h => absurd (V.int.inj h) (by show ¬ (((4 : Nat) : Int) = 1); decide)))))) fun _ => et_test (ev_opUV (eu_cut (K := K) (ev_var rfl) hb5 (eo_some ev_c) (eo_some ev_c) (fun h => absurd h.1 (show ¬ (HT.sIx 4 0 (some 1) = 0) from by decide))) (ev_var rfl) fun p1 G5 hp1 eg => rv_eqSI (a := k) (b := k0) (nam_ok (kok _ hk.1).1) hsk0 hp1 (eg _ _ hpa4)))
        (fun _ G5 e5 Q qq => hit G5 e5 Q qq) (fun q => stay (of_decide_eq_false (by simpa using q)) rfl) kk
    | free k t =>
      have hk : k ∈ ks ∧ 0 ≤ t ∧ t < 10 ^ 11 := hin
      obtain ⟨a1, a2, a3, a4, exs, q1, q2, q3, q4⟩ := atl_four hl
      rw [at_str q1, at_str q2, at_int q3, at_int q4] at exs
      have hb5 := hb4
      rw [exs] at hb5
      exact s_ifAsgD (i := 12) (b := false || decide (k = k0)) (et_or (et_test (ev_is (ev_op (ev_lenT (K := K) (ev_var rfl) hb4) ev_c (rv_eq rfl)) (congrArg V.bl (decide_eq_false (by rw [hlx]; exact fun h => absurd (V.int.inj h) (by show ¬ (((4 : Nat) : Int) = 1); decide)))))) fun _ => et_test (ev_opUV (eu_cut (K := K) (ev_var rfl) hb5 (eo_some ev_c) (eo_some ev_c) (fun h => absurd h.1 (show ¬ (HT.sIx 4 0 (some 1) = 0) from by decide))) (ev_var rfl) fun p1 G5 hp1 eg => rv_eqSI (a := k) (b := k0) (nam_ok (kok _ hk.1).1) hsk0 hp1 (eg _ _ hpa4)))
        (fun _ G5 e5 Q qq => hit G5 e5 Q qq) (fun q => stay (of_decide_eq_false (by simpa using q)) rfl) kk
  rintro σ' G ⟨x9, x13, v11, v12, T1, T2, dh, kvs, L, rfl, eG, g11, g12, run, tg1, tg2, sib, cl, gk, gh, dlh, ndh, gL, nh⟩
  rw [hlq, List.take_length] at run
  have hwG : ∀ {G' : Hp}, Ex G G' → ∃ o, G' wl.w = some o := fun {G'} e => hw12.imp fun o z => e _ _ (eG _ _ z)
  have kz : ks.length ≤ 8 := k8
  have nd1 := srt_nd tg1.st
  have lL : L.length ≤ 8 := by
    rw [len_of_get ndh nd1 gL]
    have := tg1.len
    omega
  have hsk0 := nam_ok (kok _ hkm).1
  have dz : Ds.length ≤ 400 := dl7
  obtain ⟨a12, xs12, rfl, ha12, na12, hl12⟩ := at_tup g12
  have hl10 := AtL.length hl12
  obtain ⟨y6, ev6, a6⟩ := nth_at (K := K) (σ := [some (V.ref a), some (.ref wl.w), some (.ref N), some (.ref I), some v4, some (.ref pk), some (.ref q), some (.ref pa), some (.ref dh), x9, some (.int T1.clock), some v11, some (.ref a12), x13, none, none, none]) (te := tVar 12) g12 (ev_var rfl) 6 (by show 6 < 10; decide)
  refine q_when (b := !true || (false || !true)) (et_or (et_is (et_not (et_B (ev_isi (ev_var rfl) g12))) rfl) fun _ => et_or (et_test (ev_is (ev_op (ev_lenT (K := K) (ev_var rfl) ha12) ev_c (rv_ne rfl)) (by rw [hl10]; rfl))) fun _ => et_is (et_not (et_B (ev_isi ev6 a6))) rfl) (fun q => by cases q) (fun _ G1 e1 => ?_)
  have ew : wl.w ≠ dh := fun z => nh z.symm
  refine q_due (w := wl.w) (C := C) (k0 := k0) (d := dh) (pa := pa) (fun _ => rfl) (fun _ => rfl) (fun _ => rfl) rfl (fun _ => rfl) (e1 _ _ gh) (dlh.tups fun b zs hb => e1 _ _ hb) ndh (e1 _ _ (eG _ _ hpa12)) hsk0 (fun l hl => ?_) (by omega) (hwG e1) ew fun p5 ys5 G2 e2 hp5 al5 => ?_
  · have := getL_of ndh hl
    rw [gL] at this
    exact nam_ok (kok _ (tg1.old this).1).1
  have e02 := e1.trans e2
  have same : dueOf L k0 = dueOf T2.ls k0 := by
    unfold dueOf
    rw [filter_get ndh, filter_get (srt_nd tg2.st), gL, gk]
  rw [same] at al5
  obtain ⟨sm2, pl2, dp2⟩ := due_sm tg2 kok kz k0
  have len2 : T2.ls.length ≤ 8 := by
    have := tg2.len
    omega
  have cond : ∀ σ : L2.St, σ[12]? = some (some (.ref a12)) → σ[7]? = some (some (.ref pa)) → σ[15]? = some (some (.ref p5)) → Ev (tCall (spAl C 12) [] E0 (tCons (tCB (rTupO K) (tCons (tCall (spLo C) [] E0 (tCons (tVar 12) (tCons (tVar 7) tNil))) tNil)) (tCons (tCB (rTupO K) (tCons (tVar 15) tNil)) tNil))) σ G2 (.bl true) := fun σ h12 h7 h15 H1 f1 Q q => by
    have lo : EvLD wl.w C (tCall (spLo C) [] E0 (tCons (tVar 12) (tCons (tVar 7) tNil))) σ H1 (dueOf T2.ls k0) := fun H2 f2 Q q =>
      ⟨_, h12, _, h7, .ref a12, pa, wl.w, T2, k0, rfl, ex_at ((e02.trans f1).trans f2) g12, ((e02.trans f1).trans f2) _ _ (eG _ _ hpa12), by omega, fun l hl => nam_ok (kok _ (tg2.kin l hl)).1, hsk0, fun p ys H' hn s hp al => q p ys H' hn s hp al⟩
    have du : ∀ {H2 : Hp}, Ex H1 H2 → EvD wl.w C (tCB (rTupO K) (tCons (tVar 15) tNil)) σ H2 (.tup (dueOf T2.ls k0)) := fun {H2} f2 H3 f3 Q q =>
      ⟨_, h15, p5, ys5, rfl, .inl ⟨sq_of (((f1.trans f2).trans f3) _ _ hp5), fun b hb => q (.ref b) _ (Ex.new hb) (.tup upd_same (new_ne (hwG (((e02.trans f1).trans f2).trans f3)) hb) (ex_atl (((f1.trans f2).trans f3).trans (Ex.new hb)) al5))⟩⟩
    exact (ed_tupL (K := K) (hwG (e02.trans f1)) lo) H1 (Ex.refl H1) _ fun v1 H2 f2 a1 => (du f2) H2 (Ex.refl H2) _ fun v2 H3 f3 a2 => ⟨v1, v2, .tup (dueOf T2.ls k0), wl.w, rfl, ex_at f3 a1, a2, sm2, pl2, dp2, fun H4 s4 => q H4 ((f2.trans f3).trans s4)⟩
  refine q_when (b := !true) (et_not (et_B (cond _ rfl rfl rfl))) (fun q => by cases q) (fun _ G3 e3 => ?_)
  have e03 := e02.trans e3
  refine ⟨_, rfl, ?_⟩
  have eG3 := eG.trans e03
  refine ⟨_, rfl, q, rfl, ⟨_, sq_of (eG3 _ _ hq12)⟩, ?_⟩
  refine for_it (walk_list (K := K) (a := q) (xs := vs)) (fun i σ' H' => ∃ (x13 : Option V) (v16 : V) (T3 : Tb), σ' = [some (V.ref a), some (.ref wl.w), some (.ref N), some (.ref I), some v4, some (.ref pk), some (.ref q), some (.ref pa), some (.ref dh), x9, some (.int T1.clock), some v11, some (.ref a12), x13, none, some (.ref p5), some v16] ∧ Ex G3 H' ∧ At wl.w C H' v16 (tabU T3) ∧ Run T0 (Ds.take i) T3 ∧ TG ks i T3)
    ⟨x13, v4, T0, rfl, Ex.refl _, ex_at eG3 h412, rfl, tg0⟩ (fun i σ' H' _ ⟨_, _, _, _, e, _⟩ => sq_of (e _ _ (eG3 _ _ hq12))) ?_ ?_
  · rintro i x σ' H0' G4 hi ⟨x13', v16, T3, rfl, e4, g16, run3, tg3⟩ ⟨rfl, hx⟩
    have hi' : i < Ds.length := by
      have := (List.getElem?_eq_some_iff.mp hx).1
      omega
    obtain ⟨x', hx', ax⟩ := AtL.get (ex_atl (eG3.trans e4) al12) (i := i) (u := deedU Ds[i]) (by rw [List.getElem?_map, List.getElem?_eq_getElem hi']; rfl)
    rw [hx] at hx'
    cases hx'
    have tkD : Ds.take (i + 1) = Ds.take i ++ [Ds[i]] := by rw [List.take_add_one, List.getElem?_eq_getElem hi']; rfl
    have hin := din _ (List.getElem_mem hi')
    generalize Ds[i] = De at ax tkD hin
    exact ⟨_, rfl, _, rfl, v16, x, De, T3, wl.w, rfl, g16, ax, hwG (e03.trans e4), tg3.tabOk kok kz (by omega), deed_ok hin kok, fun v G5 T3' s5 nx at3 => ⟨_, v, T3', rfl, e4.trans s5, at3, by rw [tkD]; exact run3.snoc nx, tg3.step nx hin (by omega)⟩⟩
  rintro σ' G4 ⟨x13', v16, T3, rfl, e4, g16, run3, tg3⟩
  rw [hlq, List.take_length] at run3
  cases run.det run3
  obtain ⟨sm, pl, dp⟩ := tg1.sm kok kz (by omega)
  exact ⟨_, rfl, _, rfl, v16, v11, tabU T1, wl.w, rfl, g16, ex_at (e03.trans e4) g11, sm, pl, dp, fun H5 s5 => rfl⟩
end
end Hs
namespace Hs
open PySem PySem.Spec PyProof.Rows L2 Hu Evl
open Hk (SI ltSI)
/-- all that the law's run reaches -/
structure La (K : PySem.W.Frag) (w : World) (mg : Str → Option Value) : Prop where
  B : Bt mg
  Z : Bz mg
  N : Cn mg
  N2 : Ct mg
  E : ∃ C, Xc K mg "NoTable" C "NoTable"
  ds : ∃ (a : Addr) (es : Array DictEntry) (n : Nat), Dds K w mg a es n
  dg : ∃ (a f1 f2 f3 f4 : Addr) (d1 d2 d3 d4 : FuncData), mg "DOINGS" = some (.ref a) ∧ KDct K w a "lease" (.ref f1) ∧ KDct K w a "free" (.ref f2) ∧ KDct K w a "tick" (.ref f3) ∧ KDct K w a "rise" (.ref f4) ∧ Df K mg "_leased" sLeased ["table", "parts"] f1 d1 ∧ Df K mg "_freed" sFreed ["table", "parts"] f2 d2 ∧ Df K mg "_ticked" sTicked ["table", "parts"] f3 d3 ∧ Df K mg "_risen" sRisen ["table", "parts"] f4 d4
  d_law_mixed : ∃ (f : Addr) (d : FuncData), Df K mg "_law_mixed" sMixed ["number"] f d
  d_law_filled : ∃ (f : Addr) (d : FuncData), Df K mg "_law_filled" sFilled ["well"] f d
  d_law_draw : ∃ (f : Addr) (d : FuncData), Df K mg "_law_draw" sDraw ["well", "many"] f d
  d_law_signs : ∃ (f : Addr) (d : FuncData), Df K mg "_law_signs" sSigns [] f d
  d_law_string : ∃ (f : Addr) (d : FuncData), Df K mg "_law_string" sString ["well", "many"] f d
  dis_integer : ∃ (f : Addr) (d : FuncData), Df K mg "is_integer" sIsInt ["thing"] f d
  dis_from_one : ∃ (f : Addr) (d : FuncData), Df K mg "is_from_one" sFromOne ["thing"] f d
  dis_home : ∃ (f : Addr) (d : FuncData), Df K mg "is_home" sHome ["thing"] f d
  dis_hand : ∃ (f : Addr) (d : FuncData), Df K mg "is_hand" sHand ["thing"] f d
  dis_pair : ∃ (f : Addr) (d : FuncData), Df K mg "is_pair" sPair ["thing"] f d
  dis_signs : ∃ (f : Addr) (d : FuncData), Df K mg "is_signs" sIsSigns ["thing"] f d
  dis_piece : ∃ (f : Addr) (d : FuncData), Df K mg "is_piece" sPiece ["thing"] f d
  dis_name : ∃ (f : Addr) (d : FuncData), Df K mg "is_name" sName ["thing"] f d
  dis_block_id : ∃ (f : Addr) (d : FuncData), Df K mg "is_block_id" sBlockId ["thing"] f d
  dis_row : ∃ (f : Addr) (d : FuncData), Df K mg "is_row" sRow ["thing"] f d
  dis_stamp : ∃ (f : Addr) (d : FuncData), Df K mg "is_stamp" sStamp ["thing"] f d
  dis_members : ∃ (f : Addr) (d : FuncData), Df K mg "is_members" sMembers ["thing"] f d
  dis_ascending : ∃ (f : Addr) (d : FuncData), Df K mg "is_ascending" sAscending ["things"] f d
  dis_count : ∃ (f : Addr) (d : FuncData), Df K mg "is_count" sCount ["thing"] f d
  dis_tuple_of : ∃ (f : Addr) (d : FuncData), Df K mg "is_tuple_of" sTO ["many", "thing"] f d
  dis_ahead : ∃ (f : Addr) (d : FuncData), Df K mg "is_ahead" sAhead ["thing"] f d
  dis_vote : ∃ (f : Addr) (d : FuncData), Df K mg "is_vote" sVote ["thing"] f d
  d_is_named_head : ∃ (f : Addr) (d : FuncData), Df K mg "_is_named_head" sNamed ["thing"] f d
  d_is_block : ∃ (f : Addr) (d : FuncData), Df K mg "_is_block" sBlk ["thing"] f d
  dis_heads : ∃ (f : Addr) (d : FuncData), Df K mg "is_heads" sHeads ["thing"] f d
  dis_blocks : ∃ (f : Addr) (d : FuncData), Df K mg "is_blocks" sBlocks ["thing"] f d
  d_is_lease : ∃ (f : Addr) (d : FuncData), Df K mg "_is_lease" sLease ["thing"] f d
  d_are_leases : ∃ (f : Addr) (d : FuncData), Df K mg "_are_leases" sLeases ["thing"] f d
  d_are_kept : ∃ (f : Addr) (d : FuncData), Df K mg "_are_kept" sKept ["parts"] f d
  dis_table : ∃ (f : Addr) (d : FuncData), Df K mg "is_table" sTable ["thing"] f d
  dchanged : ∃ (f : Addr) (d : FuncData), Df K mg "changed" sChanged ["table", "at", "part"] f d
  d_leases_by_holder : ∃ (f : Addr) (d : FuncData), Df K mg "_leases_by_holder" sByHolder ["table"] f d
  d_leases_in_order : ∃ (f : Addr) (d : FuncData), Df K mg "_leases_in_order" sInOrder ["found"] f d
  dis_part : ∃ (f : Addr) (d : FuncData), Df K mg "is_part" sPart ["kind", "thing"] f d
  dare_parts : ∃ (f : Addr) (d : FuncData), Df K mg "are_parts" sParts ["kinds", "things"] f d
  dis_deed : ∃ (f : Addr) (d : FuncData), Df K mg "is_deed" sDeed ["thing"] f d
  dlets : ∃ (f : Addr) (d : FuncData), Df K mg "lets" sLets ["table", "deed"] f d
  ddone : ∃ (f : Addr) (d : FuncData), Df K mg "done" sDone ["table", "deed"] f d
  dbehind : ∃ (f : Addr) (d : FuncData), Df K mg "behind" sBehind ["table", "deed"] f d
  d_law_number : ∃ (f : Addr) (d : FuncData), Df K mg "_law_number" lNumber ["well"] f d
  d_law_stamp : ∃ (f : Addr) (d : FuncData), Df K mg "_law_stamp" lStamp ["well"] f d
  d_law_row : ∃ (f : Addr) (d : FuncData), Df K mg "_law_row" lRow ["well", "ids"] f d
  d_law_members : ∃ (f : Addr) (d : FuncData), Df K mg "_law_members" lMembers ["well"] f d
  d_law_leases : ∃ (f : Addr) (d : FuncData), Df K mg "_law_leases" lLeases ["well", "names", "clock"] f d
  d_law_vote : ∃ (f : Addr) (d : FuncData), Df K mg "_law_vote" lVote ["well"] f d
  d_law_heads : ∃ (f : Addr) (d : FuncData), Df K mg "_law_heads" lHeads ["well", "names", "ids"] f d
  d_law_blocks : ∃ (f : Addr) (d : FuncData), Df K mg "_law_blocks" lBlocks ["well", "ids", "share"] f d
  d_law_unlike : ∃ (f : Addr) (d : FuncData), Df K mg "_law_unlike" lUnlike ["things"] f d
  d_law_name : ∃ (f : Addr) (d : FuncData), Df K mg "_law_name" lName ["well"] f d
  d_law_id : ∃ (f : Addr) (d : FuncData), Df K mg "_law_id" lId ["well"] f d
  d_law_table : ∃ (f : Addr) (d : FuncData), Df K mg "_law_table" lTable ["well", "names", "ids"] f d
  d_law_alike : ∃ (f : Addr) (d : FuncData), Df K mg "_law_alike" lAlike ["told", "due"] f d
  d_law_ticked : ∃ (f : Addr) (d : FuncData), Df K mg "_law_ticked" lTicked ["held", "clock"] f d
  d_law_well : ∃ (f : Addr) (d : FuncData), Df K mg "_law_well" sWell ["script"] f d
  d_law_start : ∃ (f : Addr) (d : FuncData), Df K mg "_law_start" lStart ["well"] f d
  d_law_keys : ∃ (f : Addr) (d : FuncData), Df K mg "_law_keys" lKeys ["well", "names", "leases"] f d
  d_law_deeds : ∃ (f : Addr) (d : FuncData), Df K mg "_law_deeds" lDeeds ["well", "keys"] f d
  d_law_held_behind : ∃ (f : Addr) (d : FuncData), Df K mg "_law_held_behind" lHeld ["held", "clock", "deed"] f d
  d_law_is_table : ∃ (f : Addr) (d : FuncData), Df K mg "_law_is_table" lIsTable ["told", "table", "clock", "held"] f d
  d_law_lease_of : ∃ (f : Addr) (d : FuncData), Df K mg "_law_lease_of" lLeaseOf ["table", "key"] f d
section
variable {P : Program} {wd : World} {K : PySem.W.Frag} {mg : Str → Option Value} {base : Heap}
theorem law_body (L : La K wd mg) {A : Around} {outer : List Env} {s : Shared} {H : Hp} {fa : Addr} {cdv : Value} {a : Addr} {ns : List Int} {E : XK} (hS : SqL K H a (ns.map V.int)) (hr : Room 40 (A.deeper (envOfC "law" (defScope lLaw) s.heap.objs.size fa cdv))) :
    ∃ t, PSs (cxOf CX0 P wd K mg base nmL "law" (defScope lLaw) fa cdv A outer s H E) (defBody lLaw) t ∧ t { nx := fun _ H' => (fun (v : V) (_ : Hp) => v = .bl true) .non H', rt := fun v _ => v = .bl true } (L2.start nmL [.ref a]) H := by
  obtain ⟨f__law_mixed, d__law_mixed, D__law_mixed⟩ := L.d_law_mixed
  obtain ⟨f__law_filled, d__law_filled, D__law_filled⟩ := L.d_law_filled
  obtain ⟨f__law_draw, d__law_draw, D__law_draw⟩ := L.d_law_draw
  obtain ⟨f__law_signs, d__law_signs, D__law_signs⟩ := L.d_law_signs
  obtain ⟨f__law_string, d__law_string, D__law_string⟩ := L.d_law_string
  obtain ⟨f_is_integer, d_is_integer, D_is_integer⟩ := L.dis_integer
  obtain ⟨f_is_from_one, d_is_from_one, D_is_from_one⟩ := L.dis_from_one
  obtain ⟨f_is_home, d_is_home, D_is_home⟩ := L.dis_home
  obtain ⟨f_is_hand, d_is_hand, D_is_hand⟩ := L.dis_hand
  obtain ⟨f_is_pair, d_is_pair, D_is_pair⟩ := L.dis_pair
  obtain ⟨f_is_signs, d_is_signs, D_is_signs⟩ := L.dis_signs
  obtain ⟨f_is_piece, d_is_piece, D_is_piece⟩ := L.dis_piece
  obtain ⟨f_is_name, d_is_name, D_is_name⟩ := L.dis_name
  obtain ⟨f_is_block_id, d_is_block_id, D_is_block_id⟩ := L.dis_block_id
  obtain ⟨f_is_row, d_is_row, D_is_row⟩ := L.dis_row
  obtain ⟨f_is_stamp, d_is_stamp, D_is_stamp⟩ := L.dis_stamp
  obtain ⟨f_is_members, d_is_members, D_is_members⟩ := L.dis_members
  obtain ⟨f_is_ascending, d_is_ascending, D_is_ascending⟩ := L.dis_ascending
  obtain ⟨f_is_count, d_is_count, D_is_count⟩ := L.dis_count
  obtain ⟨f_is_tuple_of, d_is_tuple_of, D_is_tuple_of⟩ := L.dis_tuple_of
  obtain ⟨f_is_ahead, d_is_ahead, D_is_ahead⟩ := L.dis_ahead
  obtain ⟨f_is_vote, d_is_vote, D_is_vote⟩ := L.dis_vote
  obtain ⟨f__is_named_head, d__is_named_head, D__is_named_head⟩ := L.d_is_named_head
  obtain ⟨f__is_block, d__is_block, D__is_block⟩ := L.d_is_block
  obtain ⟨f_is_heads, d_is_heads, D_is_heads⟩ := L.dis_heads
  obtain ⟨f_is_blocks, d_is_blocks, D_is_blocks⟩ := L.dis_blocks
  obtain ⟨f__is_lease, d__is_lease, D__is_lease⟩ := L.d_is_lease
  obtain ⟨f__are_leases, d__are_leases, D__are_leases⟩ := L.d_are_leases
  obtain ⟨f__are_kept, d__are_kept, D__are_kept⟩ := L.d_are_kept
  obtain ⟨f_is_table, d_is_table, D_is_table⟩ := L.dis_table
  obtain ⟨f_changed, d_changed, D_changed⟩ := L.dchanged
  obtain ⟨f__leases_by_holder, d__leases_by_holder, D__leases_by_holder⟩ := L.d_leases_by_holder
  obtain ⟨f__leases_in_order, d__leases_in_order, D__leases_in_order⟩ := L.d_leases_in_order
  obtain ⟨f_is_part, d_is_part, D_is_part⟩ := L.dis_part
  obtain ⟨f_are_parts, d_are_parts, D_are_parts⟩ := L.dare_parts
  obtain ⟨f_is_deed, d_is_deed, D_is_deed⟩ := L.dis_deed
  obtain ⟨f_lets, d_lets, D_lets⟩ := L.dlets
  obtain ⟨f_done, d_done, D_done⟩ := L.ddone
  obtain ⟨f_behind, d_behind, D_behind⟩ := L.dbehind
  obtain ⟨f__law_number, d__law_number, D__law_number⟩ := L.d_law_number
  obtain ⟨f__law_stamp, d__law_stamp, D__law_stamp⟩ := L.d_law_stamp
  obtain ⟨f__law_row, d__law_row, D__law_row⟩ := L.d_law_row
  obtain ⟨f__law_members, d__law_members, D__law_members⟩ := L.d_law_members
  obtain ⟨f__law_leases, d__law_leases, D__law_leases⟩ := L.d_law_leases
  obtain ⟨f__law_vote, d__law_vote, D__law_vote⟩ := L.d_law_vote
  obtain ⟨f__law_heads, d__law_heads, D__law_heads⟩ := L.d_law_heads
  obtain ⟨f__law_blocks, d__law_blocks, D__law_blocks⟩ := L.d_law_blocks
  obtain ⟨f__law_unlike, d__law_unlike, D__law_unlike⟩ := L.d_law_unlike
  obtain ⟨f__law_name, d__law_name, D__law_name⟩ := L.d_law_name
  obtain ⟨f__law_id, d__law_id, D__law_id⟩ := L.d_law_id
  obtain ⟨f__law_table, d__law_table, D__law_table⟩ := L.d_law_table
  obtain ⟨f__law_alike, d__law_alike, D__law_alike⟩ := L.d_law_alike
  obtain ⟨f__law_ticked, d__law_ticked, D__law_ticked⟩ := L.d_law_ticked
  obtain ⟨f__law_well, d__law_well, D__law_well⟩ := L.d_law_well
  obtain ⟨f__law_start, d__law_start, D__law_start⟩ := L.d_law_start
  obtain ⟨f__law_keys, d__law_keys, D__law_keys⟩ := L.d_law_keys
  obtain ⟨f__law_deeds, d__law_deeds, D__law_deeds⟩ := L.d_law_deeds
  obtain ⟨f__law_held_behind, d__law_held_behind, D__law_held_behind⟩ := L.d_law_held_behind
  obtain ⟨f__law_is_table, d__law_is_table, D__law_is_table⟩ := L.d_law_is_table
  obtain ⟨f__law_lease_of, d__law_lease_of, D__law_lease_of⟩ := L.d_law_lease_of
  obtain ⟨C, XE⟩ := L.E
  obtain ⟨aD, es, nD, DS⟩ := L.ds
  obtain ⟨aO, f1, f2, f3, f4, d1, d2, d3, d4, gO, k1, k2, k3, k4, E1, E2, E3, E4⟩ := L.dg
  have B := L.B
  have Z := L.Z
  have N := L.N
  have N2 := L.N2
  have S : Bs K mg C := ⟨B, XE⟩
  have JI := jd_int (P := P) (wd := wd) (base := base) D_is_integer S
  have JF := jd_from D_is_from_one S JI
  have JH := jd_home D_is_home S N JI
  have JHa := jd_hand D_is_hand S N JI
  have JP := jd_pair (P := P) (wd := wd) (base := base) D_is_pair S
  have JS := jd_signs (P := P) (wd := wd) (base := base) D_is_signs S
  have JPc := jd_piece D_is_piece S N JS
  have JN := jd_name (P := P) (wd := wd) (base := base) D_is_name S N
  have JId := jd_id D_is_block_id S JP JHa JF
  have JR := jd_row D_is_row S N JId
  have JSt := jd_stamp D_is_stamp S JP JI JF JHa
  have JM := jd_members D_is_members S N JH D_is_ascending
  have JC := jd_cnt D_is_count S JI
  have JT : JTO P wd K mg base C f_is_tuple_of d_is_tuple_of := ⟨D_is_tuple_of, ok_TO D_is_tuple_of S⟩
  have JA := jw_ahead D_is_ahead S JM
  have JV := jd_vote D_is_vote S JP JSt JM
  have JNd := jd_named D__is_named_head S JT JN JSt JR
  have JBk := jd_blk D__is_block S JP JId JPc
  have JHs := jw_heads D_is_heads S JNd D_is_ascending
  have JBs := jw_blocks D_is_blocks S JBk D_is_ascending
  have JLe := jd_lease D__is_lease S JT JN JHa JC
  have JLs := jw_leases D__are_leases S JLe D_is_ascending
  have JK := jw_kept D__are_kept S JM JA JHs JBs
  have JTb := jw_table D_is_table S N2 JT JC JLs JSt JV JM JK
  have GP := ok_part D_is_part JC JN JHa
  have GPs := ok_parts D_are_parts B Z D_is_part GP
  have GDd := ok_deed D_is_deed S DS D_are_parts GPs
  have GLe : FnOk P wd K mg base CX0 1 f_lets d_lets ["table", "deed"] (spLets C) := ok_lets D_lets N2
  have G4 : FnOk P wd K mg base CX0 3 f_done d_done ["table", "deed"] (fun vs H Q E => ∃ De, Deed.ok De ∧ spDone C De vs H Q E) := FnOk.ex Deed.ok fun De hok => by
    cases De with
    | lease k t => exact ok_done1 (De := .lease k t) D_done gO k1 E1.F.kp E1.b (ok_leased E1 B Z N2 D__leases_by_holder D__leases_in_order D_changed hok.2.2)
    | free k t => exact ok_done1 (De := .free k t) D_done gO k2 E2.F.kp E2.b (ok_freed E2 B N2 D_changed)
    | tick => exact ok_done1 (De := .tick) D_done gO k3 E3.F.kp E3.b (ok_ticked E3 B N2 D_changed)
    | rise => exact ok_done1 (De := .rise) D_done gO k4 E4.F.kp E4.b (ok_risen E4 B N2 D_changed)
  have GB := ok_behind D_behind JTb D_is_deed GDd D_lets GLe D_done G4
  have R : Dr P wd K mg base f__law_mixed f__law_filled f__law_draw f__law_signs f__law_string d__law_mixed d__law_filled d__law_draw d__law_signs d__law_string := ⟨D__law_mixed, D__law_filled, D__law_draw, D__law_signs, D__law_string, B⟩
  have D : Dd P wd K mg base f__law_draw d__law_draw := ⟨ok_draw D__law_draw.F B D__law_mixed D__law_filled, D__law_draw.g, D__law_draw.F.kp, D__law_draw.b⟩
  have GT : FnOk P wd K mg base CX0 4 f__law_string d__law_string ["well", "many"] spString := ok_string R
  have GId := ok_idL D__law_id.F D D__law_number
  have GSt := ok_stampL D__law_stamp.F D D__law_number
  have GMe := ok_mem D__law_members.F B D
  have GNm := ok_name D__law_name.F B D
  have GRw := ok_rowL (C := C) D__law_row.F B D
  have GHs := ok_headsL D__law_heads.F B D D__law_stamp GSt D__law_row GRw
  have GBl := ok_blocksL (C := C) (kS := 4) D__law_blocks.F B D D__law_string (GT.mono (by decide))
  have GLs := ok_leasesL (C := C) D__law_leases.F B Z D
  have GVo := ok_voteL (C := C) D__law_vote.F D D__law_stamp GSt D__law_members GMe
  have GTab := ok_tableL D__law_table.F D D__law_number D__law_leases GLs D__law_stamp GSt D__law_vote GVo D__law_members GMe D__law_heads GHs D__law_blocks GBl
  have GStart := ok_startL D__law_start.F B D D__law_unlike (ok_unS D__law_unlike.F Z) (ok_unP D__law_unlike.F Z) D__law_name GNm D__law_id GId D__law_table GTab
  have GKeys := ok_keysL (C := C) D__law_keys.F B D
  have GDeeds := ok_deedsL (C := C) D__law_deeds.F B D D__law_number
  have GAl := ok_alike (P := P) (wd := wd) (base := base) D__law_alike S 12
  have GTk := ok_tickedL (P := P) (wd := wd) (base := base) D__law_ticked.F Z
  have GHb := ok_heldL (C := C) D__law_held_behind.F B D__law_ticked GTk
  have GIt := ok_isTabL D__law_is_table.F B Z D__law_alike GAl
  have GLo := ok_leaseOf (P := P) (wd := wd) (mg := mg) (base := base) (C := C) D__law_lease_of.F
  have GW := ok_well (P := P) (w := wd) (base := base) D__law_well.F B
  exact law_core hS hr S B D D__law_well (GW.mono (by decide)) D__law_start (GStart.mono (by decide)) D__law_keys (GKeys.mono (by decide)) D__law_deeds (GDeeds.mono (by decide)) D__law_held_behind (GHb.mono (by decide)) D_behind (GB.mono (by decide)) D__law_is_table (GIt.mono (by decide)) D__law_lease_of (GLo.mono (by decide)) D__law_alike (GAl.mono (by decide))
end
end Hs
namespace Hs
open PySem PySem.Spec PyProof.Rows L2
section
variable {K : PySem.W.Frag} {h : Heap} {mg : Str → Option Value}
theorem df_mk {x : Str} {st : Stmt} {ps : List Str} {f : Addr} {oc : Value} {od an : Option Addr} {sl : Array (Option Value)} {kV dc pm cd ct : Value} (X : K.In h) (G : h.Ns mainGlobals mg)
    (a : PySem.W.nsIn K mainGlobals x = some (some (.ref f))) (l : K.lookup f = some ⟨oc, od, .func (PySem.W.fnOf x x (defArgs st) (defBody st) (defScope st) .none kV dc pm an cd ct), sl⟩) (c : PySem.W.codeIn K cd x = true) (k : PySem.W.keepIn K (.ref f) = true)
    (b : ∀ (kV doc pm : Value) (an : Option Addr) (cdv ct : Value) (us : List Value), us.length = ps.length → bindArgs (PySem.W.fnOf x x (defArgs st) (defBody st) (defScope st) .none kV doc pm an cdv ct) ⟨us, []⟩ = pure (ps.zip us)) :
    Df K mg x st ps f (PySem.W.fnOf x x (defArgs st) (defBody st) (defScope st) .none kV dc pm an cd ct) := by
  have F := fun_mk (st := st) l c k
  exact ⟨F, F.binds b, PySem.W.mg_of X G a⟩
theorem exm_self {S : Addr} (h1 : PySem.W.subIn K (.ref S) (.type "BaseException") = some true) (h2 : PySem.W.isClsIn K S = true) (h3 : PySem.W.typeIn K (.ref S) = some (.type "type")) (h4 : PySem.W.subIn K (.ref S) (.ref S) = some true) :
    PySem.W.exmOne K (.ref S) (.ref S) = some true := by
  have e1 : (PySem.W.subIn K (.ref S) (.type "BaseException") == some true) = true := by rw [h1] <;> rfl
  have e2 : ((PySem.W.clsIn K S).isSome && PySem.W.typeIn K (.ref S) == some (.type "type")) = true := by
    have h2' : (PySem.W.clsIn K S).isSome = true := h2
    rw [h2', h3] <;> rfl
  show (if (PySem.W.subIn K (.ref S) (.type "BaseException") == some true) = true then (if ((PySem.W.clsIn K S).isSome && PySem.W.typeIn K (.ref S) == some (.type "type")) = true then PySem.W.subIn K (.ref S) (.ref S) else none) else none) = some true
  rw [if_pos e1, if_pos e2]
  exact h4
theorem gh_mk {x : Str} {C : Addr} (X : K.In h) (G : h.Ns mainGlobals mg) (a : PySem.W.nsIn K mainGlobals x = some (some (.ref C))) : mg x = some (.ref C) := PySem.W.mg_of X G a
theorem gi_mk {x : Str} {n : Int} {t : Tok} (X : K.In h) (G : h.Ns mainGlobals mg) (a : PySem.W.nsIn K mainGlobals x = some (some (.int n t))) : ∃ t, mg x = some (.int n t) := ⟨t, PySem.W.mg_of X G a⟩
theorem gn_mk {x : Str} (X : K.In h) (G : h.Ns mainGlobals mg) (a : PySem.W.nsIn K mainGlobals x = some none) : mg x = none := PySem.W.mg_none_of X G a
theorem ec_mk {x : Str} {C : Addr} (X : K.In h) (G : h.Ns mainGlobals mg) (a : PySem.W.nsIn K mainGlobals x = some (some (.ref C)))
    (q : PySem.W.excIn K C [.type "ValueError", .type "Exception", .type "BaseException", .type "object"] "ValueError.__new__" = true) (k : PySem.W.keepIn K (.ref C) = true) (b : PySem.W.subIn K (.ref C) (.type "BaseException") = some true)
    (t : PySem.W.typeIn K (.ref C) = some (.type "type")) (i : PySem.W.isClsIn K C = true) (s : PySem.W.subIn K (.ref C) (.ref C) = some true) : Ec K mg x C := ⟨PySem.W.mg_of X G a, q, k, b, t, exm_self b i t s⟩

theorem xc_mk {x : Str} {C : Addr} {nm : Str} {oc : Obj} {cd : ClassData} (X : K.In h) (G : h.Ns mainGlobals mg) (a : PySem.W.nsIn K mainGlobals x = some (some (.ref C)))
    (q : PySem.W.excIn K C [.type "ValueError", .type "Exception", .type "BaseException", .type "object"] "ValueError.__new__" = true) (k : PySem.W.keepIn K (.ref C) = true)
    (c1 : PySem.W.findIn K (.ref C) "__getattribute__" = some (some (.builtin "BaseException.__getattribute__"))) (c2 : PySem.W.findIn K (.ref C) "__getattr__" = some none) (c3 : PySem.W.subIn K (.ref C) (.type "BaseException") = some true) (c4 : PySem.W.hasDictIn K C = true)
    (c5 : PySem.W.findIn K (.ref C) "__class__" = some (some (.builtin "object.__class__"))) (c6 : PySem.W.specialIn K (.builtin "object.__class__") "__get__" = some (some (.builtin "getset_descriptor.__get__"))) (c7 : PySem.W.takesIn K (.builtin "object.__class__") = some true) (c8 : PySem.W.mroIn K C (.type "object") = some true)
    (r1 : K.lookup C = some oc) (r2 : oc.data = .cls cd) (r3 : Str.ofString ((cd.name.toString.cutAt '.').getLastD "") = nm) (r4 : PySem.W.findIn K (.ref C) "__repr__" = some (some (.builtin "BaseException.__repr__")))
    (ki : PySem.W.kitOne K (.ref C) (.type "int") = some false) (kb : PySem.W.kitOne K (.ref C) (.type "bool") = some false) (ks : PySem.W.kitOne K (.ref C) (.type "str") = some false) (kt : PySem.W.kitOne K (.ref C) (.type "tuple") = some false) : Hu.Xc K mg x C nm :=
  ⟨PySem.W.mg_of X G a, q, k, ⟨c1, c2, c3, c4, c5, c6, c7, c8⟩, ⟨⟨oc, cd, r1, r2, r3⟩, r4, c3⟩, ki, kb, ks, kt⟩
theorem tk3_mk {p : Addr} {od : Option Addr} {t1 t2 t3 : Tok} {n : Nat} {sl : Array (Option Value)} (l : K.lookup p = some ⟨.type "tuple", od, .seq #[.str "name" t1, .str "hand" t2, .str "talk" t3] n, sl⟩) : TupK K p ["name", "hand", "talk"] :=
  fun H => .inr ⟨_, _, _, l, rfl, rfl, by show (3 : Nat) ≤ sizeLine; decide, .cons ⟨_, rfl⟩ (.cons ⟨_, rfl⟩ (.cons ⟨_, rfl⟩ .nil))⟩
theorem tk0_mk {p : Addr} {od : Option Addr} {n : Nat} {sl : Array (Option Value)} (l : K.lookup p = some ⟨.type "tuple", od, .seq #[] n, sl⟩) : TupK K p [] :=
  fun H => .inr ⟨_, _, _, l, rfl, rfl, by show (0 : Nat) ≤ sizeLine; decide, .nil⟩
theorem dds_mk {w : World} {a p1 p2 p3 p4 : Addr} {es : Array DictEntry} {n : Nat} (X : K.In h) (G : h.Ns mainGlobals mg) (g : PySem.W.nsIn K mainGlobals "DEEDS" = some (some (.ref a))) (l : K.lookup a = some ⟨.type "dict", none, .dict es n, #[]⟩)
    (lit : PySem.W.KeysLit w.params es.toList) (low : (a == sysModules) = false) (e1 : PySem.W.nsIn K a "lease" = some (some (.ref p1))) (e2 : PySem.W.nsIn K a "free" = some (some (.ref p2))) (e3 : PySem.W.nsIn K a "tick" = some (some (.ref p3))) (e4 : PySem.W.nsIn K a "rise" = some (some (.ref p4)))
    (t1 : TupK K p1 ["name", "hand", "talk"]) (t2 : TupK K p2 ["name", "hand", "talk"]) (t3 : TupK K p3 []) (t4 : TupK K p4 []) : ∃ (a : Addr) (es : Array DictEntry) (n : Nat), Dds K w mg a es n :=
  ⟨a, es, n, PySem.W.mg_of X G g, ⟨l, lit, low⟩, ⟨p1, e1, t1⟩, ⟨p2, e2, t2⟩, ⟨p3, e3, t3⟩, ⟨p4, e4, t4⟩⟩
theorem kd_mk {w : World} {a f : Addr} {x : Str} {es : Array DictEntry} {n : Nat} (X : K.In h) (l : K.lookup a = some ⟨.type "dict", none, .dict es n, #[]⟩) (lit : PySem.W.KeysLit w.params es.toList) (e : PySem.W.nsIn K a x = some (some (.ref f))) : KDct K w a x (.ref f) :=
  ⟨es, n, _, l, lit, e, rfl⟩
theorem law_run {l : PySem.W.OpenLaw} {w : World} {f fa : Addr} {oc : Value} {od an : Option Addr} {sl : Array (Option Value)} {kV dc pm cd ct : Value} (X : K.In h) (G : h.Ns mainGlobals mg) (hfa : mg "law" = some (.ref fa))
    (a : PySem.W.nsIn K mainGlobals "law" = some (some (.ref f))) (lk : K.lookup f = some ⟨oc, od, .func (PySem.W.fnOf "law" "law" (defArgs lLaw) (defBody lLaw) (defScope lLaw) .none kV dc pm an cd ct), sl⟩) (c : PySem.W.codeIn K cd "law" = true)
    (A0 : La K w mg) : ∀ (s : Shared) (a : Addr) (ns : List Int) (base : Heap) (H : Hp), K.In base → base.Ns mainGlobals mg → Env0 l.prog w K mg base callerA [] s H → SqL K H a (ns.map V.int) →
        codeAny (model l.prog w) callerA (.call (.ref fa) ⟨[.ref a], []⟩) (CR CX0 [] l.prog w H s (fun v _ => v = .bl true) (fun _ _ _ => False)) s := by
  have e := hfa.symm.trans (PySem.W.mg_of X G a)
  cases e
  exact fun s a ns base H kb gb ev hS => Gd.run_at (k := 40) (us := [.ref a]) (vs := [.ref a]) lk c scLaw3 ⟨rfl, by decide, by decide⟩ ev (.of_eq rfl) (.cons rfl .nil) rfl (fun room => law_body A0 hS room)
end
end Hs
open PySem PySem.W PyProof.Rows
set_option maxRecDepth 100000 in
set_option maxHeartbeats 0 in
theorem PySem.Challenge.cw_homeshold_k03_whole_leases_over_time_holds : PySem.Challenge.rw_homeshold_k03_whole_leases_over_time.Holds := by
  w_on; o_law; k_head; (case hw => w_witness2)
  k_fill
  refine Gd.walk_at (l := PySem.Challenge.rw_homeshold_k03_whole_leases_over_time) (n := 63) rfl (by decide) rfl (fun w h Y => PySem.W.kIn_of Y) ?F
  case F =>
    intro w mg fa h KX G hmg
    obtain h_law_mixed : ∃ f fd, Hs.Df _ mg "_law_mixed" Hs.sMixed ["number"] f fd := by
      refine' ⟨_, _, Hs.df_mk KX G ?a ?l ?c ?k (fun _ _ _ _ _ _ us hl => match us, hl with | [_], _ => rfl)⟩
      (case a => k_is); (case l => k_is); (case c => k_is); (case k => k_is)
    obtain h_law_filled : ∃ f fd, Hs.Df _ mg "_law_filled" Hs.sFilled ["well"] f fd := by
      refine' ⟨_, _, Hs.df_mk KX G ?a ?l ?c ?k (fun _ _ _ _ _ _ us hl => match us, hl with | [_], _ => rfl)⟩
      (case a => k_is); (case l => k_is); (case c => k_is); (case k => k_is)
    obtain h_law_draw : ∃ f fd, Hs.Df _ mg "_law_draw" Hs.sDraw ["well", "many"] f fd := by
      refine' ⟨_, _, Hs.df_mk KX G ?a ?l ?c ?k (fun _ _ _ _ _ _ us hl => match us, hl with | [_, _], _ => rfl)⟩
      (case a => k_is); (case l => k_is); (case c => k_is); (case k => k_is)
    obtain h_law_signs : ∃ f fd, Hs.Df _ mg "_law_signs" Hs.sSigns [] f fd := by
      refine' ⟨_, _, Hs.df_mk KX G ?a ?l ?c ?k (fun _ _ _ _ _ _ us hl => match us, hl with | [], _ => rfl)⟩
      (case a => k_is); (case l => k_is); (case c => k_is); (case k => k_is)
    obtain h_law_string : ∃ f fd, Hs.Df _ mg "_law_string" Hs.sString ["well", "many"] f fd := by
      refine' ⟨_, _, Hs.df_mk KX G ?a ?l ?c ?k (fun _ _ _ _ _ _ us hl => match us, hl with | [_, _], _ => rfl)⟩
      (case a => k_is); (case l => k_is); (case c => k_is); (case k => k_is)
    obtain his_integer : ∃ f fd, Hs.Df _ mg "is_integer" Hs.sIsInt ["thing"] f fd := by
      refine' ⟨_, _, Hs.df_mk KX G ?a ?l ?c ?k (fun _ _ _ _ _ _ us hl => match us, hl with | [_], _ => rfl)⟩
      (case a => k_is); (case l => k_is); (case c => k_is); (case k => k_is)
    obtain his_from_one : ∃ f fd, Hs.Df _ mg "is_from_one" Hs.sFromOne ["thing"] f fd := by
      refine' ⟨_, _, Hs.df_mk KX G ?a ?l ?c ?k (fun _ _ _ _ _ _ us hl => match us, hl with | [_], _ => rfl)⟩
      (case a => k_is); (case l => k_is); (case c => k_is); (case k => k_is)
    obtain his_home : ∃ f fd, Hs.Df _ mg "is_home" Hs.sHome ["thing"] f fd := by
      refine' ⟨_, _, Hs.df_mk KX G ?a ?l ?c ?k (fun _ _ _ _ _ _ us hl => match us, hl with | [_], _ => rfl)⟩
      (case a => k_is); (case l => k_is); (case c => k_is); (case k => k_is)
    obtain his_hand : ∃ f fd, Hs.Df _ mg "is_hand" Hs.sHand ["thing"] f fd := by
      refine' ⟨_, _, Hs.df_mk KX G ?a ?l ?c ?k (fun _ _ _ _ _ _ us hl => match us, hl with | [_], _ => rfl)⟩
      (case a => k_is); (case l => k_is); (case c => k_is); (case k => k_is)
    obtain his_pair : ∃ f fd, Hs.Df _ mg "is_pair" Hs.sPair ["thing"] f fd := by
      refine' ⟨_, _, Hs.df_mk KX G ?a ?l ?c ?k (fun _ _ _ _ _ _ us hl => match us, hl with | [_], _ => rfl)⟩
      (case a => k_is); (case l => k_is); (case c => k_is); (case k => k_is)
    obtain his_signs : ∃ f fd, Hs.Df _ mg "is_signs" Hs.sIsSigns ["thing"] f fd := by
      refine' ⟨_, _, Hs.df_mk KX G ?a ?l ?c ?k (fun _ _ _ _ _ _ us hl => match us, hl with | [_], _ => rfl)⟩
      (case a => k_is); (case l => k_is); (case c => k_is); (case k => k_is)
    obtain his_piece : ∃ f fd, Hs.Df _ mg "is_piece" Hs.sPiece ["thing"] f fd := by
      refine' ⟨_, _, Hs.df_mk KX G ?a ?l ?c ?k (fun _ _ _ _ _ _ us hl => match us, hl with | [_], _ => rfl)⟩
      (case a => k_is); (case l => k_is); (case c => k_is); (case k => k_is)
    obtain his_name : ∃ f fd, Hs.Df _ mg "is_name" Hs.sName ["thing"] f fd := by
      refine' ⟨_, _, Hs.df_mk KX G ?a ?l ?c ?k (fun _ _ _ _ _ _ us hl => match us, hl with | [_], _ => rfl)⟩
      (case a => k_is); (case l => k_is); (case c => k_is); (case k => k_is)
    obtain his_block_id : ∃ f fd, Hs.Df _ mg "is_block_id" Hs.sBlockId ["thing"] f fd := by
      refine' ⟨_, _, Hs.df_mk KX G ?a ?l ?c ?k (fun _ _ _ _ _ _ us hl => match us, hl with | [_], _ => rfl)⟩
      (case a => k_is); (case l => k_is); (case c => k_is); (case k => k_is)
    obtain his_row : ∃ f fd, Hs.Df _ mg "is_row" Hs.sRow ["thing"] f fd := by
      refine' ⟨_, _, Hs.df_mk KX G ?a ?l ?c ?k (fun _ _ _ _ _ _ us hl => match us, hl with | [_], _ => rfl)⟩
      (case a => k_is); (case l => k_is); (case c => k_is); (case k => k_is)
    obtain his_stamp : ∃ f fd, Hs.Df _ mg "is_stamp" Hs.sStamp ["thing"] f fd := by
      refine' ⟨_, _, Hs.df_mk KX G ?a ?l ?c ?k (fun _ _ _ _ _ _ us hl => match us, hl with | [_], _ => rfl)⟩
      (case a => k_is); (case l => k_is); (case c => k_is); (case k => k_is)
    obtain his_members : ∃ f fd, Hs.Df _ mg "is_members" Hs.sMembers ["thing"] f fd := by
      refine' ⟨_, _, Hs.df_mk KX G ?a ?l ?c ?k (fun _ _ _ _ _ _ us hl => match us, hl with | [_], _ => rfl)⟩
      (case a => k_is); (case l => k_is); (case c => k_is); (case k => k_is)
    obtain his_ascending : ∃ f fd, Hs.Df _ mg "is_ascending" Hs.sAscending ["things"] f fd := by
      refine' ⟨_, _, Hs.df_mk KX G ?a ?l ?c ?k (fun _ _ _ _ _ _ us hl => match us, hl with | [_], _ => rfl)⟩
      (case a => k_is); (case l => k_is); (case c => k_is); (case k => k_is)
    obtain his_count : ∃ f fd, Hs.Df _ mg "is_count" Hs.sCount ["thing"] f fd := by
      refine' ⟨_, _, Hs.df_mk KX G ?a ?l ?c ?k (fun _ _ _ _ _ _ us hl => match us, hl with | [_], _ => rfl)⟩
      (case a => k_is); (case l => k_is); (case c => k_is); (case k => k_is)
    obtain his_tuple_of : ∃ f fd, Hs.Df _ mg "is_tuple_of" Hs.sTO ["many", "thing"] f fd := by
      refine' ⟨_, _, Hs.df_mk KX G ?a ?l ?c ?k (fun _ _ _ _ _ _ us hl => match us, hl with | [_, _], _ => rfl)⟩
      (case a => k_is); (case l => k_is); (case c => k_is); (case k => k_is)
    obtain his_ahead : ∃ f fd, Hs.Df _ mg "is_ahead" Hs.sAhead ["thing"] f fd := by
      refine' ⟨_, _, Hs.df_mk KX G ?a ?l ?c ?k (fun _ _ _ _ _ _ us hl => match us, hl with | [_], _ => rfl)⟩
      (case a => k_is); (case l => k_is); (case c => k_is); (case k => k_is)
    obtain his_vote : ∃ f fd, Hs.Df _ mg "is_vote" Hs.sVote ["thing"] f fd := by
      refine' ⟨_, _, Hs.df_mk KX G ?a ?l ?c ?k (fun _ _ _ _ _ _ us hl => match us, hl with | [_], _ => rfl)⟩
      (case a => k_is); (case l => k_is); (case c => k_is); (case k => k_is)
    obtain h_is_named_head : ∃ f fd, Hs.Df _ mg "_is_named_head" Hs.sNamed ["thing"] f fd := by
      refine' ⟨_, _, Hs.df_mk KX G ?a ?l ?c ?k (fun _ _ _ _ _ _ us hl => match us, hl with | [_], _ => rfl)⟩
      (case a => k_is); (case l => k_is); (case c => k_is); (case k => k_is)
    obtain h_is_block : ∃ f fd, Hs.Df _ mg "_is_block" Hs.sBlk ["thing"] f fd := by
      refine' ⟨_, _, Hs.df_mk KX G ?a ?l ?c ?k (fun _ _ _ _ _ _ us hl => match us, hl with | [_], _ => rfl)⟩
      (case a => k_is); (case l => k_is); (case c => k_is); (case k => k_is)
    obtain his_heads : ∃ f fd, Hs.Df _ mg "is_heads" Hs.sHeads ["thing"] f fd := by
      refine' ⟨_, _, Hs.df_mk KX G ?a ?l ?c ?k (fun _ _ _ _ _ _ us hl => match us, hl with | [_], _ => rfl)⟩
      (case a => k_is); (case l => k_is); (case c => k_is); (case k => k_is)
    obtain his_blocks : ∃ f fd, Hs.Df _ mg "is_blocks" Hs.sBlocks ["thing"] f fd := by
      refine' ⟨_, _, Hs.df_mk KX G ?a ?l ?c ?k (fun _ _ _ _ _ _ us hl => match us, hl with | [_], _ => rfl)⟩
      (case a => k_is); (case l => k_is); (case c => k_is); (case k => k_is)
    obtain h_is_lease : ∃ f fd, Hs.Df _ mg "_is_lease" Hs.sLease ["thing"] f fd := by
      refine' ⟨_, _, Hs.df_mk KX G ?a ?l ?c ?k (fun _ _ _ _ _ _ us hl => match us, hl with | [_], _ => rfl)⟩
      (case a => k_is); (case l => k_is); (case c => k_is); (case k => k_is)
    obtain h_are_leases : ∃ f fd, Hs.Df _ mg "_are_leases" Hs.sLeases ["thing"] f fd := by
      refine' ⟨_, _, Hs.df_mk KX G ?a ?l ?c ?k (fun _ _ _ _ _ _ us hl => match us, hl with | [_], _ => rfl)⟩
      (case a => k_is); (case l => k_is); (case c => k_is); (case k => k_is)
    obtain h_are_kept : ∃ f fd, Hs.Df _ mg "_are_kept" Hs.sKept ["parts"] f fd := by
      refine' ⟨_, _, Hs.df_mk KX G ?a ?l ?c ?k (fun _ _ _ _ _ _ us hl => match us, hl with | [_], _ => rfl)⟩
      (case a => k_is); (case l => k_is); (case c => k_is); (case k => k_is)
    obtain his_table : ∃ f fd, Hs.Df _ mg "is_table" Hs.sTable ["thing"] f fd := by
      refine' ⟨_, _, Hs.df_mk KX G ?a ?l ?c ?k (fun _ _ _ _ _ _ us hl => match us, hl with | [_], _ => rfl)⟩
      (case a => k_is); (case l => k_is); (case c => k_is); (case k => k_is)
    obtain hchanged : ∃ f fd, Hs.Df _ mg "changed" Hs.sChanged ["table", "at", "part"] f fd := by
      refine' ⟨_, _, Hs.df_mk KX G ?a ?l ?c ?k (fun _ _ _ _ _ _ us hl => match us, hl with | [_, _, _], _ => rfl)⟩
      (case a => k_is); (case l => k_is); (case c => k_is); (case k => k_is)
    obtain h_leases_by_holder : ∃ f fd, Hs.Df _ mg "_leases_by_holder" Hs.sByHolder ["table"] f fd := by
      refine' ⟨_, _, Hs.df_mk KX G ?a ?l ?c ?k (fun _ _ _ _ _ _ us hl => match us, hl with | [_], _ => rfl)⟩
      (case a => k_is); (case l => k_is); (case c => k_is); (case k => k_is)
    obtain h_leases_in_order : ∃ f fd, Hs.Df _ mg "_leases_in_order" Hs.sInOrder ["found"] f fd := by
      refine' ⟨_, _, Hs.df_mk KX G ?a ?l ?c ?k (fun _ _ _ _ _ _ us hl => match us, hl with | [_], _ => rfl)⟩
      (case a => k_is); (case l => k_is); (case c => k_is); (case k => k_is)
    obtain his_part : ∃ f fd, Hs.Df _ mg "is_part" Hs.sPart ["kind", "thing"] f fd := by
      refine' ⟨_, _, Hs.df_mk KX G ?a ?l ?c ?k (fun _ _ _ _ _ _ us hl => match us, hl with | [_, _], _ => rfl)⟩
      (case a => k_is); (case l => k_is); (case c => k_is); (case k => k_is)
    obtain hare_parts : ∃ f fd, Hs.Df _ mg "are_parts" Hs.sParts ["kinds", "things"] f fd := by
      refine' ⟨_, _, Hs.df_mk KX G ?a ?l ?c ?k (fun _ _ _ _ _ _ us hl => match us, hl with | [_, _], _ => rfl)⟩
      (case a => k_is); (case l => k_is); (case c => k_is); (case k => k_is)
    obtain his_deed : ∃ f fd, Hs.Df _ mg "is_deed" Hs.sDeed ["thing"] f fd := by
      refine' ⟨_, _, Hs.df_mk KX G ?a ?l ?c ?k (fun _ _ _ _ _ _ us hl => match us, hl with | [_], _ => rfl)⟩
      (case a => k_is); (case l => k_is); (case c => k_is); (case k => k_is)
    obtain hlets : ∃ f fd, Hs.Df _ mg "lets" Hs.sLets ["table", "deed"] f fd := by
      refine' ⟨_, _, Hs.df_mk KX G ?a ?l ?c ?k (fun _ _ _ _ _ _ us hl => match us, hl with | [_, _], _ => rfl)⟩
      (case a => k_is); (case l => k_is); (case c => k_is); (case k => k_is)
    obtain hdone : ∃ f fd, Hs.Df _ mg "done" Hs.sDone ["table", "deed"] f fd := by
      refine' ⟨_, _, Hs.df_mk KX G ?a ?l ?c ?k (fun _ _ _ _ _ _ us hl => match us, hl with | [_, _], _ => rfl)⟩
      (case a => k_is); (case l => k_is); (case c => k_is); (case k => k_is)
    obtain hbehind : ∃ f fd, Hs.Df _ mg "behind" Hs.sBehind ["table", "deed"] f fd := by
      refine' ⟨_, _, Hs.df_mk KX G ?a ?l ?c ?k (fun _ _ _ _ _ _ us hl => match us, hl with | [_, _], _ => rfl)⟩
      (case a => k_is); (case l => k_is); (case c => k_is); (case k => k_is)
    obtain h_law_number : ∃ f fd, Hs.Df _ mg "_law_number" Hs.lNumber ["well"] f fd := by
      refine' ⟨_, _, Hs.df_mk KX G ?a ?l ?c ?k (fun _ _ _ _ _ _ us hl => match us, hl with | [_], _ => rfl)⟩
      (case a => k_is); (case l => k_is); (case c => k_is); (case k => k_is)
    obtain h_law_stamp : ∃ f fd, Hs.Df _ mg "_law_stamp" Hs.lStamp ["well"] f fd := by
      refine' ⟨_, _, Hs.df_mk KX G ?a ?l ?c ?k (fun _ _ _ _ _ _ us hl => match us, hl with | [_], _ => rfl)⟩
      (case a => k_is); (case l => k_is); (case c => k_is); (case k => k_is)
    obtain h_law_row : ∃ f fd, Hs.Df _ mg "_law_row" Hs.lRow ["well", "ids"] f fd := by
      refine' ⟨_, _, Hs.df_mk KX G ?a ?l ?c ?k (fun _ _ _ _ _ _ us hl => match us, hl with | [_, _], _ => rfl)⟩
      (case a => k_is); (case l => k_is); (case c => k_is); (case k => k_is)
    obtain h_law_members : ∃ f fd, Hs.Df _ mg "_law_members" Hs.lMembers ["well"] f fd := by
      refine' ⟨_, _, Hs.df_mk KX G ?a ?l ?c ?k (fun _ _ _ _ _ _ us hl => match us, hl with | [_], _ => rfl)⟩
      (case a => k_is); (case l => k_is); (case c => k_is); (case k => k_is)
    obtain h_law_leases : ∃ f fd, Hs.Df _ mg "_law_leases" Hs.lLeases ["well", "names", "clock"] f fd := by
      refine' ⟨_, _, Hs.df_mk KX G ?a ?l ?c ?k (fun _ _ _ _ _ _ us hl => match us, hl with | [_, _, _], _ => rfl)⟩
      (case a => k_is); (case l => k_is); (case c => k_is); (case k => k_is)
    obtain h_law_vote : ∃ f fd, Hs.Df _ mg "_law_vote" Hs.lVote ["well"] f fd := by
      refine' ⟨_, _, Hs.df_mk KX G ?a ?l ?c ?k (fun _ _ _ _ _ _ us hl => match us, hl with | [_], _ => rfl)⟩
      (case a => k_is); (case l => k_is); (case c => k_is); (case k => k_is)
    obtain h_law_heads : ∃ f fd, Hs.Df _ mg "_law_heads" Hs.lHeads ["well", "names", "ids"] f fd := by
      refine' ⟨_, _, Hs.df_mk KX G ?a ?l ?c ?k (fun _ _ _ _ _ _ us hl => match us, hl with | [_, _, _], _ => rfl)⟩
      (case a => k_is); (case l => k_is); (case c => k_is); (case k => k_is)
    obtain h_law_blocks : ∃ f fd, Hs.Df _ mg "_law_blocks" Hs.lBlocks ["well", "ids", "share"] f fd := by
      refine' ⟨_, _, Hs.df_mk KX G ?a ?l ?c ?k (fun _ _ _ _ _ _ us hl => match us, hl with | [_, _, _], _ => rfl)⟩
      (case a => k_is); (case l => k_is); (case c => k_is); (case k => k_is)
    obtain h_law_unlike : ∃ f fd, Hs.Df _ mg "_law_unlike" Hs.lUnlike ["things"] f fd := by
      refine' ⟨_, _, Hs.df_mk KX G ?a ?l ?c ?k (fun _ _ _ _ _ _ us hl => match us, hl with | [_], _ => rfl)⟩
      (case a => k_is); (case l => k_is); (case c => k_is); (case k => k_is)
    obtain h_law_name : ∃ f fd, Hs.Df _ mg "_law_name" Hs.lName ["well"] f fd := by
      refine' ⟨_, _, Hs.df_mk KX G ?a ?l ?c ?k (fun _ _ _ _ _ _ us hl => match us, hl with | [_], _ => rfl)⟩
      (case a => k_is); (case l => k_is); (case c => k_is); (case k => k_is)
    obtain h_law_id : ∃ f fd, Hs.Df _ mg "_law_id" Hs.lId ["well"] f fd := by
      refine' ⟨_, _, Hs.df_mk KX G ?a ?l ?c ?k (fun _ _ _ _ _ _ us hl => match us, hl with | [_], _ => rfl)⟩
      (case a => k_is); (case l => k_is); (case c => k_is); (case k => k_is)
    obtain h_law_table : ∃ f fd, Hs.Df _ mg "_law_table" Hs.lTable ["well", "names", "ids"] f fd := by
      refine' ⟨_, _, Hs.df_mk KX G ?a ?l ?c ?k (fun _ _ _ _ _ _ us hl => match us, hl with | [_, _, _], _ => rfl)⟩
      (case a => k_is); (case l => k_is); (case c => k_is); (case k => k_is)
    obtain h_law_alike : ∃ f fd, Hs.Df _ mg "_law_alike" Hs.lAlike ["told", "due"] f fd := by
      refine' ⟨_, _, Hs.df_mk KX G ?a ?l ?c ?k (fun _ _ _ _ _ _ us hl => match us, hl with | [_, _], _ => rfl)⟩
      (case a => k_is); (case l => k_is); (case c => k_is); (case k => k_is)
    obtain h_law_ticked : ∃ f fd, Hs.Df _ mg "_law_ticked" Hs.lTicked ["held", "clock"] f fd := by
      refine' ⟨_, _, Hs.df_mk KX G ?a ?l ?c ?k (fun _ _ _ _ _ _ us hl => match us, hl with | [_, _], _ => rfl)⟩
      (case a => k_is); (case l => k_is); (case c => k_is); (case k => k_is)
    obtain h_law_well : ∃ f fd, Hs.Df _ mg "_law_well" Hs.sWell ["script"] f fd := by
      refine' ⟨_, _, Hs.df_mk KX G ?a ?l ?c ?k (fun _ _ _ _ _ _ us hl => match us, hl with | [_], _ => rfl)⟩
      (case a => k_is); (case l => k_is); (case c => k_is); (case k => k_is)
    obtain h_law_start : ∃ f fd, Hs.Df _ mg "_law_start" Hs.lStart ["well"] f fd := by
      refine' ⟨_, _, Hs.df_mk KX G ?a ?l ?c ?k (fun _ _ _ _ _ _ us hl => match us, hl with | [_], _ => rfl)⟩
      (case a => k_is); (case l => k_is); (case c => k_is); (case k => k_is)
    obtain h_law_keys : ∃ f fd, Hs.Df _ mg "_law_keys" Hs.lKeys ["well", "names", "leases"] f fd := by
      refine' ⟨_, _, Hs.df_mk KX G ?a ?l ?c ?k (fun _ _ _ _ _ _ us hl => match us, hl with | [_, _, _], _ => rfl)⟩
      (case a => k_is); (case l => k_is); (case c => k_is); (case k => k_is)
    obtain h_law_deeds : ∃ f fd, Hs.Df _ mg "_law_deeds" Hs.lDeeds ["well", "keys"] f fd := by
      refine' ⟨_, _, Hs.df_mk KX G ?a ?l ?c ?k (fun _ _ _ _ _ _ us hl => match us, hl with | [_, _], _ => rfl)⟩
      (case a => k_is); (case l => k_is); (case c => k_is); (case k => k_is)
    obtain h_law_held_behind : ∃ f fd, Hs.Df _ mg "_law_held_behind" Hs.lHeld ["held", "clock", "deed"] f fd := by
      refine' ⟨_, _, Hs.df_mk KX G ?a ?l ?c ?k (fun _ _ _ _ _ _ us hl => match us, hl with | [_, _, _], _ => rfl)⟩
      (case a => k_is); (case l => k_is); (case c => k_is); (case k => k_is)
    obtain h_law_is_table : ∃ f fd, Hs.Df _ mg "_law_is_table" Hs.lIsTable ["told", "table", "clock", "held"] f fd := by
      refine' ⟨_, _, Hs.df_mk KX G ?a ?l ?c ?k (fun _ _ _ _ _ _ us hl => match us, hl with | [_, _, _, _], _ => rfl)⟩
      (case a => k_is); (case l => k_is); (case c => k_is); (case k => k_is)
    obtain h_law_lease_of : ∃ f fd, Hs.Df _ mg "_law_lease_of" Hs.lLeaseOf ["table", "key"] f fd := by
      refine' ⟨_, _, Hs.df_mk KX G ?a ?l ?c ?k (fun _ _ _ _ _ _ us hl => match us, hl with | [_, _], _ => rfl)⟩
      (case a => k_is); (case l => k_is); (case c => k_is); (case k => k_is)
    obtain eX : ∃ C, Hu.Xc _ mg "NoTable" C "NoTable" := by
      refine' ⟨_, Hs.xc_mk KX G ?a ?xq ?k ?c1 ?c2 ?c3 ?c4 ?c5 ?c6 ?c7 ?c8 ?r1 ?r2 ?r3 ?r4 ?ki ?kb ?ks ?kt⟩
      (case a => k_is)
      (case xq => k_exc)
      (case k => k_is)
      (case c1 => first | k_is)
      (case c2 => first | k_is)
      (case c3 => first | k_is)
      (case c4 => first | k_is)
      (case c5 => first | k_is)
      (case c6 => first | k_is)
      (case c7 => first | k_is)
      (case c8 => first | k_is)
      (case r1 => first | k_is)
      (case r2 => first | rfl)
      (case r3 => first | decide +kernel | rfl)
      (case r4 => first | k_is)
      (case ki => first | k_is | rfl | decide +kernel)
      (case kb => first | k_is | rfl | decide +kernel)
      (case ks => first | k_is | rfl | decide +kernel)
      (case kt => first | k_is | rfl | decide +kernel)
    have nMOST_HOMES : ∃ t, mg "MOST_HOMES" = some (.int 9 t) := by
      refine' Hs.gi_mk KX G ?a
      (case a => k_is)
    have nMOST_HANDS : ∃ t, mg "MOST_HANDS" = some (.int 99 t) := by
      refine' Hs.gi_mk KX G ?a
      (case a => k_is)
    have nMOST_PIECES : ∃ t, mg "MOST_PIECES" = some (.int 12 t) := by
      refine' Hs.gi_mk KX G ?a
      (case a => k_is)
    have nPIECE_SIGNS : ∃ t, mg "PIECE_SIGNS" = some (.int 8 t) := by
      refine' Hs.gi_mk KX G ?a
      (case a => k_is)
    have nNAME_SIGNS : ∃ t, mg "NAME_SIGNS" = some (.int 8 t) := by
      refine' Hs.gi_mk KX G ?a
      (case a => k_is)
    have nEPOCH : ∃ t, mg "EPOCH" = some (.int 0 t) := by
      refine' Hs.gi_mk KX G ?a
      (case a => k_is)
    have nMEMBERS : ∃ t, mg "MEMBERS" = some (.int 1 t) := by
      refine' Hs.gi_mk KX G ?a
      (case a => k_is)
    have nAHEAD : ∃ t, mg "AHEAD" = some (.int 2 t) := by
      refine' Hs.gi_mk KX G ?a
      (case a => k_is)
    have nCLOCK : ∃ t, mg "CLOCK" = some (.int 3 t) := by
      refine' Hs.gi_mk KX G ?a
      (case a => k_is)
    have nHEADS : ∃ t, mg "HEADS" = some (.int 4 t) := by
      refine' Hs.gi_mk KX G ?a
      (case a => k_is)
    have nBLOCKS : ∃ t, mg "BLOCKS" = some (.int 5 t) := by
      refine' Hs.gi_mk KX G ?a
      (case a => k_is)
    have nLEASES : ∃ t, mg "LEASES" = some (.int 6 t) := by
      refine' Hs.gi_mk KX G ?a
      (case a => k_is)
    have nPROMISE : ∃ t, mg "PROMISE" = some (.int 7 t) := by
      refine' Hs.gi_mk KX G ?a
      (case a => k_is)
    have nVOTED : ∃ t, mg "VOTED" = some (.int 8 t) := by
      refine' Hs.gi_mk KX G ?a
      (case a => k_is)
    have nNEXT : ∃ t, mg "NEXT" = some (.int 9 t) := by
      refine' Hs.gi_mk KX G ?a
      (case a => k_is)
    have nMANY_PARTS : ∃ t, mg "MANY_PARTS" = some (.int 10 t) := by
      refine' Hs.gi_mk KX G ?a
      (case a => k_is)
    have nLEASE_TICKS : ∃ t, mg "LEASE_TICKS" = some (.int 8 t) := by
      refine' Hs.gi_mk KX G ?a
      (case a => k_is)
    have b_int : mg "int" = none := by
      refine' Hs.gn_mk KX G ?a
      (case a => k_is)
    have b_len : mg "len" = none := by
      refine' Hs.gn_mk KX G ?a
      (case a => k_is)
    have b_range : mg "range" = none := by
      refine' Hs.gn_mk KX G ?a
      (case a => k_is)
    have b_all : mg "all" = none := by
      refine' Hs.gn_mk KX G ?a
      (case a => k_is)
    have b_isinstance : mg "isinstance" = none := by
      refine' Hs.gn_mk KX G ?a
      (case a => k_is)
    have b_tuple : mg "tuple" = none := by
      refine' Hs.gn_mk KX G ?a
      (case a => k_is)
    have b_list : mg "list" = none := by
      refine' Hs.gn_mk KX G ?a
      (case a => k_is)
    have b_str : mg "str" = none := by
      refine' Hs.gn_mk KX G ?a
      (case a => k_is)
    have b_max : mg "max" = none := by
      refine' Hs.gn_mk KX G ?a
      (case a => k_is)
    have b_bool : mg "bool" = none := by
      refine' Hs.gn_mk KX G ?a
      (case a => k_is)
    have b_sum : mg "sum" = none := by
      refine' Hs.gn_mk KX G ?a
      (case a => k_is)
    have b_repr : mg "repr" = none := by
      refine' Hs.gn_mk KX G ?a
      (case a => k_is)
    have b_sorted : mg "sorted" = none := by
      refine' Hs.gn_mk KX G ?a
      (case a => k_is)
    have b_zip : mg "zip" = none := by
      refine' Hs.gn_mk KX G ?a
      (case a => k_is)
    have B : Hs.Bt mg := ⟨b_int, b_len, b_range, b_all, b_isinstance, b_tuple, b_list, b_str, b_max, b_bool, b_sum, b_repr⟩
    obtain eD : ∃ (a : Addr) (es : Array DictEntry) (n : Nat), Hs.Dds _ w mg a es n := by
      refine' Hs.dds_mk KX G ?g ?l ?lit ?low ?e1 ?e2 ?e3 ?e4 (Hs.tk3_mk ?t1) (Hs.tk3_mk ?t2) (Hs.tk0_mk ?t3) (Hs.tk0_mk ?t4)
      (case g => k_is)
      (case l => k_is)
      (case lit => k_keys)
      (case low => first | rfl | decide +kernel)
      (case e1 => k_is); (case e2 => k_is); (case e3 => k_is); (case e4 => k_is)
      (case t1 => k_is); (case t2 => k_is); (case t3 => k_is); (case t4 => k_is)
    obtain eG : ∃ (a f1 f2 f3 f4 : Addr) (d1 d2 d3 d4 : FuncData), mg "DOINGS" = some (.ref a) ∧ L2.KDct _ w a "lease" (.ref f1) ∧ L2.KDct _ w a "free" (.ref f2) ∧ L2.KDct _ w a "tick" (.ref f3) ∧ L2.KDct _ w a "rise" (.ref f4) ∧ Hs.Df _ mg "_leased" Hs.sLeased ["table", "parts"] f1 d1 ∧ Hs.Df _ mg "_freed" Hs.sFreed ["table", "parts"] f2 d2 ∧ Hs.Df _ mg "_ticked" Hs.sTicked ["table", "parts"] f3 d3 ∧ Hs.Df _ mg "_risen" Hs.sRisen ["table", "parts"] f4 d4 := by
      refine' ⟨_, _, _, _, _, _, _, _, _, Hs.gh_mk KX G ?g, Hs.kd_mk KX ?l1 ?t1 ?e1, Hs.kd_mk KX ?l2 ?t2 ?e2, Hs.kd_mk KX ?l3 ?t3 ?e3, Hs.kd_mk KX ?l4 ?t4 ?e4, Hs.df_mk KX G ?a1 ?m1 ?c1 ?k1 (fun _ _ _ _ _ _ us hl => match us, hl with | [_, _], _ => rfl), Hs.df_mk KX G ?a2 ?m2 ?c2 ?k2 (fun _ _ _ _ _ _ us hl => match us, hl with | [_, _], _ => rfl), Hs.df_mk KX G ?a3 ?m3 ?c3 ?k3 (fun _ _ _ _ _ _ us hl => match us, hl with | [_, _], _ => rfl), Hs.df_mk KX G ?a4 ?m4 ?c4 ?k4 (fun _ _ _ _ _ _ us hl => match us, hl with | [_, _], _ => rfl)⟩
      (case g => k_is)
      (case l1 => k_is); (case t1 => k_keys); (case e1 => k_is); (case a1 => k_is); (case m1 => k_is); (case c1 => k_is); (case k1 => k_is)
      (case l2 => k_is); (case t2 => k_keys); (case e2 => k_is); (case a2 => k_is); (case m2 => k_is); (case c2 => k_is); (case k2 => k_is)
      (case l3 => k_is); (case t3 => k_keys); (case e3 => k_is); (case a3 => k_is); (case m3 => k_is); (case c3 => k_is); (case k3 => k_is)
      (case l4 => k_is); (case t4 => k_keys); (case e4 => k_is); (case a4 => k_is); (case m4 => k_is); (case c4 => k_is); (case k4 => k_is)
    refine' Hs.law_run KX G hmg ?a ?l ?c ⟨B, ⟨b_sorted, b_zip⟩, ⟨nMOST_HOMES, nMOST_HANDS, nMOST_PIECES, nPIECE_SIGNS, nNAME_SIGNS⟩, ⟨nEPOCH, nMEMBERS, nAHEAD, nCLOCK, nHEADS, nBLOCKS, nLEASES, nPROMISE, nVOTED, nNEXT, nMANY_PARTS, nLEASE_TICKS⟩, eX, eD, eG, h_law_mixed, h_law_filled, h_law_draw, h_law_signs, h_law_string, his_integer, his_from_one, his_home, his_hand, his_pair, his_signs, his_piece, his_name, his_block_id, his_row, his_stamp, his_members, his_ascending, his_count, his_tuple_of, his_ahead, his_vote, h_is_named_head, h_is_block, his_heads, his_blocks, h_is_lease, h_are_leases, h_are_kept, his_table, hchanged, h_leases_by_holder, h_leases_in_order, his_part, hare_parts, his_deed, hlets, hdone, hbehind, h_law_number, h_law_stamp, h_law_row, h_law_members, h_law_leases, h_law_vote, h_law_heads, h_law_blocks, h_law_unlike, h_law_name, h_law_id, h_law_table, h_law_alike, h_law_ticked, h_law_well, h_law_start, h_law_keys, h_law_deeds, h_law_held_behind, h_law_is_table, h_law_lease_of⟩
    (case a => k_is); (case l => k_is); (case c => k_is)
