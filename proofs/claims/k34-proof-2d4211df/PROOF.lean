import PyProof.Rows.All
import Wide.All
import OpenK.AllK
import Wide.FinOn
import HandS.ForMost
import HandS.Exc
import HandS.ExcOwn
import HandS.ExcValue
import HandS.IsInst
import PyProof.ReprReads
import PyProof.ReprRoads
import PyProof.ExcRepr
import KE.KExcStr
import HandS.ExcIs
import HandS.Evl
import HandS.TryMany
import HandS.WordsExc
import HandS.Small
import HandS.TupAny
import HandS.Walk
import HandS.Deep
import HandS.Wide
import PyProof.FitsInt
import HandS.Steps
import HandS.ReplaceList
import HandS.ReplaceLit
import HandS.ReplaceDef
import HandS.ExcInit
import HandS.ExcField
import HandS.Style
import PyProof.Rows.StrRev
import PyProof.Rows.StrStep
import HandS.Codes
import KE.GoesEnumKw
import KE.GoesNew
import PyProof.StrLawsLast
import HandS.TryOnly
import PyProof.StrLawsFirst
import PyProof.StrBlock2
import PyProof.StrLawsFrom
import HandS.StrMore
import HandS.OwnEq
import HandS.Lambda
import HandS.EndOwn
import PySem.Challenge.RW_homeshold_k34_disks_refused
set_option Elab.async false
set_option linter.all false
set_option maxRecDepth 100000
namespace PySem
open Sem (wp)
open Builtin Builtin.Str Builtin.BaseException Builtin.Exceptions
open PySem.W (Looks Frag findIn subIn looks_findIn looks_subIn)
section
variable {prog : Program} {w : World} {K : Frag} {C e t0 : Addr} {h₀ : Heap}
/-- an exception of the class C without arguments -/
def HxExc (C e t0 : Addr) (h : Heap) : Prop := (∃ o vs, h.get? e = some o ∧ o.cls = .ref C ∧ o.data = .fields vs ∧ vs[0]? = some (.ref t0) ∧ o.dict = none) ∧ ∃ o n, h.get? t0 = some o ∧ o.cls = .type "tuple" ∧ o.data = .seq #[] n
theorem HxExc.mono {h h' : Heap} (x : HxExc C e t0 h) (k : ∀ b o, h.get? b = some o → h'.get? b = some o) : HxExc C e t0 h' := by
  obtain ⟨⟨o, vs, h1, h2⟩, o', n, h3, h4⟩ := x
  exact ⟨⟨o, vs, k _ _ h1, h2⟩, o', n, k _ _ h3, h4⟩
/-- the class's name -/
def HxName (K : Frag) (C : Addr) (nm : Str) : Prop := ∃ o cd, K.lookup C = some o ∧ o.data = .cls cd ∧ Str.ofString ((cd.name.toString.cutAt '.').getLastD "") = nm
theorem hx_typeName {M : Model} {A : Around} {E : Value → Shared → Prop} {s : Shared} {nm : Str} {Q : String → Shared → Prop} (X : K.In s.heap) (x : HxExc C e t0 s.heap) (n : HxName K C nm) (hq : ∀ z : String, Str.ofString ((z.cutAt '.').getLastD "") = nm → Q z s) : wpAny M A (typeNameOfWhole (.ref e)) Q E s := by
  obtain ⟨⟨o, vs, h1, h2, _⟩, _⟩ := x
  obtain ⟨oc, cd, hc, hd, hn⟩ := n
  have ty : ∀ {Q : Value → Shared → Prop}, Q (.ref C) s → wpAny M A (typeOf (.ref e)) Q E s := fun q => wpAny_typeOf_ref h1 (by rw [h2]; exact q)
  unfold typeNameOfWhole shownTypeOf
  refine wpAny_bind (wpAny_bind (ty ?_))
  have e1 : ((Value.ref C == Value.type "builtin_function_or_method") = true) = False := by simp
  rw [if_neg (by rw [e1]; exact id)]
  refine wpAny_pure ?_
  unfold typeNameWhole classData
  refine wpAny_bind (wpAny_bind (wpAny_load (X C oc hc) ?_))
  rw [hd]
  exact wpAny_pure (wpAny_pure (hq _ hn))
/-- where the class's repr is the base's -/
structure HxRepr (K : Frag) (C : Addr) (nm : Str) : Prop where
  name : HxName K C nm
  find : findIn K (.ref C) "__repr__" = some (some (.builtin "BaseException.__repr__"))
  sub : subIn K (.ref C) (.type "BaseException") = some true
theorem hx_looks {M : Model} {h : Heap} (x : HxExc C e t0 h) : Looks M h (typeOf (.ref e)) (.ref C) := fun A Q E s k q => by
  obtain ⟨⟨o, vs, ho, hc, _⟩, _⟩ := x
  exact wpAny_typeOf_ref (k _ _ ho) (by rw [hc]; exact q)
theorem hx_tuple (x : HxExc C e t0 h₀) : ReprK prog w [t0] h₀ 1 (.ref t0) "()" := by
  obtain ⟨_, o, n, h1, h2, h3⟩ := x
  exact ReprK.tuple (ts := []) (as := []) (d := 0) h1 h2 h3 (by simp) .nil
theorem bexcArgs_T {M : Model} {A : Around} {E : Value → Shared → Prop} {s : Shared} {items : List Value} {Q : Value × List Value → Shared → Prop} (x : ∃ o vs, s.heap.get? e = some o ∧ o.data = .fields vs ∧ vs[0]? = some (.ref t0)) (ht : s.heap.TupAt t0 items) (hq : Q (.ref t0, items) s) :
    wpAny M A (bexcArgs (.ref e)) Q E s := by
  obtain ⟨o, vs, ho, hd, h0⟩ := x
  obtain ⟨ot, k, hto, _, htd⟩ := ht
  unfold bexcArgs
  refine wpAny_bind (wpAny_field ho hd h0 (wpAny_bind (wpAny_seqItems hto htd ?_)))
  have : items.toArray.toList = items := by simp
  show wpAny M A (pure (Value.ref t0, items.toArray.toList)) Q E s
  rw [this]; exact wpAny_pure hq
/-- the body of the base's repr -/
theorem hx_body {A : Around} {g : List Code} {E : Value → Shared → Prop} {s : Shared} {nm : Str} {base : Nat} {Q : Fin → Shared → Prop} (X : K.In h₀) (x : HxExc C e t0 h₀) (R : HxRepr K C nm) (hb : base + (nm ++ "()").length ≤ sizeLine)
    (hg : A.guards = some g) (hcl : Clear g t0) (hu : A.units + 1 < cLine) (hk : ∀ b o, h₀.get? b = some o → s.heap.get? b = some o)
    (hQ : ∀ h' u tk, (∀ b o, s.heap.get? b = some o → h'.get? b = some o) → Q (.done (.ret (.str (nm ++ "()") u))) { s with heap := h', toks := tk }) :
    wpAny (model prog w) A (Builtin.bexcReprAt base ⟨[.ref e], []⟩) Q E s := by
  have xs : HxExc C e t0 s.heap := x.mono hk
  obtain ⟨⟨o, vs, h1, h2, h3, h4, _⟩, ot, n, g1, g2, g3⟩ := id xs
  have e2 : (nm ++ "()").length = nm.length + 2 := by
    rw [strLen_append]
    rfl
  unfold Builtin.bexcReprAt
  repeat (first | with_reducible refine hx_typeName (fun a o q => hk _ _ (X a o q)) xs R.name (fun z hz => ?_) | wp_step)
  rw [h2]
  obtain ⟨oc, cd, hc, hd, hn⟩ := R.name
  show wpAny _ _ (do let c ← classData C; pure c.name.toString) _ _ _
  unfold classData
  refine wpAny_bind (wpAny_bind (wpAny_load (hk _ _ (X C oc hc)) ?_))
  rw [hd]
  refine wpAny_pure (wpAny_pure ?_)
  dsimp only
  rw [hn]
  refine wpAny_bind (bexcArgs_T (items := []) ⟨o, vs, h1, h3, h4⟩ ⟨ot, n, g1, g2, g3⟩ ?_)
  dsimp only
  refine wpAny_bind (hx_tuple x (base + nm.length) (by have : ("()" : Str).length = 2 := rfl; omega) A g E s _ hg (fun b hb => by rw [List.mem_singleton.mp hb]; exact hcl) (by omega) hk fun h' tk hk' => ?_)
  refine wpAny_bind (wpAny_mkStr (x := nm ++ ("()" : Str)) (wpAny_pure ?_) (by omega))
  exact hQ h' _ _ hk'
theorem hx_by {A : Around} {E : Value → Shared → Prop} {s : Shared} {last : Value → List Value → Sem Value} {Q : Option Value → Shared → Prop}
    (sp : ∀ {A : Around} {E : Value → Shared → Prop} {Q : Option Value → Shared → Prop}, Q (some (.builtin "BaseException.__repr__")) s → wpAny (model prog w) A (specialOf (.ref e) (Str.ofString "__repr__")) Q E s)
    (hc : wpAny (model prog w) A (last (.builtin "BaseException.__repr__") [.ref e]) (fun v => Q (some v)) E s) : wpAny (model prog w) A (callSpecialIfBoundBy? last (.ref e) (Str.ofString "__repr__")) Q E s := by
  simp only [callSpecialIfBoundBy?, bindSpecialIfBound?]
  refine wpAny_holding (wpAny_bind (wpAny_bind (sp ?_)))
  simp only [F.excStr_Exception.repr.bind]
  refine wpAny_bind (wpAny_askSetting (wpAny_ite ?_))
  have fin : wpAny (model prog w) A (last (.builtin "BaseException.__repr__") [.ref e] >>= fun v => pure (some v)) Q E s :=
    wpAny_bind (wpAny_mono hc (fun v s' h' => wpAny_pure h') fun _ _ h' => h')
  split
  · exact wpAny_bind (wpAny_pure (wpAny_pure fin))
  · exact wpAny_tryCatch (wpAny_bind (wpAny_pure (wpAny_pure fin)))
theorem hx_bound {A : Around} {E : Value → Shared → Prop} {s : Shared} {Q : Option Value → Shared → Prop}
    (sp : ∀ {A : Around} {E : Value → Shared → Prop} {Q : Option Value → Shared → Prop}, Q (some (.builtin "BaseException.__repr__")) s → wpAny (model prog w) A (specialOf (.ref e) (Str.ofString "__repr__")) Q E s)
    (hc : wpAny (model prog w) A (call (.builtin "BaseException.__repr__") [.ref e]) (fun v => Q (some v)) E s) : wpAny (model prog w) A (callSpecialIfBound? (.ref e) (Str.ofString "__repr__")) Q E s := by
  simp only [callSpecialIfBound?, bindSpecialIfBound?]
  refine wpAny_holding (wpAny_bind (wpAny_bind (sp ?_)))
  simp only [F.excStr_Exception.repr.bind]
  refine wpAny_bind (wpAny_askSetting (wpAny_ite ?_))
  have fin : wpAny (model prog w) A (call (.builtin "BaseException.__repr__") ([.ref e] ++ []) >>= fun v => pure (some v)) Q E s :=
    wpAny_bind (wpAny_mono hc (fun v s' h' => wpAny_pure h') fun _ _ h' => h')
  split
  · exact wpAny_bind (wpAny_pure (wpAny_pure fin))
  · exact wpAny_tryCatch (wpAny_bind (wpAny_pure (wpAny_pure fin)))
/-- repr of such an exception, within another repr -/
theorem hx_repr {nm : Str} (X : K.In h₀) (x : HxExc C e t0 h₀) (R : HxRepr K C nm) (hne : ∀ b ∈ ([] : List Addr), b ≠ e) : ReprK prog w [e, t0] h₀ 3 (.ref e) (nm ++ "()") := by
  intro base hb A g E s Q hg hcl hu hk0 hQ
  have xs := x.mono hk0
  have hf : Looks (model prog w) s.heap (typeLookup (.ref C) (Str.ofString "__repr__")) (some (.builtin "BaseException.__repr__")) := looks_findIn (fun a o q => hk0 _ _ (X a o q)) R.find
  have hi : Looks (model prog w) s.heap (isInstance (.ref e) (.type "BaseException")) true := (hx_looks xs).andThen (looks_subIn (fun a o q => hk0 _ _ (X a o q)) R.sub)
  refine wpAny_pyReprUnder_ref (by omega) ?_
  unfold pyReprObjUnder pyReprObjBy
  refine wpAny_bind (wpAny_cRoomFor (by omega) ?_)
  have sp : ∀ {A : Around} {E : Value → Shared → Prop} {Q : Option Value → Shared → Prop}, Q (some (.builtin "BaseException.__repr__")) s → wpAny (model prog w) A (specialOf (.ref e) (Str.ofString "__repr__")) Q E s := fun q => by
    unfold specialOf
    exact wpAny_bind ((hx_looks xs).here (hf.here q))
  refine wpAny_bind (sp ?_)
  refine wpAny_bind (hx_by sp ?_)
  show wpAny (model prog w) A (call (.builtin "BaseException.__repr__.under") [.ref e, rawInt base]) _ _ _
  refine wpAny_call (codeAny_call_builtin F.plain_bexc_repr_under F.entry_bexc_repr_under ?_)
  rw [F.check_bexc_repr_under]
  refine wpAny_pure ?_
  unfold Builtin.«BaseException.__repr__.under»
  rw [reprTwin_eq]
  refine wpAny_bind (@PySem.W.check_slot (model prog w) _ _ s "BaseException.__repr__" "BaseException" "__repr__" (.ref e) [] [] _ (by decide +kernel) (by decide +kernel) hi (F.args_bexc_repr _) ?_)
  refine hx_body X x R hb (g := g) hg (hcl t0 (by simp)) (by show A.units + 1 + 1 < cLine; omega) hk0 fun h' u tk hk => ?_
  exact wpAny_bind (wpAny_isInstance (T := "str") (b := true) rfl isSubtype_str_str (wpAny_pure ⟨_, _, rfl, hQ h' tk hk⟩))
/-- repr of such an exception by itself -/
theorem hx_reprTop {nm : Str} {A : Around} {E : Value → Shared → Prop} {s : Shared} {Q : Value → Shared → Prop} (X : K.In s.heap) (x : HxExc C e t0 s.heap) (R : HxRepr K C nm) (hb : (nm ++ "()").length ≤ sizeLine) (hg : A.guards = some []) (hu : A.units + 4 < cLine)
    (hQ : ∀ h' u tk, (∀ b o, s.heap.get? b = some o → h'.get? b = some o) → Q (.str (nm ++ "()") u) { s with heap := h', toks := tk }) : wpAny (model prog w) A (call (.builtin "repr") [.ref e]) Q E s := by
  have hf : Looks (model prog w) s.heap (typeLookup (.ref C) (Str.ofString "__repr__")) (some (.builtin "BaseException.__repr__")) := looks_findIn X R.find
  have hi : Looks (model prog w) s.heap (isInstance (.ref e) (.type "BaseException")) true := (hx_looks x).andThen (looks_subIn X R.sub)
  have sp : ∀ {A : Around} {E : Value → Shared → Prop} {Q : Option Value → Shared → Prop}, Q (some (.builtin "BaseException.__repr__")) s → wpAny (model prog w) A (specialOf (.ref e) (Str.ofString "__repr__")) Q E s := fun q => by
    unfold specialOf
    exact wpAny_bind ((hx_looks x).here (hf.here q))
  refine Calls.call_function_entry F.kind_repr F.plain_repr F.entry_repr (F.args_repr1 _) ?_
  unfold Builtin.«repr»
  refine wpAny_bind (m := oneArg "repr" _) (wpAny_pure ?_)
  refine wpAny_bind (m := cRoomFor _ _) (wpAny_cRoomFor (by show A.units + 1 < cLine; omega) ?_)
  refine wpAny_bind (sp ?_)
  refine wpAny_bind (m := callSpecialIfBound? (.ref e) (Str.ofString "__repr__")) (hx_bound sp ?_)
  refine wpAny_call (codeAny_call_builtin F.excStr_Exception.repr.plain F.entry_bexc_repr ?_)
  refine @PySem.W.check_slot (model prog w) _ _ s "BaseException.__repr__" "BaseException" "__repr__" (.ref e) [] [] _ (by decide +kernel) (by decide +kernel) hi (F.args_bexc_repr _) ?_
  refine hx_body (base := 0) X x R (by rw [Nat.zero_add]; exact hb) (g := []) hg (Clear.nil t0) (by show A.units + 1 + 1 + 1 < cLine; omega) (fun _ _ q => q) fun h' u tk hk => ?_
  exact wpAny_bind (wpAny_isInstance (T := "str") (b := true) rfl isSubtype_str_str (wpAny_pure ⟨_, rfl, hQ h' u tk hk⟩))
end
end PySem
/-! any value of the law's: what it is as data, where it stands, its repr -/
namespace Hu
open PySem PySem.Spec PyProof.Rows L2
/-- data: dct us is {'a': [us], 1: None}, exc an error of the one class -/
inductive U where
  | non | bl (b : Bool) | int (i : Int) | str (z : Str) | tup (us : List U) | lst (us : List U) | dct (us : List U) | exc
/-- an error of the class C as it stands at a, its arguments at t -/
def ExN (C t a : Addr) : HO := .ext fun h => ∃ o vs, h.get? a = some o ∧ o.cls = .ref C ∧ o.data = .fields vs ∧ vs[0]? = some (.ref t) ∧ o.dict = none
mutual
/-- the value v is the data u; all that it stands in is tracked, and isn't w -/
inductive At (w C : Addr) (H : Hp) : V → U → Prop
  | non : At w C H .non .non
  | bl (b : Bool) : At w C H (.bl b) (.bl b)
  | int (i : Int) : At w C H (.int i) (.int i)
  | str (z : Str) : At w C H (.str z) (.str z)
  | tup {a : Addr} {xs : List V} {us : List U} : H a = some (.tup xs) → a ≠ w → AtL w C H xs us → At w C H (.ref a) (.tup us)
  | lst {a : Addr} {xs : List V} {us : List U} : H a = some (.lst xs) → a ≠ w → AtL w C H xs us → At w C H (.ref a) (.lst us)
  | dct {a b : Addr} {xs : List V} {us : List U} : H a = some (.dK [(.inr "a", .ref b), (.inl 1, .non)]) → a ≠ w → H b = some (.lst xs) → b ≠ w → AtL w C H xs us → At w C H (.ref a) (.dct us)
  | exc {a t : Addr} : H a = some (ExN C t a) → a ≠ w → H t = some (.tup []) → t ≠ w → At w C H (.ref a) .exc
inductive AtL (w C : Addr) (H : Hp) : List V → List U → Prop
  | nil : AtL w C H [] []
  | cons {v : V} {u : U} {vs : List V} {us : List U} : At w C H v u → AtL w C H vs us → AtL w C H (v :: vs) (u :: us)
end
section
variable {w C : Addr} {H H' : Hp}
mutual
theorem At.keep (k : ∀ b o, b ≠ w → H b = some o → H' b = some o) : ∀ {u : U} {v : V}, At w C H v u → At w C H' v u
  | _, _, .non => .non
  | _, _, .bl b => .bl b
  | _, _, .int i => .int i
  | _, _, .str z => .str z
  | _, _, .tup h n l => .tup (k _ _ n h) n (AtL.keep k l)
  | _, _, .lst h n l => .lst (k _ _ n h) n (AtL.keep k l)
  | _, _, .dct h n h2 n2 l => .dct (k _ _ n h) n (k _ _ n2 h2) n2 (AtL.keep k l)
  | _, _, .exc h n h2 n2 => .exc (k _ _ n h) n (k _ _ n2 h2) n2
theorem AtL.keep (k : ∀ b o, b ≠ w → H b = some o → H' b = some o) : ∀ {us : List U} {vs : List V}, AtL w C H vs us → AtL w C H' vs us
  | _, _, .nil => .nil
  | _, _, .cons x l => .cons (x.keep k) (AtL.keep k l)
end
theorem key_ne : ([((.inr "a" : Key), V.ref 0)] : List (Key × V)) ≠ [] := fun e => by cases e
mutual
theorem At.one : ∀ {u u' : U} {v : V}, At w C H v u → At w C H v u' → u = u'
  | _, _, _, .non, y => by cases y; rfl
  | _, _, _, .bl b, y => by cases y; rfl
  | _, _, _, .int i, y => by cases y; rfl
  | _, _, _, .str z, y => by cases y; rfl
  | _, _, _, .tup h n l, y => by
    cases y with
    | tup h' _ l' => rw [h] at h'; cases h'; rw [AtL.one l l']
    | lst h' _ _ => rw [h] at h'; cases h'
    | dct h' _ _ _ _ => rw [h] at h'; cases h'
    | exc h' _ _ _ => rw [h] at h'; cases h'
  | _, _, _, .lst h n l, y => by
    cases y with
    | tup h' _ l' => rw [h] at h'; cases h'
    | lst h' _ l' => rw [h] at h'; cases h'; rw [AtL.one l l']
    | dct h' _ _ _ _ => rw [h] at h'; cases h'
    | exc h' _ _ _ => rw [h] at h'; cases h'
  | _, _, _, .dct h n h2 n2 l, y => by
    cases y with
    | tup h' _ l' => rw [h] at h'; cases h'
    | lst h' _ l' => rw [h] at h'; cases h'
    | dct h' _ h2' _ l' =>
      rw [h] at h'
      cases h'
      rw [h2] at h2'
      cases h2'
      rw [AtL.one l l']
    | exc h' _ _ _ => rw [h] at h'; cases h'
  | _, _, _, .exc h n _ _, y => by
    cases y with
    | tup h' _ l' => rw [h] at h'; cases h'
    | lst h' _ l' => rw [h] at h'; cases h'
    | dct h' _ _ _ _ => rw [h] at h'; cases h'
    | exc h' _ _ _ => rfl
theorem AtL.one : ∀ {us us' : List U} {vs : List V}, AtL w C H vs us → AtL w C H vs us' → us = us'
  | _, _, _, .nil, y => by cases y; rfl
  | _, _, _, .cons x l, y => by
    cases y with
    | cons x' l' => rw [At.one x x', AtL.one l l']
end
theorem AtL.length : ∀ {us : List U} {vs : List V}, AtL w C H vs us → vs.length = us.length
  | _, _, .nil => rfl
  | _, _, .cons x l => by rw [List.length_cons, List.length_cons, AtL.length l]
theorem AtL.get : ∀ {us : List U} {vs : List V} {i : Nat} {u : U}, AtL w C H vs us → us[i]? = some u → ∃ v, vs[i]? = some v ∧ At w C H v u
  | _, _, _, _, .nil, e => by simp at e
  | _, _, 0, _, .cons x l, e => by
    have := Option.some.inj e
    subst this
    exact ⟨_, rfl, x⟩
  | _, _, i + 1, _, .cons x l, e => AtL.get (i := i) l e
theorem AtL.append : ∀ {us us' : List U} {vs vs' : List V}, AtL w C H vs us → AtL w C H vs' us' → AtL w C H (vs ++ vs') (us ++ us')
  | _, _, _, _, .nil, y => y
  | _, _, _, _, .cons x l, y => .cons x (AtL.append l y)
theorem AtL.take : ∀ {us : List U} {vs : List V} (n : Nat), AtL w C H vs us → AtL w C H (vs.take n) (us.take n)
  | _, _, 0, _ => .nil
  | _, _, _ + 1, .nil => .nil
  | _, _, n + 1, .cons x l => .cons x (AtL.take n l)
theorem AtL.drop : ∀ {us : List U} {vs : List V} (n : Nat), AtL w C H vs us → AtL w C H (vs.drop n) (us.drop n)
  | _, _, 0, l => l
  | _, _, _ + 1, .nil => .nil
  | _, _, n + 1, .cons x l => AtL.drop n l
end
/-! ### its repr -/
mutual
def shown (nm : Str) : U → Str
  | .non => "None"
  | .bl b => if b then "True" else "False"
  | .int i => toString i
  | .str z => reprText z
  | .tup us => tupleText (shownL nm us)
  | .lst us => listText (shownL nm us)
  | .dct us => dictText [reprText "a" ++ ": " ++ listText (shownL nm us), (toString (1 : Int) : Str) ++ ": " ++ "None"]
  | .exc => nm ++ "()"
def shownL (nm : Str) : List U → List Str
  | [] => []
  | u :: us => shown nm u :: shownL nm us
end
mutual
def dep : U → Nat
  | .tup us | .lst us => depL us + 1
  | .dct us => depL us + 2
  | .exc => 3
  | _ => 0
def depL : List U → Nat
  | [] => 0
  | u :: us => max (dep u) (depL us)
end
mutual
/-- all its integers are small -/
def smallU : U → Prop
  | .int i => i.natAbs.log2 < 1920
  | .tup us | .lst us | .dct us => smallL us
  | _ => True
def smallL : List U → Prop
  | [] => True
  | u :: us => smallU u ∧ smallL us
end
end Hu
namespace Hu
open PySem PySem.Spec PyProof.Rows L2
section
variable {P : Program} {wd : World} {K : PySem.W.Frag} {w C : Addr} {H : Hp} {h₀ : Heap} {nm : Str}
/-- an empty tuple -/
def Emp (h : Heap) (b : Addr) : Prop := ∃ o m, h.get? b = some o ∧ o.cls = .type "tuple" ∧ o.data = .seq #[] m
def Inn (w C : Addr) (H : Hp) (h : Heap) (n : Nat) (bs : List Addr) : Prop := ∀ b ∈ bs, (∃ u, At w C H (.ref b) u ∧ dep u ≤ n) ∨ Emp h b
theorem Inn.mono {n m : Nat} {bs : List Addr} (x : Inn w C H h₀ n bs) (l : n ≤ m) : Inn w C H h₀ m bs := fun b hb => by
  rcases x b hb with ⟨u, a, d⟩ | e
  · exact .inl ⟨u, a, Nat.le_trans d l⟩
  · exact .inr e
theorem Inn.append {n : Nat} {bs cs : List Addr} (x : Inn w C H h₀ n bs) (y : Inn w C H h₀ n cs) : Inn w C H h₀ n (bs ++ cs) := fun b hb =>
  (List.mem_append.mp hb).elim (x b) (y b)
theorem Inn.not_mem {n : Nat} {bs : List Addr} {a : Addr} {u : U} (x : Inn w C H h₀ n bs) (y : At w C H (.ref a) u) (l : n < dep u) (e : ¬ Emp h₀ a) : a ∉ bs := fun hm => by
  rcases x a hm with ⟨u', y', l'⟩ | q
  · have := y.one y'
    subst this
    omega
  · exact e q
theorem Inn.cons {n : Nat} {bs : List Addr} {a : Addr} {u : U} (x : Inn w C H h₀ n bs) (y : At w C H (.ref a) u) (l : n ≤ dep u) : Inn w C H h₀ (dep u) (a :: bs) := fun b hb => by
  rcases List.mem_cons.mp hb with e | hb
  · subst e
    exact .inl ⟨u, y, Nat.le_refl _⟩
  · exact (x.mono l) b hb
theorem shownL_mem {us : List U} {t : Str} (h : t ∈ shownL nm us) : ∃ u ∈ us, t = shown nm u := by
  induction us with
  | nil => simp [shownL] at h
  | cons u us ih =>
    rw [shownL] at h
    rcases List.mem_cons.mp h with e | h
    · exact ⟨u, List.mem_cons_self, e⟩
    · obtain ⟨x, hx, e⟩ := ih h
      exact ⟨x, List.mem_cons_of_mem _ hx, e⟩
/-- the repr of a list of items within a list object at b -/
theorem list_reprs {b : Addr} {xs : List V} {its : List Value} {us : List U} {bs : List Addr} {n d : Nat} (hb : h₀.get? b = some { cls := .type "list", data := .seq its.toArray n }) (hna : b ∉ bs)
    (hk : ReprAllK P wd bs h₀ d its (shownL nm us)) : ReprK P wd (b :: bs) h₀ (d + 1) (.ref b) (listText (shownL nm us)) := by
  cases its with
  | nil =>
    cases us with
    | nil =>
      show ReprK P wd (b :: bs) h₀ (d + 1) (.ref b) (listText [])
      rw [listText_nil]
      exact ReprK.listEmpty hb rfl rfl
    | cons u us => rw [shownL] at hk; cases hk
  | cons x l => exact ReprK.list hb rfl rfl hna (by simpa using hk.length_eq) (fun i y e => hk.item i y (by simpa using e))
theorem rep_tup (ok : HOk P wd H h₀) {a : Addr} {xs : List V} {us : List U} (h : H a = some (.tup xs)) (n : a ≠ w) (l : AtL w C H xs us)
    (rec : ∀ its, Vals xs its → ∃ bs, Inn w C H h₀ (depL us) bs ∧ ReprAllK P wd bs h₀ (depL us) its (shownL nm us)) :
    ∃ bs, Inn w C H h₀ (dep (.tup us)) bs ∧ ReprK P wd bs h₀ (dep (.tup us)) (.ref a) (shown nm (.tup us)) := by
  obtain ⟨_, its, rv, o, h1, h2, m, h3⟩ := ok a _ h
  obtain ⟨bs, hb, hk⟩ := rec its rv
  have y : At w C H (.ref a) (.tup us) := .tup h n l
  have hd : depL us < dep (.tup us) := by simp only [dep]; omega
  by_cases e : its = []
  · subst e
    have hl := rv.length
    have hu := AtL.length l
    have ex : us = [] := List.length_eq_zero_iff.mp (by rw [← hu, hl]; rfl)
    subst ex
    refine ⟨[a], fun b hb => .inl ⟨_, by rw [List.mem_singleton.mp hb]; exact y, Nat.le_refl _⟩, ?_⟩
    simp only [shown, dep]
    exact ReprK.tuple (as := []) h1 h2 h3 (by simp) (by rw [shownL]; exact .nil)
  · have hna : a ∉ bs := hb.not_mem y hd fun ⟨o', m', q1, q2, q3⟩ => by
      rw [h1] at q1
      cases q1
      rw [h3] at q3
      injection q3 with q3 _
      exact e (by simpa using congrArg Array.toList q3)
    refine ⟨a :: bs, hb.cons y (Nat.le_of_lt hd), ?_⟩
    simp only [shown, dep]
    exact ReprK.tuple h1 h2 h3 hna (by simpa using hk)
theorem rep_lst (ok : HOk P wd H h₀) {a : Addr} {xs : List V} {us : List U} (h : H a = some (.lst xs)) (n : a ≠ w) (l : AtL w C H xs us)
    (rec : ∀ its, Vals xs its → ∃ bs, Inn w C H h₀ (depL us) bs ∧ ReprAllK P wd bs h₀ (depL us) its (shownL nm us)) :
    ∃ bs, Inn w C H h₀ (dep (.lst us)) bs ∧ ReprK P wd bs h₀ (dep (.lst us)) (.ref a) (shown nm (.lst us)) := by
  obtain ⟨_, its, m, rv, h1⟩ := ok a _ h
  obtain ⟨bs, hb, hk⟩ := rec its rv
  have y : At w C H (.ref a) (.lst us) := .lst h n l
  have hd : depL us < dep (.lst us) := by simp only [dep]; omega
  have hna : a ∉ bs := hb.not_mem y hd fun ⟨o', m', q1, q2, q3⟩ => by
    rw [h1] at q1
    cases q1
    simp at q2
  refine ⟨a :: bs, hb.cons y (Nat.le_of_lt hd), ?_⟩
  simp only [shown, dep]
  exact list_reprs (xs := []) h1 hna hk
theorem pairs2 {el : List DictEntry} {k1 k2 : Key} {x1 x2 : Value} (g : Pairs (mixKind P wd) el [(k1, x1), (k2, x2)]) : ∃ e1 e2 : DictEntry, el = [e1, e2] ∧ keyIs k1 e1.key = true ∧ e1.val = x1 ∧ keyIs k2 e2.key = true ∧ e2.val = x2 := by
  cases g with
  | cons a1 b1 g =>
    cases g with
    | cons a2 b2 g =>
      cases g
      exact ⟨_, _, rfl, a1, b1, a2, b2⟩
theorem kv2 {k1 k2 : Key} {v1 v2 : V} {vs : List (Key × Value)} (kv : KV [(k1, v1), (k2, v2)] vs) : ∃ x1 x2, vs = [(k1, x1), (k2, x2)] ∧ RelV v1 x1 ∧ RelV v2 x2 := by
  cases kv with
  | @cons _ q1 _ _ r1 kv =>
    cases kv with
    | @cons _ q2 _ _ r2 kv =>
      cases kv
      obtain ⟨a1, b1⟩ := q1
      obtain ⟨a2, b2⟩ := q2
      obtain ⟨e1, r1⟩ := r1
      obtain ⟨e2, r2⟩ := r2
      cases e1
      cases e2
      exact ⟨_, _, rfl, r1, r2⟩
theorem dct_parts (ok : HOk P wd H h₀) {a b : Addr} {xs : List V} {us : List U} (h : H a = some (.dK [(.inr "a", .ref b), (.inl 1, .non)])) (n : a ≠ w) (h2 : H b = some (.lst xs)) (n2 : b ≠ w) (l : AtL w C H xs us)
    (rec : ∀ its, Vals xs its → ∃ bs, Inn w C H h₀ (depL us) bs ∧ ReprAllK P wd bs h₀ (depL us) its (shownL nm us)) :
    ∃ bs o es ep, Inn w C H h₀ (depL us + 1) bs ∧ a ∉ bs ∧ h₀.get? a = some o ∧ o.cls = .type "dict" ∧ o.data = .dict es ep ∧ (a == sysModules) = false ∧
      ReprEntriesK P wd bs h₀ (depL us + 1) es.toList [reprText "a" ++ ": " ++ listText (shownL nm us), (toString (1 : Int) : Str) ++ ": " ++ "None"] := by
  obtain ⟨bs, hB, kb⟩ := rep_lst ok h2 n2 l rec
  have y : At w C H (.ref a) (.dct us) := .dct h n h2 n2 l
  have hda : dep (.lst us) < dep (.dct us) := by simp only [dep]; omega
  obtain ⟨_, hsys, vs, kv, o, es, ep, g1, g2, g3, _, g4, _⟩ := ok a _ h
  have hna : a ∉ bs := hB.not_mem y hda fun ⟨o', m', q1, q2, q3⟩ => by
    rw [g1] at q1
    cases q1
    rw [g3] at q3
    cases q3
  obtain ⟨x1, x2, rfl, r1, r2⟩ := kv2 kv
  cases r1
  cases r2
  obtain ⟨e1, e2, ee, a1, b1, a2, b2⟩ := pairs2 g4
  simp only [shown, dep] at kb hB
  refine ⟨bs, o, es, ep, hB, hna, g1, g2.1, g3, hsys, ?_⟩
  rw [ee]
  rcases keyIs_shape a1 with ⟨i, t, q, _⟩ | ⟨z, t, q, ek⟩
  · cases q
  · cases q
    rcases keyIs_shape a2 with ⟨i, t', q, ek2⟩ | ⟨z, t', q, _⟩
    · cases q
      refine .cons ?_ ?_ (.cons ?_ ?_ .nil)
      · rw [ek]
        exact .of_is (ReprIs.str _ t (by rw [sizeLine_eq]; decide +kernel)) _ _ _
      · rw [b1]
        exact kb
      · rw [ek2]
        exact .of_is (ReprIs.int t' (by decide)) _ _ _
      · rw [b2]
        exact .of_is ReprIs.none _ _ _
    · cases q
theorem rep_dct (ok : HOk P wd H h₀) {a b : Addr} {xs : List V} {us : List U} (h : H a = some (.dK [(.inr "a", .ref b), (.inl 1, .non)])) (n : a ≠ w) (h2 : H b = some (.lst xs)) (n2 : b ≠ w) (l : AtL w C H xs us)
    (rec : ∀ its, Vals xs its → ∃ bs, Inn w C H h₀ (depL us) bs ∧ ReprAllK P wd bs h₀ (depL us) its (shownL nm us)) :
    ∃ bs, Inn w C H h₀ (dep (.dct us)) bs ∧ ReprK P wd bs h₀ (dep (.dct us)) (.ref a) (shown nm (.dct us)) := by
  obtain ⟨bs, o, es, ep, hB, hna, g1, g2, g3, hsys, hE⟩ := dct_parts ok h n h2 n2 l rec
  refine ⟨a :: bs, hB.cons (.dct h n h2 n2 l) (by simp only [dep]; omega), ?_⟩
  simp only [shown, dep]
  exact ReprK.dict (d := depL us + 1) g1 g2 g3 hsys hna hE
theorem exc_at (ok : HOk P wd H h₀) {a t : Addr} (h : H a = some (ExN C t a)) (h2 : H t = some (.tup [])) : HxExc C a t h₀ := by
  obtain ⟨⟨o, vs, q1, q2, q3, q4, q5⟩, _, _⟩ := ok a _ h
  obtain ⟨_, its, rv, o', g1, g2, m, g3⟩ := ok t _ h2
  cases rv
  exact ⟨⟨o, vs, q1, q2, q3, q4, q5⟩, o', m, g1, g2, g3⟩
theorem rep_exc (ok : HOk P wd H h₀) (X : K.In h₀) (R : HxRepr K C nm) {a t : Addr} (h : H a = some (ExN C t a)) (n : a ≠ w) (h2 : H t = some (.tup [])) (n2 : t ≠ w) : ∃ bs, Inn w C H h₀ (dep .exc) bs ∧ ReprK P wd bs h₀ (dep .exc) (.ref a) (shown nm .exc) := by
  have hx := exc_at ok h h2
  refine ⟨[a, t], fun b hb => ?_, ?_⟩
  · rcases List.mem_cons.mp hb with e | hb
    · subst e
      exact .inl ⟨.exc, .exc h n h2 n2, Nat.le_refl _⟩
    · rw [List.mem_singleton.mp hb]
      obtain ⟨_, o, m, q1, q2, q3⟩ := hx
      exact .inr ⟨o, m, q1, q2, q3⟩
  · simp only [shown, dep]
    exact hx_repr X hx R (fun _ h => nomatch h)
theorem rep_cons {u : U} {us : List U} {x : Value} {xs : List Value} (h1 : ∃ bs, Inn w C H h₀ (dep u) bs ∧ ReprK P wd bs h₀ (dep u) x (shown nm u)) (h2 : ∃ bs, Inn w C H h₀ (depL us) bs ∧ ReprAllK P wd bs h₀ (depL us) xs (shownL nm us)) :
    ∃ bs, Inn w C H h₀ (depL (u :: us)) bs ∧ ReprAllK P wd bs h₀ (depL (u :: us)) (x :: xs) (shownL nm (u :: us)) := by
  obtain ⟨b1, i1, k1⟩ := h1
  obtain ⟨b2, i2, k2⟩ := h2
  refine ⟨b1 ++ b2, ?_, ?_⟩
  · simp only [depL]
    exact (i1.mono (Nat.le_max_left _ _)).append (i2.mono (Nat.le_max_right _ _))
  · simp only [depL, shownL]
    exact .cons ((k1.more fun b hb => List.mem_append_left _ hb).level_le (Nat.le_max_left _ _)) (k2.more_le (fun b hb => List.mem_append_right _ hb) (Nat.le_max_right _ _))
theorem small_dct {us : List U} (hz : (shown nm (.dct us)).length ≤ sizeLine) : ∀ t ∈ shownL nm us, t.length ≤ sizeLine := fun t ht => by
  simp only [shown] at hz
  have hz1 := dictText_mem_le (ps := [reprText "a" ++ ": " ++ listText (shownL nm us), (toString (1 : Int) : Str) ++ ": " ++ "None"]) (List.mem_cons_self)
  rw [strLen_append] at hz1
  have := listText_mem_le ht
  omega
def Rp (P : Program) (wd : World) (w C : Addr) (H : Hp) (h₀ : Heap) (nm : Str) (u : U) : Prop := ∀ (v : V) (x : Value), At w C H v u → RelV v x → smallU u → (shown nm u).length ≤ sizeLine → ∃ bs, Inn w C H h₀ (dep u) bs ∧ ReprK P wd bs h₀ (dep u) x (shown nm u)
theorem list_rp : ∀ (us : List U) (vs : List V) (xs : List Value), (∀ u ∈ us, Rp P wd w C H h₀ nm u) → AtL w C H vs us → Vals vs xs → smallL us → (∀ t ∈ shownL nm us, t.length ≤ sizeLine) →
    ∃ bs, Inn w C H h₀ (depL us) bs ∧ ReprAllK P wd bs h₀ (depL us) xs (shownL nm us)
  | [], _, _, _, l, r, _, _ => by
    cases l
    cases r
    exact ⟨[], (fun _ h => nomatch h), by simp only [shownL]; exact .nil⟩
  | u :: us, _, _, ih, l, r, hs, hz => by
    cases l with
    | cons x l =>
      cases r with
      | cons rx rl =>
        simp only [smallL] at hs
        simp only [shownL] at hz
        exact rep_cons (ih u List.mem_cons_self _ _ x rx hs.1 (hz _ List.mem_cons_self)) (list_rp us _ _ (fun y hy => ih y (List.mem_cons_of_mem _ hy)) l rl hs.2 (fun t ht => hz t (List.mem_cons_of_mem _ ht)))
theorem dep_mem {us : List U} {u : U} (h : u ∈ us) : dep u ≤ depL us := by
  induction us with
  | nil => cases h
  | cons x us ih =>
    simp only [depL]
    rcases List.mem_cons.mp h with e | h
    · subst e
      exact Nat.le_max_left _ _
    · exact Nat.le_trans (ih h) (Nat.le_max_right _ _)
theorem rp_all (ok : HOk P wd H h₀) (X : K.In h₀) (R : HxRepr K C nm) : ∀ (n : Nat) (u : U), dep u ≤ n → Rp P wd w C H h₀ nm u := by
  intro n
  induction n with
  | zero =>
    intro u hd v x h r hs hz
    cases h with
    | non => cases r; exact ⟨[], (fun _ h => nomatch h), by simp only [shown]; exact .of_is ReprIs.none _ _ _⟩
    | bl b => cases r; exact ⟨[], (fun _ h => nomatch h), by simp only [shown]; exact .of_is (ReprIs.bool b) _ _ _⟩
    | int i => obtain ⟨t, rfl⟩ := r; exact ⟨[], (fun _ h => nomatch h), by simp only [shown]; exact .of_is (ReprIs.int t (by simpa only [smallU] using hs)) _ _ _⟩
    | str z => obtain ⟨t, rfl⟩ := r; exact ⟨[], (fun _ h => nomatch h), by simp only [shown]; exact .of_is (ReprIs.str z t (by simpa only [shown] using hz)) _ _ _⟩
    | tup => simp only [dep] at hd; omega
    | lst => simp only [dep] at hd; omega
    | dct => simp only [dep] at hd; omega
    | exc => simp only [dep] at hd; omega
  | succ n ih =>
    intro u hd v x h r hs hz
    cases h with
    | non => cases r; exact ⟨[], (fun _ h => nomatch h), by simp only [shown]; exact .of_is ReprIs.none _ _ _⟩
    | bl b => cases r; exact ⟨[], (fun _ h => nomatch h), by simp only [shown]; exact .of_is (ReprIs.bool b) _ _ _⟩
    | int i => obtain ⟨t, rfl⟩ := r; exact ⟨[], (fun _ h => nomatch h), by simp only [shown]; exact .of_is (ReprIs.int t (by simpa only [smallU] using hs)) _ _ _⟩
    | str z => obtain ⟨t, rfl⟩ := r; exact ⟨[], (fun _ h => nomatch h), by simp only [shown]; exact .of_is (ReprIs.str z t (by simpa only [shown] using hz)) _ _ _⟩
    | @tup a xs us h1 n1 l =>
      cases r
      simp only [dep] at hd
      exact rep_tup ok h1 n1 l fun its rv => list_rp us _ _ (fun y hy => ih y (by have := dep_mem hy; omega)) l rv (by simpa only [smallU] using hs) (fun t ht => Nat.le_trans (tupleText_mem_le ht) (by simpa only [shown] using hz))
    | @lst a xs us h1 n1 l =>
      cases r
      simp only [dep] at hd
      exact rep_lst ok h1 n1 l fun its rv => list_rp us _ _ (fun y hy => ih y (by have := dep_mem hy; omega)) l rv (by simpa only [smallU] using hs) (fun t ht => Nat.le_trans (listText_mem_le ht) (by simpa only [shown] using hz))
    | @dct a b xs us h1 n1 h2 n2 l =>
      cases r
      simp only [dep] at hd
      exact rep_dct ok h1 n1 h2 n2 l fun its rv => list_rp us _ _ (fun y hy => ih y (by have := dep_mem hy; omega)) l rv (by simpa only [smallU] using hs) (small_dct hz)
    | exc h1 n1 h2 n2 =>
      cases r
      exact rep_exc ok X R h1 n1 h2 n2
end
end Hu
/-! a def run where the guards around it are known to be none: for what asks for a repr -/
namespace Gd
open PySem PySem.Spec PyProof.Rows L2
/-- one run of a def's body, at one place -/
theorem run_at {CX : CXT} {P : Program} {wd : World} {F : PySem.W.Frag} {mg : Str → Option Value} {base : Heap} {k : Nat} {fa : Addr} {nm qn : Str} {prm : Arguments} {code : List Stmt} {sc : Scope} {d1 d2 d3 d4 d5 d6 d7 : Value} {an od : Option Addr}
    {slots : Array (Option Value)} {N ps : List Str} (at_f : F.lookup fa = some ⟨d7, od, .func (PySem.W.fnOf nm qn prm code sc d1 d2 d3 d4 an d5 d6), slots⟩) (rec : PySem.W.codeIn F d5 qn = true) (sco : FnScope N ps sc)
    {A : Around} {outer : List Env} {s : Shared} {H : Hp} {args : Args} {us : List Value} {vs : List V} {Q : VK} {E : XK} (room : Room (k + 1) A) (ev : Env0 P wd F mg base A outer s H) (bd : BindsTo s (PySem.W.fnOf nm qn prm code sc d1 d2 d3 d4 an d5 d6) args (ps.zip us))
    (rv : Vals vs us) (len : vs.length = ps.length) (body : Room k (A.deeper (envOfC qn sc s.heap.objs.size fa d5)) → ∃ t, PSs (cxOf CX P wd F mg base N qn sc fa d5 A outer s H E) code t ∧ t { nx := fun _ H' => Q .non H', rt := Q } (start N vs) H) :
    codeAny (model P wd) A (.call (.ref fa) args) (CR CX outer P wd H s Q E) s := by
  obtain ⟨t, body1, body2⟩ := body (room.deeper _)
  have inF : F.In s.heap := ev.mod.kin.keeps fun b o q => And.left (ev.bs b o q)
  have kinds : ∀ y ∈ ps.zip us, sc.names.lookup y.1 = some .local ∨ (sc.names.lookup y.1 = some .cell ∧ ((cellsFrom (s.heap.objs.size + 1) sc.names []).lookup y.1).isSome = true) := by
    rintro ⟨n, v⟩ hy
    rcases sco.par n (And.left (List.of_mem_zip hy)) with z | z
    · exact Or.inl z
    · exact Or.inr ⟨z, PySem.W.cellsFrom_some _ _ _ (Or.inl z)⟩
  refine codeAny_call_function room.depth (inF _ _ at_f) rfl sco.co sco.gen rfl (PySem.W.codeRec_of inF rec) (bd _ _ _ _ (wpAny_newFunctionEnv_cells sco.kind kinds fun env he s1 x => ?_))
  subst he
  have noLimit : s.heap.NoLimit := ev.mod.nolimit.keeps fun b o q => And.left (ev.bs b o q)
  refine ⟨noLimit.keeps x.toInCall.keep, codeAny_func (wpAny_mono (body1.run [] s1 (start N vs) H _ (inv_start sco room.hd ev len rv x) body2) (fun fl s' q => ?_) fun _ _ z => z)⟩
  cases fl with
  | ret u => obtain ⟨v, σ', H', J, r, q⟩ := q; exact ⟨v, H', J.os, J.bare, J.base, J.hok, r, q⟩
  | next => obtain ⟨σ', H', J, q⟩ := q; exact ⟨V.non, H', J.os, J.bare, J.base, J.hok, rfl, q⟩
  | brk => exact (Exists.elim q fun _ q => Exists.elim q fun _ q => q.2).elim
  | cont => exact (Exists.elim q fun _ q => Exists.elim q fun _ q => q.2).elim
/-- the end of a law's call: nothing that stood is changed -/
theorem law_end {P : Program} {wd : World} {s₁ s' : Shared} {H : Hp} {r : Result} (only : ∀ b, H b = none ∨ ∃ o xs, H b = some (.frz o (.lst xs))) (hok : HOk P wd H s₁.heap)
    (h : CR CX0 [] P wd H s₁ (fun v _ => v = .bl true) (fun _ _ _ => False) r s') : r = .ok (.ret (.bool true)) ∧ OldK s₁.heap s'.heap ∧ s'.os = s₁.os ∧ AllBare s'.gens := by
  match r, h with
  | .ok (.ret u), ⟨v, H', os, gens, un, ok2, ru, ev⟩ =>
    have ev : v = V.bl true := ev
    subst ev
    cases (show u = Value.bool true from ru)
    have none_in : ∀ b : Addr, b ∉ ([] : List Addr) := fun b => List.not_mem_nil
    refine ⟨rfl, OldK.of_keep fun b o e => ?_, os, gens⟩
    rcases only b with z | ⟨ob, xs, z⟩
    · exact un.keep b o e z (none_in b) (none_in b)
    · have here := (hok b _ z).1
      have there := (ok2 b _ (un.frzs b ob _ z)).1
      rw [e] at here
      cases here
      exact there
theorem law_at {P : Program} {wd : World} {F : PySem.W.Frag} {mg mb : Str → Option Value} {fa a : Addr} {s₁ : Shared} {vs : List Value} {ns : List Int} (inF : F.In s₁.heap) (main : s₁.heap.Ns mainGlobals mg) (bns : s₁.heap.Ns builtinsNs mb) (boot : ∀ x : Str, x ≠ "__name__" → mb x = bootBuiltins x)
    (lim : s₁.heap.NoLimit) (gens : s₁.gens = #[]) (script : s₁.heap.get? a = some { cls := .type "list", data := .seq vs.toArray }) (areI : IntsAre vs ns) (few : ns.length ≤ sizeLine)
    (go : ∀ (base : Heap) (H : Hp), F.In base → base.Ns mainGlobals mg → Env0 P wd F mg base callerA [] s₁ H → SqL F H a (ns.map V.int) → codeAny (model P wd) callerA (.call (.ref fa) ⟨[.ref a], []⟩) (CR CX0 [] P wd H s₁ (fun v _ => v = .bl true) (fun _ _ _ => False)) s₁) :
    codeAny (model P wd) callerA (.call (.ref fa) ⟨[.ref a], []⟩) (fun r s' => r = .ok (.ret (.bool true)) ∧ OldK s₁.heap s'.heap ∧ s'.os = s₁.os ∧ AllBare s'.gens) s₁ := by
  have rel := vals_ints areI
  have size := areI.length
  have main_case : ∀ H : Hp, (∀ b u, H b = some u → b = a ∧ F.lookup a = none ∧ u = .frz { cls := .type "list", data := .seq vs.toArray } (.lst (ns.map V.int))) → SqL F H a (ns.map V.int) →
      codeAny (model P wd) callerA (.call (.ref fa) ⟨[.ref a], []⟩) (fun r s' => r = .ok (.ret (.bool true)) ∧ OldK s₁.heap s'.heap ∧ s'.os = s₁.os ∧ AllBare s'.gens) s₁ := by
    intro H only sq
    have here : ∀ {b : Addr} {o : Obj}, s₁.heap.get? b = some o → (b = a → F.lookup a = none → False) → (hidT s₁.heap H).get? b = some o := fun {b o} e no => by
      refine hidT_get e ?_
      cases q : H b with
      | none => rfl
      | some u => exact (no (only b u q).1 (only b u q).2.1).elim
    have spaces : ∀ {b : Addr} {m : Str → Option Value}, s₁.heap.Ns b m → (hidT s₁.heap H).Ns b m := fun {b m} z => by
      obtain ⟨o, es, ep, e, d, r⟩ := z
      refine ⟨o, es, ep, here e (fun q _ => ?_), d, r⟩
      rw [q, script] at e
      cases e
      cases d
    have inB : F.In (hidT s₁.heap H) := fun b o e => here (inF b o e) fun q z => by
      rw [q, z] at e
      cases e
    have hok : HOk P wd H s₁.heap := fun b u e => by
      obtain ⟨rfl, _, rfl⟩ := only b u e
      exact ⟨script, by rw [List.length_map]; exact few, vs, _, rel, script⟩
    have env : Env0 P wd F mg (hidT s₁.heap H) callerA [] s₁ H :=
      ⟨rfl, ⟨inB, spaces main, ⟨mb, spaces bns, boot⟩, Exists.elim lim fun m z => ⟨m, spaces z.1, z.2⟩⟩, fun b o e => of_hidT e, Nat.le_of_eq (hidT_size _ _), trivial, fun b z => (List.not_mem_nil (show b ∈ ([] : List Addr) from z)).elim, hok, .of_eq gens⟩
    refine codeAny_mono (go _ H inB (spaces main) env sq) fun r s' z => law_end (fun b => ?_) hok z
    cases q : H b with
    | none => exact .inl rfl
    | some u => exact .inr ⟨_, _, congrArg some (only b u q).2.2⟩
  cases q : F.lookup a with
  | some o =>
    have e := (inF a o q).symm.trans script
    cases e
    exact main_case (fun _ => none) (fun _ _ z => by cases z) (.inr ⟨_, vs.toArray, _, q, rfl, rfl, rfl, by rw [List.size_toArray, size]; exact few, by simpa using rel⟩)
  | none =>
    refine main_case (fun b => if b = a then some (.frz { cls := .type "list", data := .seq vs.toArray } (.lst (ns.map V.int))) else none) (fun b u z => ?_) (.inl (.inr ⟨_, if_pos rfl⟩))
    by_cases e : b = a
    · have z2 := (if_pos e).symm.trans z
      exact ⟨e, q, (Option.some.inj z2).symm⟩
    · have z2 := (if_neg e).symm.trans z
      cases z2
/-- what the head leaves, from the law's run at the caller -/
theorem walk_at {l : PySem.W.OpenLaw} {n : Nat} {q : Program} {loose : List Str} {XP : (Str → Option Value) → Heap → Prop} {YP : World → Heap → Prop} {d : DefRec} {F : Params → PySem.W.Frag} (most : l.most = some n) (line : n ≤ sizeLine) (plain : d.params.defaults = [])
    (inF : ∀ (w : World) (h : Heap), YP w h → (F w.params).In h)
    (go : ∀ (w : World) (mg : Str → Option Value) (fa : Addr) (h : Heap), (F w.params).In h → h.Ns mainGlobals mg → mg d.name = some (.ref fa) →
      ∀ (s : Shared) (a : Addr) (ns : List Int) (base : Heap) (H : Hp), (F w.params).In base → base.Ns mainGlobals mg → Env0 l.prog w (F w.params) mg base callerA [] s H → SqL (F w.params) H a (ns.map V.int) →
        codeAny (model l.prog w) callerA (.call (.ref fa) ⟨[.ref a], []⟩) (CR CX0 [] l.prog w H s (fun v _ => v = .bl true) (fun _ _ _ => False)) s) :
    PySem.W.WalkO q loose XP YP l.row.toRowW d [] (fun f vs => PySem.call f vs) :=
  Att.attach_call most plain fun w s₀ s₁ mg mb fa o pm cd doc a vs ns G Y ho hd hcd hmg obj areI len gens =>
    law_at (inF w _ Y) G.T.g G.T.b G.T.builtins G.T.nolimit gens obj areI (Nat.le_trans len line) fun base H => go w mg fa _ (inF w _ Y) G.T.g hmg s₁ a ns base H
end Gd
namespace Hu
open PySem PySem.Spec PyProof.Rows L2
section
variable {X : Cx} {w C : Addr} {nm : Str}
/-- repr(x), any value of the law's, where nothing is shown around -/
theorem call_reprU {k : Nat} (room : Room k X.A) (bare : X.A.guards = some []) (R : HxRepr X.K C nm) :
    CallR X (.builtin "repr") (fun xs H Q => ∃ (v : V) (u : U) (w : Addr), xs = [v] ∧ At w C H v u ∧ smallU u ∧ dep u ≤ 60 ∧ (shown nm u).length ≤ sizeLine ∧ Q (.str (shown nm u)) H) := by
  intro pins s σ H xs us Q I r h
  obtain ⟨v, u, w, rfl, hat, hs, hd, hz, q⟩ := h
  obtain ⟨x, rfl, rx⟩ := vals1 r
  have hu := room.units
  have ok := I.hok
  have X0 := I.kIn
  have fin : ∀ (h' : Heap) (t : Tok) (tk : Nat), (∀ b o, s.heap.get? b = some o → h'.get? b = some o) → EP X pins σ Q (.str (shown nm u) t) { s with heap := h', toks := tk } := fun h' t tk kp =>
    ⟨.str (shown nm u), H, I.un (Un.kept kp) (I.hok.kept kp), ⟨t, rfl⟩, q⟩
  have rp : ∀ (us : List U) (vs : List V) (its : List Value), depL us ≤ 60 → AtL w C H vs us → Vals vs its → smallL us → (∀ t ∈ shownL nm us, t.length ≤ sizeLine) → ∃ bs, Inn w C H s.heap (depL us) bs ∧ ReprAllK X.prog X.w bs s.heap (depL us) its (shownL nm us) :=
    fun us vs its hd l rv hs hz => list_rp us vs its (fun y hy => rp_all ok X0 R 60 y (Nat.le_trans (dep_mem hy) hd)) l rv hs hz
  cases hat with
  | non =>
    cases rx
    simp only [shown] at fin
    exact PySem.P.repr_of_none (fin s.heap _ _ fun _ _ e => e)
  | bl b =>
    cases rx
    simp only [shown] at fin
    exact PySem.P.repr_of_bool (fin s.heap _ _ fun _ _ e => e)
  | int i =>
    obtain ⟨t, rfl⟩ := rx
    simp only [shown] at fin
    exact PySem.P.repr_of_int (by simpa only [smallU] using hs) (fin s.heap _ _ fun _ _ e => e)
  | str z =>
    obtain ⟨t, rfl⟩ := rx
    simp only [shown] at fin hz
    exact PySem.P.repr_of_str (fin s.heap _ _ fun _ _ e => e) hz
  | @tup a xs us h1 n1 l =>
    cases rx
    simp only [dep] at hd
    have hz' : (tupleText (shownL nm us)).length ≤ sizeLine := by simpa only [shown] using hz
    obtain ⟨_, its, rv, o, g1, g2, m, g3⟩ := ok a _ h1
    obtain ⟨bs, hb, hk⟩ := rp us xs its (by omega) l rv (by simpa only [smallU] using hs) (fun t ht => Nat.le_trans (tupleText_mem_le ht) hz')
    have hna : ∃ bs, a ∉ bs ∧ ReprAllK X.prog X.w bs s.heap (depL us) its (shownL nm us) := by
      by_cases e : its = []
      · subst e
        have hl := rv.length
        have ex : us = [] := List.length_eq_zero_iff.mp (by rw [← AtL.length l, hl]; rfl)
        subst ex
        exact ⟨[], by simp, by rw [shownL]; exact .nil⟩
      · refine ⟨bs, hb.not_mem (.tup h1 n1 l) (by simp only [dep]; omega) fun ⟨o', m', q1, q2, q3⟩ => ?_, hk⟩
        rw [g1] at q1
        cases q1
        rw [g3] at q3
        injection q3 with q3 _
        exact e (by simpa using congrArg Array.toList q3)
    obtain ⟨bs, hna, hk⟩ := hna
    simp only [shown] at fin
    exact call_repr_slot (by omega) ⟨o, g1, g2⟩ F.slot_tuple_repr (call_tuple_reprK g1 g2 g3 hna (by simpa using hk) (A := X.A.in1) bare (fun b _ => Clear.nil b) (by show X.A.units + 1 + _ < _; omega) (fun _ _ e => e) (fun h' u tk kp => ⟨_, _, rfl, fin h' u tk kp⟩) hz')
  | @lst a xs us h1 n1 l =>
    cases rx
    simp only [dep] at hd
    have hz' : (listText (shownL nm us)).length ≤ sizeLine := by simpa only [shown] using hz
    obtain ⟨_, its, m, rv, g1⟩ := ok a _ h1
    obtain ⟨bs, hb, hk⟩ := rp us xs its (by omega) l rv (by simpa only [smallU] using hs) (fun t ht => Nat.le_trans (listText_mem_le ht) hz')
    have hna : a ∉ bs := hb.not_mem (.lst h1 n1 l) (by simp only [dep]; omega) fun ⟨o', m', q1, q2, q3⟩ => by
      rw [g1] at q1
      cases q1
      simp at q2
    simp only [shown] at fin
    refine call_repr_slot (by omega) ⟨_, g1, rfl⟩ F.slot_list_repr.toG ?_
    cases its with
    | nil =>
      cases us with
      | nil =>
        simp only [shownL, listText_nil] at fin
        exact call_list_repr_empty ⟨_, g1, rfl⟩ g1 rfl ⟨_, _, rfl, fin s.heap _ _ fun _ _ e => e⟩
      | cons u us => rw [shownL] at hk; cases hk
    | cons y l2 =>
      exact call_list_reprK (A := X.A.in1) g1 rfl rfl hna (by simpa using hk.length_eq) (fun i y e => hk.item i y (by simpa using e)) bare (fun b _ => Clear.nil b) (by show X.A.units + 1 + _ < _; omega) (fun _ _ e => e) (fun h' u tk kp => ⟨_, _, rfl, fin h' u tk kp⟩) hz'
  | @dct a b xs us h1 n1 h2 n2 l =>
    cases rx
    simp only [dep] at hd
    have hz' : (dictText [reprText "a" ++ ": " ++ listText (shownL nm us), (toString (1 : Int) : Str) ++ ": " ++ "None"]).length ≤ sizeLine := by simpa only [shown] using hz
    obtain ⟨bs, o, es, ep, hB, hna, g1, g2, g3, hsys, hE⟩ := dct_parts ok h1 n1 h2 n2 l fun its rv => rp us xs its (by omega) l rv (by simpa only [smallU] using hs) (small_dct hz)
    simp only [shown] at fin
    exact call_repr_slot (by omega) ⟨o, g1, g2⟩ F.slot_dict_repr (call_dict_reprK (A := X.A.in1) g1 g2 g3 hsys hna hE bare (fun b _ => Clear.nil b) (by show X.A.units + 1 + _ < _; omega) (fun _ _ e => e) (fun h' u tk kp => ⟨_, _, rfl, fin h' u tk kp⟩) hz')
  | exc h1 n1 h2 n2 =>
    cases rx
    have hx := exc_at ok h1 h2
    simp only [shown] at fin hz
    exact hx_reprTop X0 hx R hz bare (by omega) fin
end
end Hu
/-! isinstance of any value of the law's, and the error that it may be -/
namespace Hu
open PySem PySem.Spec PyProof.Rows L2
/-- the class of the errors among the values: how isinstance asks them, what repr tells -/
structure Xc (K : PySem.W.Frag) (mg : Str → Option Value) (x : Str) (C : Addr) (nm : Str) : Prop where
  g : mg x = some (.ref C)
  x : PySem.W.excIn K C [.type "ValueError", .type "Exception", .type "BaseException", .type "object"] "ValueError.__new__" = true
  k : PySem.W.keepIn K (.ref C) = true
  c : L2.ExcC K C
  r : HxRepr K C nm
  ki : PySem.W.kitOne K (.ref C) (.type "int") = some false
  kb : PySem.W.kitOne K (.ref C) (.type "bool") = some false
  ks : PySem.W.kitOne K (.ref C) (.type "str") = some false
  kt : PySem.W.kitOne K (.ref C) (.type "tuple") = some false
def tyU : U → String
  | .non => "NoneType"
  | .bl _ => "bool"
  | .int _ => "int"
  | .str _ => "str"
  | .tup _ => "tuple"
  | .lst _ => "list"
  | .dct _ => "dict"
  | .exc => "?"
def isS (S T : String) : Bool := S == T || (S == "bool" && T == "int")
/-- isinstance(u, T), T one of int, bool, str, tuple -/
def isT (u : U) (T : String) : Bool := isS (tyU u) T
theorem kit_is {S T : String} (hS : S ∈ ["NoneType", "bool", "int", "str", "tuple", "list", "dict"]) (hT : T ∈ ["int", "bool", "str", "tuple"]) : kitB S T = some (isS S T) := by
  have : (["NoneType", "bool", "int", "str", "tuple", "list", "dict"].all fun S => ["int", "bool", "str", "tuple"].all fun T => decide (kitB S T = some (isS S T))) = true := by decide +kernel
  exact of_decide_eq_true (List.all_eq_true.mp (List.all_eq_true.mp this S hS) T hT)
theorem ExN.inst {P : Program} {wd : World} {H : Hp} {h : Heap} {C a t : Addr} (ok : HOk P wd H h) (e : H a = some (ExN C t a)) : ∃ o, PySem.W.InstAt h a o C none := by
  obtain ⟨⟨o, vs, h1, h2, h3, _, h5⟩, _, _⟩ := ok a _ e
  refine ⟨o, ?_⟩
  obtain ⟨oc, od, oda, osl⟩ := o
  dsimp only at h2 h3 h5
  subst h2 h3 h5
  exact ⟨h1, rfl, rfl, trivial⟩
section
variable {X : Cx} {w C : Addr} {nm x : Str}
/-- isinstance(v, T) -/
theorem call_isiU (T : String) (E : Xc X.K X.mg x C nm) (hT : T ∈ ["int", "bool", "str", "tuple"]) :
    CallR X (.builtin "isinstance") (fun xs H Q => ∃ (v : V) (u : U) (w : Addr), xs = [v, .ty T] ∧ At w C H v u ∧ Q (.bl (isT u T)) H) := by
  intro pins s σ H xs us Q I r h
  obtain ⟨v, u, w, rfl, hat, q⟩ := h
  have plain : ∀ S, TyX X.K H v (.type S) → kitB S T = some (isT u T) → wpAny (model X.prog X.w) X.A (call (.builtin "isinstance") us) (EP X pins σ Q) X.xe s := fun S ty kb =>
    call_isi pins s σ H _ us Q I r ⟨v, .ty T, .type S, .type T, isT u T, rfl, .ty T, ty, kit_ty kb, q⟩
  cases hat with
  | non => exact plain _ (.base .non) (kit_is (by simp) hT)
  | bl b => exact plain _ (.base (.bl b)) (kit_is (by simp) hT)
  | int i => exact plain _ (.base (.int i)) (kit_is (by simp) hT)
  | str z => exact plain _ (.base (.str z)) (kit_is (by simp) hT)
  | tup h _ _ => exact plain _ (.base (.tup h)) (kit_is (by simp) hT)
  | lst h _ _ => exact plain _ (.base (.lst h)) (kit_is (by simp) hT)
  | dct h _ _ _ _ => exact plain _ (.base (.dK h)) (kit_is (by simp) hT)
  | exc h n _ _ =>
    obtain ⟨u1, u2, rfl, r1, r2⟩ := vals2 r
    cases r1
    cases r2
    obtain ⟨o, J⟩ := ExN.inst I.hok h
    have c := E.c
    have e : PySem.W.kitOne X.K (.ref C) (.type T) = some false ∧ isT .exc T = false := by
      simp only [List.mem_cons, List.not_mem_nil, or_false] at hT
      rcases hT with rfl | rfl | rfl | rfl
      · exact ⟨E.ki, by decide +kernel⟩
      · exact ⟨E.kb, by decide +kernel⟩
      · exact ⟨E.ks, by decide +kernel⟩
      · exact ⟨E.kt, by decide +kernel⟩
    rw [e.2] at q
    exact PySem.W.kia_one (PySem.W.handS_kitx_exc c.hg c.hk c.hs c.hd c.ha c.hn c.ht c.hm) I.kIn J e.1 (fun z => nomatch z) fun tk => ⟨.bl false, H, I.tok tk, rfl, q⟩
/-- an error as a value: X() -/
theorem pe_exc0 {y : Str} {p pos : Pos} (E : Xc X.K X.mg y C nm) (hg : Gl X y) (hdb : (y == ("__debug__" : Str)) = false := by decide) :
    PE X (.Call (.Name y p) [] [] pos) (fun σ H Q => ∀ a t, H a = none → H t = none → a ≠ t → Q (.ref a) (upd (upd H t (.tup [])) a (ExN C t a))) := by
  refine ⟨fun pins s σ H Q I h => ?_⟩
  refine wpAny_Call_Name_kw (ld_glob I hg E.g ?_ hdb)
  refine PySem.W.callWith_K0 I.kIn E.k ?_
  show wpAny _ _ (call (.ref C) []) _ _ _
  obtain ⟨bm, N, nm, qn, bs, hdct, sn, sub, ab, col, dd, k0, k1, k2, k3, k5, mN, hC, hN, hni, T⟩ := exc_obj I.kIn E.x
  refine wpAny_call_exc_subT PySem.F.excBase_ValueError T hC hN hni (fun h' a hm => ?_) (Nat.zero_le _)
  have hn : H a = none := I.hok.gone hm.new
  obtain ⟨t, ht, htn, htt⟩ := hm.there
  have hn2 : H t = none := I.hok.gone htn
  have nat : a ≠ t := fun e => by
    rw [e, htt] at ht
    cases ht
  have na : upd H t (.tup []) a = none := by
    rw [upd_ne nat]
    exact hn
  have ok1 : HOk X.prog X.w (upd H t (.tup [])) h' := I.hok.laidN hm.keeps hn2 ⟨Nat.zero_le _, [], .nil, _, htt, rfl, _, rfl⟩
  have ok2 : HOk X.prog X.w (upd (upd H t (.tup [])) a (ExN C t a)) h' := ok1.laidN (fun _ _ q => q) na ⟨⟨_, _, ht, rfl, rfl, rfl, rfl⟩, ⟨_, ht⟩, fun _ _ ⟨o, vs, q, r⟩ k => ⟨o, vs, k o q, r⟩⟩
  have same : ∀ b o, H b = some o → upd (upd H t (.tup [])) a (ExN C t a) b = some o := fun b o q => by
    rw [upd_ne (ne_of_none q hn), upd_ne (ne_of_none q hn2)]
    exact q
  have I2 : Inv X pins σ (upd (upd H t (.tup [])) a (ExN C t a)) { s with heap := h' } := I.un (t' := s.toks)
    { keep := fun b u q _ _ _ => hm.keeps b u q
      slot := fun b u q _ _ _ => ⟨u.slots, hm.keeps b u q⟩
      free := fun b u q n _ => by
        rw [upd_ne (fun e => by rw [e, hm.new] at q; cases q), upd_ne (fun e => by rw [e, htn] at q; cases q)]
        exact n
      there := fun b u q _ => ⟨u, hm.keeps b u q⟩
      tups := fun b xs q => same b _ q
      frzs := fun b o u q => same b _ q
      tbls := fun b ps q => ⟨#[], by rw [same b _ q]; simp⟩ } ok2
  exact ⟨.ref a, _, I2, rfl, h a t hn hn2 nat⟩
end
end Hu
namespace Ht
open PySem PySem.Spec PyProof.Rows L2
def topS (i : Nat) : Stmt := PySem.Challenge.pw_homeshold_k34_disks_refused.main.body.getD i (.Pass ⟨0, 0, 0, 0⟩)
abbrev sHand : Stmt := topS 50
abbrev sDraw : Stmt := topS 51
/-! ### heaps -/
/-- all that was tracked stands as it was, but for what stands at w -/
def Keep (w : Addr) (H H' : Hp) : Prop := ∀ b o, b ≠ w → H b = some o → H' b = some o
theorem Keep.refl (w : Addr) (H : Hp) : Keep w H H := fun _ _ _ h => h
theorem Keep.trans {w : Addr} {H H1 H2 : Hp} (a : Keep w H H1) (b : Keep w H1 H2) : Keep w H H2 := fun c o n h => b c o n (a c o n h)
theorem Keep.of_same {w : Addr} {H H' : Hp} (s : Same H H') : Keep w H H' := fun b o _ h => s b o h
theorem Keep.updw {w : Addr} {H : Hp} {o : HO} : Keep w H (upd H w o) := fun b u n h => by
  rw [upd_ne n]
  exact h
theorem same_upd {H : Hp} {p : Addr} {o : HO} (h : H p = none) : Same H (upd H p o) := fun b x e => by
  rw [upd_ne (ne_of_none e h)]
  exact e
theorem Keep.new {w : Addr} {H : Hp} {p : Addr} {o : HO} (h : H p = none) : Keep w H (upd H p o) := .of_same (same_upd h)
/-- where a well stands: w the well, c its cells -/
structure WA where
  (w c : Addr)
/-- a hand: a list of the cells, how many were taken, what is left of a cell, the mix, the count -/
structure Well (H : Hp) (a : WA) : Prop where
  ex : ∃ (cells : List Int) (pos : Nat) (rest mix cnt : Int), H a.w = some (.lst [.ref a.c, .int (pos : Int), .int rest, .int mix, .int cnt]) ∧ H a.c = some (.lst (cells.map V.int)) ∧ a.c ≠ a.w ∧ (cells.length ≤ 63 ∧ (∀ c ∈ cells, 0 ≤ c) ∧ 0 ≤ rest)
/-- what a draw leaves -/
structure Drawn (a : WA) (H H' : Hp) : Prop where
  keep : Keep a.w H H'
  well : Well H' a
variable {a : WA} {H H' H1 H2 : Hp} {p : Addr} {o : HO}
theorem Drawn.refl (h : Well H a) : Drawn a H H := ⟨.refl _ _, h⟩
theorem Drawn.trans (x : Drawn a H H1) (y : Drawn a H1 H2) : Drawn a H H2 := ⟨x.keep.trans y.keep, y.well⟩
theorem Well.same (h : Well H a) (s : Same H H') : Well H' a := by
  obtain ⟨cells, pos, rest, mix, cnt, h1, h2, n, l⟩ := h.ex
  exact ⟨cells, pos, rest, mix, cnt, s _ _ h1, s _ _ h2, n, l⟩
theorem Drawn.same (x : Drawn a H H1) (y : Same H1 H2) : Drawn a H H2 := ⟨x.keep.trans (.of_same y), x.well.same y⟩
theorem Drawn.new (x : Drawn a H H1) (h : H1 p = none) : Drawn a H (upd H1 p o) := x.same (same_upd h)
theorem Well.at (h : Well H a) : ∃ o, H a.w = some o := by
  obtain ⟨cells, pos, rest, mix, cnt, h1, _⟩ := h.ex
  exact ⟨_, h1⟩
theorem Well.ne (h : Well H a) (n : H p = none) : p ≠ a.w ∧ p ≠ a.c := by
  obtain ⟨cells, pos, rest, mix, cnt, h1, h2, _⟩ := h.ex
  exact ⟨(ne_of_none h1 n).symm, (ne_of_none h2 n).symm⟩
theorem Drawn.free (e : Drawn a H H') (hw : Well H a) (h : H' p = Option.none) : H p = Option.none := by
  by_cases q : p = a.w
  · subst q
    obtain ⟨o, h1⟩ := e.well.at
    rw [h1] at h
    cases h
  · cases z : H p with
    | none => rfl
    | some o =>
      rw [e.keep p o q z] at h
      cases h
/-- what is new since H is written -/
theorem Drawn.put (x : Drawn a H H1) (hw : Well H a) (n : H p = none) : Drawn a H (upd H1 p o) := by
  obtain ⟨n1, n2⟩ := hw.ne n
  refine ⟨fun b u nb e => ?_, ?_⟩
  · rw [upd_ne (ne_of_none e n)]
    exact x.keep b u nb e
  · obtain ⟨cells, pos, rest, mix, cnt, h1, h2, n, l⟩ := x.well.ex
    exact ⟨cells, pos, rest, mix, cnt, by rw [upd_ne n1.symm]; exact h1, by rw [upd_ne n2.symm]; exact h2, n, l⟩
theorem Drawn.there (x : Drawn a H H1) (hw : Well H a) {u : HO} (n : p ≠ a.w) (e : H p = some u) : H1 p = some u := x.keep p u n e
/-- the names of the built-ins that the text leaves alone -/
structure Bt (mg : Str → Option Value) : Prop where
  int : mg "int" = none
  len : mg "len" = none
  range : mg "range" = none
  all : mg "all" = none
  isi : mg "isinstance" = none
  tup : mg "tuple" = none
  lst : mg "list" = none
  str : mg "str" = none
  max : mg "max" = none
  boo : mg "bool" = none
  abs : mg "abs" = none
section
variable {P : Program} {w : World} {K : PySem.W.Frag} {mg : Str → Option Value} {base : Heap}
theorem fmod_lt {a b : Int} (h : 0 < b) : 0 ≤ a.fmod b ∧ a.fmod b < b := by
  rw [Int.fmod_eq_emod_of_nonneg _ (Int.le_of_lt h)]
  exact ⟨Int.emod_nonneg _ (by omega), Int.emod_lt_of_pos _ h⟩
theorem nz {j : Int} (h : decide (j = 0) = false) : j ≠ 0 := of_decide_eq_false h
/-- a def of the text, found by its name -/
structure Df (K : PySem.W.Frag) (mg : Str → Option Value) (x : Str) (st : Stmt) (ps : List Str) (f : Addr) (fd : FuncData) : Prop where
  F : Fun K x x st f fd
  b : Binds K fd ps []
  g : mg x = some (.ref f)
def spDraw : Sp := fun vs H Q _ => ∃ (wl : WA) (m : Int), vs = [.ref wl.w, .int m] ∧ Well H wl ∧ 0 < m ∧ m < 2 ^ 62 ∧ ∀ (d : Int) (H' : Hp), 0 ≤ d → d < m → Drawn wl H H' → Q (.int d) H'
theorem scDraw : FnScope ["hand", "many", "cell", "digit", "number"] ["hand", "many"] (defScope sDraw) := ⟨rfl, rfl, rfl, by decide +kernel, rfl, by decide +kernel, by decide +kernel⟩
theorem ok_draw {f : Addr} {fd : FuncData} (F : Fun K "_law_draw" "_law_draw" sDraw f fd) (B : Bt mg) : FnOk P w K mg base CX0 1 f fd ["hand", "many"] spDraw := by
  refine F.ok scDraw (fun vs H Q E h => ?_) (fun cdv A outer s H vs Q E hr h => ?_)
  · obtain ⟨n, m, rfl, _⟩ := h
    rfl
  · obtain ⟨wl, m, rfl, W, m0, m1, k⟩ := h
    have hI := B.int
    refine ⟨_, Evl.pss_cut (ps_if (PW.pt (pw_and (pt_cmpR op_eq (pe_ix ix_list (pv 0) pe_int (fun _ _ => rfl)) pe_int (nomark _)) (pw_and1 (pt_cmpR op_lt (pe_ix ix_list (pv 0) pe_int (fun _ _ => rfl)) (pe_callB call_len_seq (by rfl) B.len PySem.boot_len (pa_cons (pe_ix ix_list (pv 0) pe_int (fun _ _ => rfl)) pa_nil)) (nomark _)))))
        (pss_cons (ps_set (i := 2) scDraw.nd rfl (.inl rfl) (pe_ix ix_list (pe_ix ix_list (pv 0) pe_int (fun _ _ => rfl)) (pe_ix ix_list (pv 0) pe_int (fun _ _ => rfl)) (fun _ _ => rfl)))
        (pss_cons (ps_asg (pe_op op_add (pe_ix ix_list (pv 0) pe_int (fun _ _ => rfl)) pe_int) (pg_sub (pv 0) pe_int set_list))
        (pss_cons (ps_asg (pe_op op_modN (pe_callTy call_int1 (by rfl) hI boot_int (pa_cons (pe_op op_add (pe_op op_add (pe_op op_mul (pe_ix ix_list (pv 0) pe_int (fun _ _ => rfl)) pe_int) (pv 2)) pe_int) pa_nil)) pe_int) (pg_sub (pv 0) pe_int set_list))
        (pss_one (ps_if (pt_cmpR op_ge (pv 2) (pe_op op_pow pe_int pe_int) (nomark _)) (pss_one (ps_asg (pv 2) (pg_sub (pv 0) pe_int set_list))) pss_nil))))) pss_nil)
      (pss_cons (ps_if (pt_cmpR op_gt (pe_ix ix_list (pv 0) pe_int (fun _ _ => rfl)) pe_int (nomark _))
        (pss_cons (ps_set (i := 3) scDraw.nd rfl (.inl rfl) (pe_op op_modN (pe_callTy call_int1 (by rfl) hI boot_int (pa_cons (pe_ix ix_list (pv 0) pe_int (fun _ _ => rfl)) pa_nil)) (pv 1)))
        (pss_cons (ps_asg (pe_op op_fdivW (pe_ix ix_list (pv 0) pe_int (fun _ _ => rfl)) (pv 1)) (pg_sub (pv 0) pe_int set_list))
        (pss_one (ps_ret (pv 3))))) pss_nil)
      (pss_cons (ps_asg (pe_op op_add (pe_ix ix_list (pv 0) pe_int (fun _ _ => rfl)) pe_int) (pg_sub (pv 0) pe_int set_list))
      (pss_cons (ps_set (i := 4) scDraw.nd rfl (.inl rfl) (pe_op op_modN (pe_callTy call_int1 (by rfl) hI boot_int (pa_cons (pe_op op_mul (pe_callTy call_int1 (by rfl) hI boot_int (pa_cons (pe_op op_add (pe_ix ix_list (pv 0) pe_int (fun _ _ => rfl)) (pe_op op_mul pe_int (pe_ix ix_list (pv 0) pe_int (fun _ _ => rfl)))) pa_nil)) pe_int) pa_nil)) pe_int))
      (pss_cons (ps_set (i := 4) scDraw.nd rfl (.inl rfl) (pe_op op_modN (pe_callTy call_int1 (by rfl) hI boot_int (pa_cons (pe_op op_mul (pv 4) (pe_op op_add (pe_op op_fdivN (pv 4) pe_int) pe_int)) pa_nil)) pe_int))
      (pss_cons (ps_set (i := 4) scDraw.nd rfl (.inl rfl) (pe_op op_modN (pe_callTy call_int1 (by rfl) hI boot_int (pa_cons (pe_op op_mul (pv 4) (pe_op op_add (pe_op op_fdivN (pv 4) pe_int) pe_int)) pa_nil)) pe_int))
      (pss_one (ps_ret (pe_op op_modN (pe_callTy call_int1 (by rfl) hI boot_int (pa_cons (pe_op op_fdivN (pv 4) pe_int) pa_nil)) (pv 1))))))))), ?_⟩
    refine ⟨fun σ' H' => (∃ x2 : Option V, σ' = [some (.ref wl.w), some (.int m), x2, none, none]) ∧ Drawn wl H H', ?_, ?_⟩
    · obtain ⟨cells, pos, rest, mix, cnt, h1, h2, n, l1, l2, l3⟩ := W.ex
      refine ⟨_, rfl, wl.w, _, _, _, rfl, rfl, SqL.of h1, atI_nat (j := 2) rfl, rfl, _, rfl, ite2 (fun q => ?_) (fun q => iteF ⟨⟨none, rfl⟩, .refl W⟩)⟩
      refine ⟨_, rfl, wl.w, _, _, _, rfl, rfl, SqL.of h1, atI_nat (j := 1) rfl, _, rfl, wl.w, _, _, _, rfl, rfl, SqL.of h1, atI_nat (j := 0) rfl, wl.c, _, rfl, .inl (SqL.of h2), _, _, rfl, rfl, _, rfl, ite2 (fun q2 => ?_) (fun q2 => ⟨⟨none, rfl⟩, .refl W⟩)⟩
      have q3 : (pos : Int) < ((cells.map V.int).length : Int) := of_decide_eq_true q2
      rw [List.length_map] at q3
      have q4 : pos < cells.length := by omega
      have e1 : (cells.map V.int)[pos]? = some (.int cells[pos]) := by
        rw [List.getElem?_map, List.getElem?_eq_getElem q4]
        rfl
      have cn := l2 _ (List.getElem_mem q4)
      refine ⟨_, rfl, wl.w, _, _, _, rfl, rfl, SqL.of h1, atI_nat (j := 0) rfl, _, rfl, wl.w, _, _, _, rfl, rfl, SqL.of h1, atI_nat (j := 1) rfl, wl.c, _, _, _, rfl, rfl, SqL.of h2, atI_nat e1, ?_⟩
      refine ⟨_, rfl, wl.w, _, _, _, rfl, rfl, SqL.of h1, atI_nat (j := 1) rfl, _, _, rfl, rfl, _, rfl, wl.w, _, _, _, rfl, rfl, h1, rfl, ?_⟩
      have u1 := upd_same (H := H) (a := wl.w) (o := .lst [.ref wl.c, .int ((pos : Int) + 1), .int rest, .int mix, .int cnt])
      refine ⟨_, rfl, wl.w, _, _, _, rfl, rfl, SqL.of u1, atI_nat (j := 3) rfl, _, _, rfl, rfl, .inr (by decide), _, rfl, _, _, rfl, rfl, _, _, rfl, rfl, .inl ⟨_, rfl, _, _, rfl, rfl, nz rfl, ?_⟩⟩
      refine ⟨_, rfl, wl.w, _, _, _, rfl, rfl, u1, rfl, ?_⟩
      have D : ∀ z y : Int, 0 ≤ y → Drawn wl H (upd H wl.w (.lst [.ref wl.c, .int ((pos : Int) + 1), .int y, .int z, .int cnt])) := fun z y hy => ⟨.updw, cells, pos + 1, y, z, cnt, upd_same, by rw [upd_ne n]; exact h2, n, l1, l2, hy⟩
      refine ⟨_, rfl, _, _, rfl, rfl, ⟨by decide, by decide, by decide⟩, _, _, rfl, rfl, _, rfl, ite2 (fun q => ?_) (fun q => ?_)⟩
      · refine ⟨_, rfl, _, rfl, wl.w, _, _, _, rfl, rfl, upd_same, rfl, ⟨_, rfl⟩, ?_⟩
        rw [upd_upd, upd_upd]
        exact D _ _ cn
      · refine ⟨⟨_, rfl⟩, ?_⟩
        rw [upd_upd]
        exact D _ _ l3
    · rintro σ' H1 ⟨⟨x2, rfl⟩, D⟩
      obtain ⟨cells, pos, rest, mix, cnt, h1, h2, n, l1, l2, l3⟩ := D.well.ex
      refine ⟨_, rfl, wl.w, _, _, _, rfl, rfl, SqL.of h1, atI_nat (j := 2) rfl, _, _, rfl, rfl, _, rfl, ite2 (fun q => ?_) (fun q => ?_)⟩
      · have b1 := fmod_lt (a := rest) m0
        refine ⟨_, rfl, wl.w, _, _, _, rfl, rfl, SqL.of h1, atI_nat (j := 2) rfl, .inl ⟨_, rfl, _, rfl, _, _, rfl, rfl, (by show m ≠ 0; omega), ?_⟩⟩
        refine ⟨_, rfl, wl.w, _, _, _, rfl, rfl, SqL.of h1, atI_nat (j := 2) rfl, _, rfl, _, _, rfl, rfl, wide_div m0 (b := 62) (by omega) (by decide) (by decide), ?_⟩
        refine ⟨_, rfl, wl.w, _, _, _, rfl, rfl, h1, rfl, ?_⟩
        refine ⟨_, rfl, k _ _ b1.1 b1.2 ⟨D.keep.trans .updw, cells, pos, _, mix, cnt, upd_same, ?_, n, l1, l2, Int.ediv_nonneg l3 (by omega)⟩⟩
        rw [upd_ne n]
        exact h2
      · have u1 := upd_same (H := H1) (a := wl.w) (o := .lst [.ref wl.c, .int (pos : Int), .int rest, .int mix, .int (cnt + 1)])
        have D2 : Drawn wl H (upd H1 wl.w (.lst [.ref wl.c, .int (pos : Int), .int rest, .int mix, .int (cnt + 1)])) := ⟨D.keep.trans .updw, cells, pos, rest, mix, cnt + 1, upd_same, by rw [upd_ne n]; exact h2, n, l1, l2, l3⟩
        refine ⟨_, rfl, wl.w, _, _, _, rfl, rfl, SqL.of h1, atI_nat (j := 4) rfl, _, _, rfl, rfl, _, rfl, wl.w, _, _, _, rfl, rfl, h1, rfl, ?_⟩
        refine ⟨_, rfl, wl.w, _, _, _, rfl, rfl, SqL.of u1, atI_nat (j := 3) rfl, _, rfl, wl.w, _, _, _, rfl, rfl, SqL.of u1, atI_nat (j := 4) rfl, _, _, rfl, rfl, .inl ⟨by decide, by decide⟩, _, _, rfl, rfl, .inl ⟨_, rfl, _, _, rfl, rfl, .inr ⟨by decide, by decide⟩, .inl ⟨_, rfl, _, _, rfl, rfl, nz rfl, ?_⟩⟩⟩
        have b1 := fmod_lt (a := (mix + 7919 * (cnt + 1)) * 48271) (b := 2147483647) (by decide)
        refine ⟨_, rfl, _, rfl, _, _, rfl, rfl, ⟨by decide, by decide⟩, _, _, rfl, rfl, _, _, rfl, rfl, .inl ⟨by omega, by omega⟩, .inl ⟨_, rfl, _, _, rfl, rfl, nz rfl, ?_⟩⟩
        have b2 := fmod_lt (a := ((mix + 7919 * (cnt + 1)) * 48271).fmod 2147483647 * ((((mix + 7919 * (cnt + 1)) * 48271).fmod 2147483647).fdiv 1009 + 69621)) (b := 2147483647) (by decide)
        refine ⟨_, rfl, _, rfl, _, _, rfl, rfl, ⟨by decide, by decide⟩, _, _, rfl, rfl, _, _, rfl, rfl, .inl ⟨by omega, by omega⟩, .inl ⟨_, rfl, _, _, rfl, rfl, nz rfl, ?_⟩⟩
        refine ⟨_, rfl, _, _, rfl, rfl, ⟨by decide, by decide⟩, .inl ⟨_, rfl, _, rfl, _, _, rfl, rfl, (by show m ≠ 0; omega), ?_⟩⟩
        have b3 := fmod_lt (a := (((((mix + 7919 * (cnt + 1)) * 48271).fmod 2147483647 * ((((mix + 7919 * (cnt + 1)) * 48271).fmod 2147483647).fdiv 1009 + 69621)).fmod 2147483647 * (((((mix + 7919 * (cnt + 1)) * 48271).fmod 2147483647 * ((((mix + 7919 * (cnt + 1)) * 48271).fmod 2147483647).fdiv 1009 + 69621)).fmod 2147483647).fdiv 2003 + 40692)).fmod 2147483399).fdiv 16) m0
        exact k _ _ b3.1 b3.2 D2
end
end Ht
namespace Ht
open PySem PySem.Spec PyProof.Rows L2
section
variable {P : Program} {w : World} {K : PySem.W.Frag} {mg : Str → Option Value} {base : Heap}
theorem big_line : 1000000 < sizeLine := by
  rw [sizeLine_eq]
  decide
theorem boot_abs' : bootBuiltins "abs" = some (.builtin "abs") := by decide +kernel
def absI (i : Int) : Int := if i < 0 then -i else i
theorem absI_nn (i : Int) : 0 ≤ absI i := by
  unfold absI
  split <;> omega
def spHand (K : PySem.W.Frag) : Sp := fun vs H Q _ => ∃ (a : Addr) (ns : List Int), vs = [.ref a] ∧ SqL K H a (ns.map V.int) ∧ ∀ (wl : WA) (H' : Hp), Same H H' → Well H' wl → Q (.ref wl.w) H'
theorem scHand : FnScope ["script", "cell", "cells"] ["script"] (defScope sHand) := ⟨rfl, rfl, rfl, by decide +kernel, rfl, by decide +kernel, by decide +kernel⟩
theorem ok_hand {f : Addr} {fd : FuncData} (F : Fun K "_law_hand" "_law_hand" sHand f fd) (B : Bt mg) : FnOk P w K mg base CX0 1 f fd ["script"] (spHand K) := by
  refine F.ok scHand (fun vs H Q E h => ?_) (fun cdv A outer s H vs Q E hr h => ?_)
  · obtain ⟨n, m, rfl, _⟩ := h
    rfl
  · obtain ⟨a, ns, rfl, hS, k⟩ := h
    have hI := B.int
    refine ⟨_, pss_cons (ps_setLc (i := 2) (own := [("cell", 1)]) (g := gName 1) (tt := tYes) rfl scHand.nd rfl rfl rfl (pi_list (pe_slice sl_list (pv 0) po_none (po_some pe_int))) (blkOk_by (N := ["script", "cell", "cells"]) (sc := defScope sHand) (by decide +kernel))
        (fun _ _ _ _ _ => pg_name (i := 1) scHand.nd rfl (Or.inl rfl)) (fun _ _ _ _ _ => pts_nil) (fun _ _ _ _ _ => pe_callB call_abs (by rfl) B.abs boot_abs' (pa_cons (pe_callTy call_int1 (by rfl) hI boot_int (pa_cons (pv 1) pa_nil)) pa_nil)))
      (pss_one (ps_ret (pe_lst (pa_cons (pv 2) (pa_cons pe_int (pa_cons pe_int (pa_cons (pe_op op_add pe_int (pe_callB call_len_seq (by rfl) B.len PySem.boot_len (pa_cons (pv 2) pa_nil))) (pa_cons pe_int pa_nil)))))))), ?_⟩
    refine ⟨_, rfl, _, rfl, a, _, rfl, hS, fun p hp => ?_⟩
    have ec : cutV (ns.map V.int) none (some 63) = (ns.take 63).map V.int := by
      unfold cutV
      rw [HT.sIx_none, show HT.sIx (ns.map V.int).length (ns.map V.int).length (some 63) = min 63 (ns.map V.int).length from HT.sIx_nat _ _ 63]
      show List.take (min 63 (ns.map V.int).length - 0) (List.drop 0 (ns.map V.int)) = _
      rw [List.drop_zero, Nat.sub_zero, List.map_take, List.take_eq_take_iff]
      omega
    rw [ec]
    have l63 : (ns.take 63).length ≤ 63 := by
      rw [List.length_take]
      omega
    clear ec
    generalize ns.take 63 = cs at l63
    have s1 : Same H (upd H p (.lst (cs.map V.int))) := same_upd hp
    refine ⟨p, rfl, ⟨_, SqL.of upd_same⟩, fun D hD => ?_⟩
    have nDp : p ≠ D := ne_of_none upd_same hD
    refine lc_list (K := K) (a := p) (xs := cs.map V.int) (fun i H' => Same H H' ∧ H' p = some (.lst (cs.map V.int)) ∧ H' D = some (.lst (((cs.map absI).take i).map V.int)))
      ⟨s1.trans (same_upd hD), by rw [upd_ne nDp, upd_same], upd_same⟩ (fun i H' _ p => SqL.of p.2.1) ?_ ?_
    · rintro i x H1 hi ⟨sm, h1, h2⟩
      rw [List.getElem?_map] at hi
      cases e : cs[i]? with
      | none =>
        rw [e] at hi
        cases hi
      | some n =>
        rw [e] at hi
        have ex := Option.some.inj hi
        subst ex
        have hl := (List.getElem?_eq_some_iff.mp e).1
        refine ⟨rfl, _, rfl, .inl ⟨_, rfl, _, rfl, _, h2, ?_, fun b o hb => ?_, ?_, ?_⟩⟩
        · rw [List.length_map, List.length_take, List.length_map]
          have := big_line
          omega
        · rw [upd_ne (ne_of_none hb (s1.free hD))]
          exact sm _ _ hb
        · rw [upd_ne nDp]
          exact h1
        · rw [upd_same, List.take_add_one, List.getElem?_map, e, List.map_append]
          rfl
    · rintro H1 ⟨sm, h1, h2⟩
      rw [List.length_map, show cs.length = (cs.map absI).length by rw [List.length_map], List.take_length] at h2
      refine ⟨_, rfl, _, rfl, D, _, rfl, .inl (SqL.of h2), _, _, rfl, rfl, by show 5 ≤ sizeLine; decide, fun q hq => ?_⟩
      have nDq : D ≠ q := ne_of_none h2 hq
      refine k ⟨q, D⟩ _ (sm.trans (same_upd hq)) ⟨cs.map absI, 0, 0, 1 + (cs.length : Int), 0, ?_, ?_, nDq, by rw [List.length_map]; exact l63, fun c hc => ?_, Int.le_refl _⟩
      · rw [upd_same, List.length_map, List.length_map]
        rfl
      · rw [upd_ne nDq]
        exact h2
      · obtain ⟨b, _, rfl⟩ := List.mem_map.mp hc
        exact absI_nn b
end
end Ht
/-! one of a list, one sign of a string; a drawn word -/
namespace Ht
open PySem PySem.Spec PyProof.Rows L2
abbrev sAny : Stmt := topS 52
abbrev sWord : Stmt := topS 53
/-- _law_draw, ready to be called -/
structure Dd (P : Program) (w : World) (K : PySem.W.Frag) (mg : Str → Option Value) (base : Heap) (f : Addr) (d : FuncData) : Prop where
  ok : FnOk P w K mg base CX0 1 f d ["hand", "many"] spDraw
  g : mg "_law_draw" = some (.ref f)
  kp : PySem.W.keepIn K (.ref f) = true
  b : Binds K d ["hand", "many"] []
section
variable {X : Cx} {fD : Addr} {dD : FuncData} {e1 e2 : Expr} {t1 t2 : TE} {ps pos : Pos} {k : Nat}
theorem pe_draw (D : Dd X.prog X.w X.K X.mg X.base fD dD) (hr : Room k X.A) (h : 1 ≤ k) (hg : Gl X "_law_draw") (h1 : PE X e1 t1) (h2 : PE X e2 t2) (hst : starEach [e1, e2] X.env = (false, eval e1 X.env) :: starEach [e2] X.env := by rfl) (hst2 : starEach [e2] X.env = (false, eval e2 X.env) :: starEach [] X.env := by rfl)
    (hpl : (backTo pos (starEach [e2] X.env)).any (·.1) = false := by rfl) : PE X (.Call (.Name "_law_draw" ps) [e1, e2] [] pos) (tCall spDraw [] E0 (tCons t1 (tCons t2 tNil))) :=
  pe_call (D.ok.mono h) hr hg D.g D.kp D.b .nil pass0 (pa_cons h1 (pa_cons h2 pa_nil hst2) hst) (by decide) hst hpl
end
section
variable {P : Program} {w : World} {K : PySem.W.Frag} {mg : Str → Option Value} {base : Heap} {fD : Addr} {dD : FuncData}
theorem scAny : FnScope ["hand", "things"] ["hand", "things"] (defScope sAny) := ⟨rfl, rfl, rfl, by decide +kernel, rfl, by decide +kernel, by decide +kernel⟩
def spAnyL : Sp := fun vs H Q _ => ∃ (wl : WA) (L : Addr) (xs : List V), vs = [.ref wl.w, .ref L] ∧ Well H wl ∧ H L = some (.lst xs) ∧ L ≠ wl.w ∧ 1 ≤ xs.length ∧ xs.length ≤ 1000 ∧ ∀ (x : V) (H' : Hp), x ∈ xs → Drawn wl H H' → Q x H'
def spAnyS : Sp := fun vs H Q _ => ∃ (wl : WA) (z : Str), vs = [.ref wl.w, .str z] ∧ Well H wl ∧ 1 ≤ z.length ∧ z.length ≤ 1000 ∧ ∀ (c : Nat) (H' : Hp), c ∈ TL.tl z → Drawn wl H H' → Q (.str ⟨#[c]⟩) H'
theorem ok_anyL {f : Addr} {fd : FuncData} (F : Fun K "_law_any" "_law_any" sAny f fd) (B : Bt mg) (D : Dd P w K mg base fD dD) : FnOk P w K mg base CX0 2 f fd ["hand", "things"] spAnyL := by
  refine F.ok scAny (fun vs H Q E h => ?_) (fun cdv A outer s H vs Q E hr h => ?_)
  · obtain ⟨n, m, xs, rfl, _⟩ := h
    rfl
  obtain ⟨wl, L, xs, rfl, W, hL, nL, l1, l2, k⟩ := h
  refine ⟨_, pss_one (ps_ret (pe_ix ix_list (pv 1) (pe_draw D hr (by decide) (by rfl) (pv 0) (pe_callB call_len_seq (by rfl) B.len PySem.boot_len (pa_cons (pv 1) pa_nil))) (fun _ _ => rfl))), ?_⟩
  refine ⟨_, rfl, _, rfl, _, rfl, L, xs, rfl, .inl (SqL.of hL), wl, _, rfl, W, by omega, by omega, fun d H1 d0 d1 D1 => ?_⟩
  have hd : d.toNat < xs.length := by omega
  have e : d = ((d.toNat : Nat) : Int) := by omega
  have ha : atI xs ((d.toNat : Nat) : Int) = some xs[d.toNat] := atI_nat (List.getElem?_eq_getElem hd)
  exact ⟨L, xs, d, xs[d.toNat], rfl, rfl, SqL.of (D1.keep L _ nL hL), (by rw [← e] at ha; exact ha), k _ _ (List.getElem_mem hd) D1⟩
theorem ok_anyS {f : Addr} {fd : FuncData} (F : Fun K "_law_any" "_law_any" sAny f fd) (B : Bt mg) (D : Dd P w K mg base fD dD) : FnOk P w K mg base CX0 2 f fd ["hand", "things"] spAnyS := by
  refine F.ok scAny (fun vs H Q E h => ?_) (fun cdv A outer s H vs Q E hr h => ?_)
  · obtain ⟨n, m, rfl, _⟩ := h
    rfl
  obtain ⟨wl, z, rfl, W, l1, l2, k⟩ := h
  have hz : z.length ≤ sizeLine := Nat.le_trans l2 (Nat.le_of_lt (Nat.lt_trans (by decide) big_line))
  refine ⟨_, pss_one (ps_ret (pe_ix ix_str (pv 1) (pe_draw D hr (by decide) (by rfl) (pv 0) (pe_callB call_len_str (by rfl) B.len PySem.boot_len (pa_cons (pv 1) pa_nil))) (fun _ _ => rfl))), ?_⟩
  refine ⟨_, rfl, _, rfl, _, rfl, z, rfl, hz, wl, _, rfl, W, by omega, by omega, fun d H1 d0 d1 D1 => ?_⟩
  have hl := TL.len_tl z
  have hd : d.toNat < (TL.tl z).length := by omega
  have e : d = ((d.toNat : Nat) : Int) := by omega
  have ha : atI (TL.tl z) ((d.toNat : Nat) : Int) = some (TL.tl z)[d.toNat] := atI_nat (List.getElem?_eq_getElem hd)
  exact ⟨z, d, (TL.tl z)[d.toNat], rfl, rfl, hz, (by rw [← e] at ha; exact ha), k _ _ (List.getElem_mem hd) D1⟩
/-! ### words -/
def wordsZ : Str := "ab'~() ,#.-0129~'z!"
def okW (c : Nat) : Bool := decide (32 ≤ c) && decide (c ≤ 126)
theorem words_ok : (TL.tl wordsZ).all okW = true := by decide +kernel
def spWord : Sp := fun vs H Q _ => ∃ wl : WA, vs = [.ref wl.w] ∧ Well H wl ∧ ∀ (z : Str) (H' : Hp), z.length ≤ 6 → (TL.tl z).all okW = true → Drawn wl H H' → Q (.str z) H'
theorem scWord : FnScope ["hand", "signs", "k"] ["hand"] (defScope sWord) := ⟨rfl, rfl, rfl, by decide +kernel, rfl, by decide +kernel, by decide +kernel⟩
theorem join_tl (zs : List Str) : TL.tl (Txt.join ("" : Str) zs) = (zs.map TL.tl).flatten := by
  rw [TL.join_eq, TL.tl_join]
  have e : TL.tl ("" : Str) = [] := rfl
  rw [e]
  generalize zs.map TL.tl = l
  induction l with
  | nil => rfl
  | cons p r ih =>
    cases r with
    | nil => simp [TL.joinL]
    | cons q r =>
      show p ++ ([] ++ TL.joinL [] (q :: r)) = _
      rw [ih]
      rfl
theorem join_signs : ∀ cs : List Nat, ((cs.map fun c => (⟨#[c]⟩ : Str)).map (·.length)).sum = cs.length ∧ ((cs.map fun c => (⟨#[c]⟩ : Str)).map TL.tl).flatten = cs
  | [] => ⟨rfl, rfl⟩
  | c :: cs => by
    obtain ⟨h1, h2⟩ := join_signs cs
    refine ⟨?_, ?_⟩
    · rw [List.map_cons, List.map_cons, List.sum_cons, h1, List.length_cons]
      show 1 + cs.length = cs.length + 1
      omega
    · rw [List.map_cons, List.map_cons, List.flatten_cons, h2]
      rfl
theorem ok_word {f fA : Addr} {fd dA : FuncData} (F : Fun K "_law_word" "_law_word" sWord f fd) (B : Bt mg) (D : Dd P w K mg base fD dD) (DA : Df K mg "_law_any" sAny ["hand", "things"] fA dA) : FnOk P w K mg base CX0 3 f fd ["hand"] spWord := by
  have GA : FnOk P w K mg base CX0 2 fA dA ["hand", "things"] spAnyS := ok_anyS DA.F B D
  refine F.ok scWord (fun vs H Q E h => ?_) (fun cdv A outer s H vs Q E hr h => ?_)
  · obtain ⟨n, rfl, _⟩ := h
    rfl
  obtain ⟨wl, rfl, W, k⟩ := h
  refine ⟨_, pss_cons (ps_set (i := 1) scWord.nd rfl (.inr rfl) pe_str)
    (pss_one (ps_ret (pe_join pe_str (pe_lc (own := [("k", 2)]) (g := gName 2) (tt := tYes) rfl scWord.nd (pi_range1 (by rfl) B.range (pa_cons (pe_draw D hr (by decide) (by rfl) (pv 0) pe_int) pa_nil)) (blkOk_by (N := ["hand", "signs", "k"]) (sc := defScope sWord) (by decide +kernel))
        (fun _ _ _ _ _ => pg_name (i := 2) scWord.nd rfl (Or.inl rfl)) (fun _ _ _ _ _ => pts_nil)
        (fun _ _ _ _ _ => pe_call GA hr (by rfl) DA.g DA.F.kp DA.b .nil pass0 (pa_cons (pv 0) (pa_cons (pv 1) pa_nil))))))), ?_⟩
  refine ⟨⟨_, rfl⟩, _, rfl, wl, 7, rfl, W, by decide, by decide, fun m H1 m0 m1 D1 => ⟨m, rfl, by omega, by omega, fun D' hD => ?_⟩⟩
  have nD := (D1.well.ne hD).1
  refine lc_range (lo := 0) (n := m.toNat) (fun i H' => Drawn wl H1 H' ∧ ∃ cs : List Nat, H' D' = some (.lst ((cs.map fun c => (⟨#[c]⟩ : Str)).map V.str)) ∧ cs.length = i ∧ cs.all okW = true) ⟨(Drawn.refl D1.well).new hD, [], upd_same, rfl, rfl⟩ ?_ ?_
  · rintro i H2 hi ⟨D2, cs, hz, hl, hc⟩
    refine ⟨rfl, _, rfl, _, rfl, wl, wordsZ, rfl, D2.well, by decide +kernel, by decide +kernel, fun c H3 hcm D3 => ⟨_, D3.keep D' _ nD hz, ?_, (D2.trans D3).put D1.well hD, cs ++ [c], ?_, ?_, ?_⟩⟩
    · rw [List.length_map, List.length_map]
      have := big_line
      omega
    · rw [upd_same, List.map_append, List.map_append]
      rfl
    · rw [List.length_append, hl]
      rfl
    · rw [List.all_append, hc]
      have := List.all_eq_true.mp words_ok c hcm
      simp [this]
  · rintro H2 ⟨D2, cs, hz, hl, hc⟩
    obtain ⟨s1, s2⟩ := join_signs cs
    refine ⟨_, D', cs.map fun c => (⟨#[c]⟩ : Str), rfl, rfl, .inl (SqL.of hz), ?_, k _ _ ?_ ?_ (D1.trans D2)⟩
    · rw [s1]
      show cs.length + _ * 0 ≤ 16777216
      omega
    · rw [TL.len_tl, join_tl, s2]
      omega
    · rw [join_tl, s2]
      exact hc
end
end Ht
/-! k30: the readers as pure functions of (signs, place); the program's and the law's tell alike -/
namespace Ht
open PySem Hu
inductive R where
  | ok (u : U) (p : Nat) | bad (p : Nat)
def isD (c : Nat) : Bool := decide (48 ≤ c) && decide (c ≤ 57)
def mkS (l : List Nat) : Str := ⟨l.toArray⟩
/-- the string behind a quote; n steps at most -/
def rdStr (cs : List Nat) : Nat → Nat → List Nat → R
  | 0, p, _ => .bad p
  | n + 1, p, acc => match cs[p]? with
    | none => .bad p
    | some c => if c = 39 then .ok (.str (mkS acc)) (p + 1)
      else if c = 126 then match cs[p + 1]? with
        | none => .bad (p + 1)
        | some d => if d = 39 ∨ d = 126 then rdStr cs n (p + 2) (acc ++ [d]) else .bad (p + 1)
      else if 32 ≤ c ∧ c ≤ 126 then rdStr cs n (p + 1) (acc ++ [c]) else .bad p
/-- the items of a tuple, from one place on -/
def rdItems (cs : List Nat) (rd : Nat → R) : Nat → Nat → List U → R
  | 0, p, _ => .bad p
  | n + 1, p, acc => match rd p with
    | .bad e => .bad e
    | .ok u q => if cs[q]? = some 41 then .ok (.tup (acc ++ [u])) (q + 1) else if cs[q]? = some 44 then rdItems cs rd n (q + 1) (acc ++ [u]) else .bad q
/-- a thing; k tuples may still be opened; ri reads integers -/
def rdThing (cs : List Nat) (ri : Nat → R) : Nat → Nat → R
  | k, p => match cs[p]? with
    | none => .bad p
    | some c => if c = 46 then .ok .non (p + 1) else if c = 39 then rdStr cs cs.length (p + 1) [] else if c = 40 then
        (match k with
        | 0 => .bad p
        | k + 1 => if cs[p + 1]? = some 41 then .ok (.tup []) (p + 2) else rdItems cs (rdThing cs ri k) cs.length (p + 1) [])
      else ri p
/-- how many digits stand from a place on -/
def run (cs : List Nat) (p : Nat) : Nat := ((cs.drop p).takeWhile isD).length
def valD (l : List Nat) : Nat := l.foldl (fun a c => a * 10 + (c - 48)) 0
def begins (cs : List Nat) (p : Nat) : Nat := if cs[p]? = some 45 then p + 1 else p
def intAt (cs : List Nat) (p n : Nat) : Int := if cs[p]? = some 45 then -(valD ((cs.drop (begins cs p)).take n) : Int) else (valD ((cs.drop (begins cs p)).take n) : Int)
/-- the program's -/
def riP (cs : List Nat) (p : Nat) : R :=
  let f := begins cs p
  if run cs f = 0 then .bad f
  else if cs[f]? = some 48 then (if p < f then .bad f else .ok (.int 0) (f + 1))
  else if 30 < run cs f then .bad (f + 30) else .ok (.int (intAt cs p (run cs f))) (f + run cs f)
/-- the law's: of more than thirty digits the first thirty -/
def riL (cs : List Nat) (p : Nat) : R :=
  let f := begins cs p
  if run cs f = 0 then .bad f
  else if cs[f]? = some 48 then (if p < f then .bad f else .ok (.int 0) (f + 1))
  else if 30 < run cs f then .ok (.int (intAt cs p 30)) (f + 30) else .ok (.int (intAt cs p (run cs f))) (f + run cs f)
/-- alike, but where the law goes on with a digit behind it, which is wrong for all who read on -/
def Alike (cs : List Nat) (x y : R) : Prop := x = y ∨ ∃ u e c, x = .bad e ∧ y = .ok u e ∧ cs[e]? = some c ∧ isD c = true
theorem run_digit {cs : List Nat} {f n : Nat} (h : n < run cs f) : ∃ c, cs[f + n]? = some c ∧ isD c = true := by
  unfold run at h
  have h1 : n < (cs.drop f).length := Nat.lt_of_lt_of_le h (List.takeWhile_sublist _).length_le
  refine ⟨(cs.drop f)[n], ?_, ?_⟩
  · rw [← List.getElem?_drop, List.getElem?_eq_getElem h1]
  · have e : ((cs.drop f).takeWhile isD)[n] = (cs.drop f)[n] := by
      have := List.takeWhile_append_dropWhile (p := isD) (l := cs.drop f)
      have q : ((cs.drop f).takeWhile isD ++ (cs.drop f).dropWhile isD)[n]? = (cs.drop f)[n]? := by rw [this]
      rw [List.getElem?_append_left h, List.getElem?_eq_getElem h, List.getElem?_eq_getElem h1] at q
      exact Option.some.inj q
    rw [← e]
    have ha := List.all_takeWhile (p := isD) (l := cs.drop f)
    exact List.all_eq_true.mp ha _ (List.getElem_mem h)
theorem ri_alike (cs : List Nat) (p : Nat) : Alike cs (riP cs p) (riL cs p) := by
  unfold riP riL
  dsimp only
  by_cases h1 : run cs (begins cs p) = 0
  · rw [if_pos h1, if_pos h1]
    exact .inl rfl
  · rw [if_neg h1, if_neg h1]
    by_cases h2 : cs[begins cs p]? = some 48
    · rw [if_pos h2, if_pos h2]
      exact .inl rfl
    · rw [if_neg h2, if_neg h2]
      by_cases h3 : 30 < run cs (begins cs p)
      · rw [if_pos h3, if_pos h3]
        obtain ⟨c, hc, hd⟩ := run_digit h3
        exact .inr ⟨_, _, c, rfl, rfl, hc, hd⟩
      · rw [if_neg h3, if_neg h3]
        exact .inl rfl
theorem items_alike {cs : List Nat} {rd ld : Nat → R} (h : ∀ p, Alike cs (rd p) (ld p)) : ∀ n p acc, rdItems cs rd n p acc = rdItems cs ld n p acc
  | 0, _, _ => rfl
  | n + 1, p, acc => by
    unfold rdItems
    rcases h p with e | ⟨u, e, c, h1, h2, h3, h4⟩
    · rw [e]
      cases ld p with
      | bad e => rfl
      | ok u q =>
        dsimp only
        rw [items_alike h n]
    · rw [h1, h2]
      dsimp only
      have n1 : ¬ cs[e]? = some 41 := fun z => by
        rw [h3] at z
        cases z
        cases h4
      have n2 : ¬ cs[e]? = some 44 := fun z => by
        rw [h3] at z
        cases z
        cases h4
      rw [if_neg n1, if_neg n2]
theorem thing_alike (cs : List Nat) : ∀ k p, Alike cs (rdThing cs (riP cs) k p) (rdThing cs (riL cs) k p) := by
  intro k
  induction k with
  | zero =>
    intro p
    unfold rdThing
    cases cs[p]? with
    | none => exact .inl rfl
    | some c =>
      dsimp only
      split
      · exact .inl rfl
      · split
        · exact .inl rfl
        · split
          · exact .inl rfl
          · exact ri_alike cs p
  | succ k ih =>
    intro p
    unfold rdThing
    cases cs[p]? with
    | none => exact .inl rfl
    | some c =>
      dsimp only
      split
      · exact .inl rfl
      · split
        · exact .inl rfl
        · split
          · split
            · exact .inl rfl
            · exact .inl (items_alike ih _ _ _)
          · exact ri_alike cs p
/-- what is told of a whole text: the thing, or the place -/
def whole (cs : List Nat) : R → U ⊕ Nat
  | .bad e => .inr e
  | .ok u q => if q = cs.length then .inl u else .inr q
theorem whole_alike (cs : List Nat) : whole cs (rdThing cs (riP cs) 30 0) = whole cs (rdThing cs (riL cs) 30 0) := by
  rcases thing_alike cs 30 0 with e | ⟨u, e, c, h1, h2, h3, h4⟩
  · rw [e]
  · rw [h1, h2]
    have := (List.getElem?_eq_some_iff.mp h3).1
    show _ = if e = cs.length then _ else _
    rw [if_neg (by omega)]
    rfl
end Ht
/-! drawn things -/
namespace Ht
open PySem PySem.Spec PyProof.Rows L2 Hu Evl
abbrev sThing : Stmt := topS 54
mutual
/-- how long its text is, at most -/
def ln : U → Nat
  | .int _ => 32
  | .str z => 2 * z.length + 2
  | .tup us => lnL us + 2
  | _ => 1
def lnL : List U → Nat
  | [] => 0
  | u :: us => ln u + 1 + lnL us
end
mutual
def dpt : U → Nat
  | .tup us => dptL us + 1
  | _ => 0
def dptL : List U → Nat
  | [] => 0
  | u :: us => max (dpt u) (dptL us)
end
mutual
/-- a thing -/
def pl : U → Prop
  | .non => True
  | .int i => i.natAbs < 10 ^ 30
  | .str z => (TL.tl z).all okW = true
  | .tup us => plL us
  | _ => False
def plL : List U → Prop
  | [] => True
  | u :: us => pl u ∧ plL us
end
theorem lnL_append : ∀ us us' : List U, lnL (us ++ us') = lnL us + lnL us'
  | [], us' => by simp [lnL]
  | u :: us, us' => by simp only [List.cons_append, lnL, lnL_append us us']; omega
theorem dptL_append : ∀ us us' : List U, dptL (us ++ us') = max (dptL us) (dptL us')
  | [], us' => by simp [dptL]
  | u :: us, us' => by simp only [List.cons_append, dptL, dptL_append us us']; omega
theorem plL_append : ∀ {us us' : List U}, plL us → plL us' → plL (us ++ us')
  | [], _, _, h => h
  | _ :: _, _, h, h' => ⟨h.1, plL_append h.2 h'⟩
def fresh (H H' : Hp) : Hp := fun b => match H b with | none => H' b | some _ => none
theorem fr_get {H H' : Hp} {b : Addr} (h : H b = none) : fresh H H' b = H' b := by
  unfold fresh
  rw [h]
theorem fr_new {H H' : Hp} {b : Addr} {o : HO} (h : fresh H H' b = some o) : H b = none ∧ H' b = some o := by
  cases q : H b with
  | none => exact ⟨rfl, by rw [fr_get q] at h; exact h⟩
  | some o' =>
    unfold fresh at h
    rw [q] at h
    cases h
section
variable {C : Addr}
theorem fr_step {wl : WA} {H2 H' H3 : Hp} {D' : Addr} {o0 : HO} {vs : List V} {us : List U} {y : V} {u : U} (W2 : Well H2 wl) (hD : H2 D' = none) (D2 : Drawn wl H2 H') (hL : H' D' = some (.lst vs)) (l : AtL wl.w C (fresh (upd H2 D' o0) H') vs us) (D3 : Drawn wl H' H3) (hy : At wl.w C (fresh H' H3) y u) :
    AtL wl.w C (fresh (upd H2 D' o0) (upd H3 D' (.lst (vs ++ [y])))) (vs ++ [y]) (us ++ [u]) := by
  refine AtL.append (l.keep fun b o _ q => ?_) (.cons (hy.keep fun b o _ q => ?_) .nil)
  · obtain ⟨q1, q2⟩ := fr_new q
    have nb : b ≠ D' := fun e => by rw [e, upd_same] at q1; cases q1
    rw [fr_get q1, upd_ne nb]
    rw [upd_ne nb] at q1
    have nbw : b ≠ wl.w := fun e => by
      obtain ⟨o', ho⟩ := W2.at
      rw [e, ho] at q1
      cases q1
    exact D3.keep b o nbw q2
  · obtain ⟨q1, q2⟩ := fr_new q
    have nb : b ≠ D' := fun e => by rw [e, hL] at q1; cases q1
    have q3 : upd H2 D' o0 b = none := by
      rw [upd_ne nb]
      exact D2.free W2 q1
    rw [fr_get q3, upd_ne nb]
    exact q2
theorem fr_lift {wl : WA} {H H2 H' : Hp} {D' : Addr} {o0 : HO} {vs : List V} {us : List U} (W : Well H wl) (D1 : Drawn wl H H2) (hD : H2 D' = none) (l : AtL wl.w C (fresh (upd H2 D' o0) H') vs us) : AtL wl.w C (fresh H H') vs us :=
  l.keep fun b o _ q => by
    obtain ⟨q1, q2⟩ := fr_new q
    have nb : b ≠ D' := fun e => by rw [e, upd_same] at q1; cases q1
    rw [upd_ne nb] at q1
    rw [fr_get (D1.free W q1)]
    exact q2
theorem fr_same {w : Addr} {H H' H'' : Hp} {vs : List V} {us : List U} (l : AtL w C (fresh H H') vs us) (s : Same H' H'') : AtL w C (fresh H H'') vs us := l.keep fun b o _ q => by
  obtain ⟨q1, q2⟩ := fr_new q
  rw [fr_get q1]
  exact s _ _ q2
end
def Ln : Nat → Nat | 0 => 40 | n + 1 => 3 * (Ln n + 1) + 2
theorem Ln_ge : ∀ n, 40 ≤ Ln n
  | 0 => Nat.le_refl _
  | n + 1 => by have := Ln_ge n; simp only [Ln]; omega
theorem vi_eq {i j : Int} (h : decide (V.int i = V.int j) = true) : i = j := V.int.inj (of_decide_eq_true h)
theorem vi_ne {i j : Int} (h : ¬ decide (V.int i = V.int j) = true) : i ≠ j := fun e => h (decide_eq_true (by rw [e]))
section
variable {P : Program} {w : World} {K : PySem.W.Frag} {mg : Str → Option Value} {base : Heap} {fD : Addr} {dD : FuncData} {C : Addr}
def spThing (C : Addr) (n : Nat) : Sp := fun vs H Q _ => ∃ wl : WA, vs = [.ref wl.w, .int (n : Int)] ∧ Well H wl ∧ ∀ (v : V) (u : U) (H' : Hp), Drawn wl H H' → At wl.w C (fresh H H') v u → pl u → ln u ≤ Ln n → dpt u ≤ n → Q v H'
def spPrev (C : Addr) : Nat → Sp
  | 0 => fun _ _ _ _ => False
  | n + 1 => spThing C n
def smallInts : List V := [.int 0, .int 1, .int (-1), .int 7, .int 10, .int (-205), .int (10 ^ 30 - 1), .int (-10 ^ 30 + 1), .int 99991]
theorem scThing : FnScope ["hand", "deep", "kind", "k"] ["hand", "deep"] (defScope sThing) := ⟨rfl, rfl, rfl, by decide +kernel, rfl, by decide +kernel, by decide +kernel⟩
theorem ints_small : ∀ x ∈ smallInts, ∃ i : Int, x = .int i ∧ i.natAbs < 10 ^ 30 := by
  intro x hx
  simp only [smallInts, List.mem_cons, List.not_mem_nil, or_false] at hx
  rcases hx with rfl | rfl | rfl | rfl | rfl | rfl | rfl | rfl | rfl
  all_goals exact ⟨_, rfl, by decide⟩
theorem ok_thing {f fA fW : Addr} {fd dA dW : FuncData} (DT : Df K mg "_law_thing" sThing ["hand", "deep"] f fd) (B : Bt mg) (D : Dd P w K mg base fD dD) (DA : Df K mg "_law_any" sAny ["hand", "things"] fA dA) (DW : Df K mg "_law_word" sWord ["hand"] fW dW) (n : Nat) (G : FnOk P w K mg base CX0 (3 + n) f fd ["hand", "deep"] (spPrev C n)) :
    FnOk P w K mg base CX0 (3 + n + 1) f fd ["hand", "deep"] (spThing C n) := by
  have GA : FnOk P w K mg base CX0 2 fA dA ["hand", "things"] spAnyL := ok_anyL DA.F B D
  have GW : FnOk P w K mg base CX0 3 fW dW ["hand"] spWord := ok_word DW.F B D DA
  refine DT.F.ok scThing (fun vs H Q E h => ?_) (fun cdv A outer s H vs Q E hr h => ?_)
  · obtain ⟨wl, rfl, _⟩ := h
    rfl
  obtain ⟨wl, rfl, W, k⟩ := h
  have hr3 : Room 3 (A.deeper (envOfC "_law_thing" (defScope sThing) s.heap.objs.size f cdv)) := hr.mono (by omega)
  refine ⟨_, Evl.pss_cut (ps_set (i := 2) scThing.nd rfl (.inl rfl) (pe_draw D hr3 (by decide) (by rfl) (pv 0) (pe_ifExp (pt_cmpR op_gt (pv 1) pe_int (nomark _)) pe_int pe_int)))
    (pss_cons (ps_if (pt_cmpR op_eq (pv 2) pe_int (nomark _)) (pss_one (ps_ret (pe_call GA (hr3.mono (by decide)) (by rfl) DA.g DA.F.kp DA.b .nil pass0 (pa_cons (pv 0) (pa_cons (pe_lst (pa_cons pe_int (pa_cons pe_int (pa_cons (pe_un un_neg pe_int) (pa_cons pe_int (pa_cons pe_int (pa_cons (pe_un un_neg pe_int)
        (pa_cons (pe_op op_sub (pe_op op_pow pe_int pe_int) pe_int) (pa_cons (pe_op op_add (pe_un un_neg (pe_op op_pow pe_int pe_int)) pe_int) (pa_cons pe_int pa_nil)))))))))) pa_nil))))) pss_nil)
    (pss_cons (ps_if (pt_cmpR op_eq (pv 2) pe_int (nomark _)) (pss_one (ps_ret pe_non)) pss_nil)
    (pss_cons (ps_if (pt_cmpR op_lt (pv 2) pe_int (nomark _)) (pss_one (ps_ret (pe_call GW hr3 (by rfl) DW.g DW.F.kp DW.b .nil pass0 (pa_cons (pv 0) pa_nil)))) pss_nil)
    (pss_one (ps_ret (pe_callTy call_tuple_of (by rfl) B.tup (by decide +kernel) (pa_cons (pe_lc (own := [("k", 3)]) (g := gName 3) (tt := tYes) rfl scThing.nd (pi_range1 (by rfl) B.range (pa_cons (pe_draw D hr3 (by decide) (by rfl) (pv 0) pe_int) pa_nil)) (blkOk_by (N := ["hand", "deep", "kind", "k"]) (sc := defScope sThing) (by decide +kernel))
        (fun _ _ _ _ _ => pg_name (i := 3) scThing.nd rfl (Or.inl rfl)) (fun _ _ _ _ _ => pts_nil) (fun _ _ _ _ _ => pe_call G hr (by rfl) DT.g DT.F.kp DT.b .nil pass0 (pa_cons (pv 0) (pa_cons (pe_op op_sub (pv 1) pe_int) pa_nil)))) pa_nil))))))), ?_⟩
  refine ⟨fun σ' H' => ∃ kd : Int, σ' = [some (.ref wl.w), some (.int (n : Int)), some (.int kd), none] ∧ 0 ≤ kd ∧ kd < 6 ∧ (n = 0 → kd < 4) ∧ Drawn wl H H', ?_, ?_⟩
  · refine ⟨_, rfl, _, rfl, _, _, rfl, rfl, _, rfl, ite2 (fun q => ?_) (fun q => ?_)⟩
    · have q1 : (0 : Int) < (n : Int) := of_decide_eq_true q
      exact ⟨wl, 6, rfl, W, by decide, by decide, fun kd H1 k0 k1 D1 => ⟨kd, rfl, k0, k1, fun e => by omega, D1⟩⟩
    · exact ⟨wl, 4, rfl, W, by decide, by decide, fun kd H1 k0 k1 D1 => ⟨kd, rfl, k0, by omega, fun _ => k1, D1⟩⟩
  rintro σ' H1 ⟨kd, rfl, k0, k1, k6, D1⟩
  have hl := Ln_ge n
  refine ⟨_, rfl, rfl, _, rfl, ite2 (fun q => ?_) (fun q0 => ?_)⟩
  · have EV : EvL (tLst (tCons (tC (.int 0)) (tCons (tC (.int 1)) (tCons (tUn (rU fun i => .int (-i)) (tC (.int 1))) (tCons (tC (.int 7)) (tCons (tC (.int 10)) (tCons (tUn (rU fun i => .int (-i)) (tC (.int 205))) (tCons (tOp (rI0 fun i j => .int (i - j)) (tOp (rI CPow fun i j => .int (i ^ j.toNat)) (tC (.int 10)) (tC (.int 30))) (tC (.int 1)))
        (tCons (tOp (rI0 fun i j => .int (i + j)) (tUn (rU fun i => .int (-i)) (tOp (rI CPow fun i j => .int (i ^ j.toNat)) (tC (.int 10)) (tC (.int 30)))) (tC (.int 1))) (tCons (tC (.int 99991)) tNil)))))))))) [some (V.ref wl.w), some (.int (n : Int)), some (.int kd), none] H1 smallInts :=
      el_lst (ea_cons ev_c (ea_cons ev_c (ea_cons (ev_un ev_c ru_neg) (ea_cons ev_c (ea_cons ev_c (ea_cons (ev_un ev_c ru_neg) (ea_cons (ev_op (ev_op ev_c ev_c (rv_I ⟨by decide, by decide, by decide⟩)) ev_c rv_I0) (ea_cons (ev_op (ev_un (ev_op ev_c ev_c (rv_I ⟨by decide, by decide, by decide⟩)) ru_neg) ev_c rv_I0) (ea_cons ev_c ea_nil))))))))) (show (9 : Nat) ≤ 100000 by decide)
    refine ⟨_, rfl, EV H1 (Ex.refl H1) _ fun L H2 hL e2 h2 => ⟨wl, L, smallInts, rfl, D1.well.same e2, h2, (D1.well.ne hL).1, (show 1 ≤ 9 by decide), (show 9 ≤ 1000 by decide), fun x H3 hx D3 => ?_⟩⟩
    obtain ⟨i, rfl, hi⟩ := ints_small x hx
    exact k _ (.int i) H3 ((D1.same e2).trans D3) (.int i) (by simpa only [pl] using hi) (by simp only [ln]; omega) (by simp only [dpt]; omega)
  refine ⟨_, rfl, rfl, _, rfl, ite2 (fun q => ?_) (fun q1 => ?_)⟩
  · exact k _ .non H1 D1 .non (by simp only [pl]) (by simp only [ln]; omega) (by simp only [dpt]; omega)
  refine ⟨_, rfl, _, _, rfl, rfl, _, rfl, ite2 (fun q => ?_) (fun q2 => ?_)⟩
  · exact ⟨_, rfl, wl, rfl, D1.well, fun z H2 hz lz D2 => k (.str z) (.str z) H2 (D1.trans D2) (.str z) (by simpa only [pl] using lz) (by simp only [ln]; omega) (by simp only [dpt]; omega)⟩
  have k4 : ¬ kd < 4 := fun z => q2 (decide_eq_true z)
  obtain ⟨m, rfl⟩ : ∃ m, n = m + 1 := ⟨n - 1, by
    have : n ≠ 0 := fun e => k4 (k6 e)
    omega⟩
  refine ⟨_, rfl, wl, 4, rfl, D1.well, by decide, by decide, fun c H2 c0 c1 D2 => ⟨c, rfl, by omega, by omega, fun D' hD => ?_⟩⟩
  have nD := (D2.well.ne hD).1
  refine lc_range (lo := 0) (n := c.toNat) (fun i H3 => Drawn wl H2 H3 ∧ ∃ (vs : List V) (us : List U), H3 D' = some (.lst vs) ∧ vs.length = i ∧ AtL wl.w C (fresh (upd H2 D' (.lst [])) H3) vs us ∧ plL us ∧ lnL us ≤ i * (Ln m + 1) ∧ dptL us ≤ m)
    ⟨(Drawn.refl D2.well).new hD, [], [], upd_same, rfl, .nil, trivial, by simp [lnL], by simp [dptL]⟩ ?_ ?_
  · rintro i H3 hi ⟨D3, vs, us, hL, hv, ha, hp, hln, hd⟩
    refine ⟨rfl, _, rfl, _, rfl, _, _, rfl, rfl, wl, ?_, D3.well, fun v u H4 D4 hav pu lu du => ⟨vs, D4.keep D' _ nD hL, ?_, (D3.trans D4).put D2.well hD, vs ++ [v], us ++ [u], upd_same, ?_, fr_step D2.well hD D3 hL ha D4 hav, plL_append hp ⟨pu, trivial⟩, ?_, ?_⟩⟩
    · show [V.ref wl.w, .int (((m + 1 : Nat) : Int) - 1)] = [.ref wl.w, .int (m : Int)]
      rw [show ((m + 1 : Nat) : Int) - 1 = (m : Int) by omega]
    · have := big_line
      omega
    · rw [List.length_append, hv]
      rfl
    · rw [lnL_append, show (i + 1) * (Ln m + 1) = i * (Ln m + 1) + (Ln m + 1) by rw [Nat.add_mul, Nat.one_mul]]
      simp only [lnL]
      omega
    · rw [dptL_append]
      simp only [dptL]
      omega
  · rintro H3 ⟨D3, vs, us, hL, hv, ha, hp, hln, hd⟩
    have DD := (D1.trans D2).trans D3
    refine ⟨D', vs, rfl, .inl ⟨SqL.of hL, fun p hp2 => k (.ref p) (.tup us) _ (DD.new hp2) (.tup (xs := vs) ?_ (D3.well.ne hp2).1 (fr_same (fr_lift W (D1.trans D2) hD ha) (same_upd hp2))) (by simpa only [pl] using hp) ?_ ?_⟩⟩
    · rw [fr_get (DD.free W hp2), upd_same]
    · have : c.toNat * (Ln m + 1) ≤ 3 * (Ln m + 1) := Nat.mul_le_mul_right _ (by omega)
      simp only [ln, Ln]
      omega
    · simp only [dpt]
      omega
theorem ok_things {f fA fW : Addr} {fd dA dW : FuncData} (DT : Df K mg "_law_thing" sThing ["hand", "deep"] f fd) (B : Bt mg) (D : Dd P w K mg base fD dD) (DA : Df K mg "_law_any" sAny ["hand", "things"] fA dA) (DW : Df K mg "_law_word" sWord ["hand"] fW dW) : ∀ n : Nat, FnOk P w K mg base CX0 (3 + n + 1) f fd ["hand", "deep"] (spThing C n)
  | 0 => ok_thing DT B D DA DW 0 ⟨fun _ _ _ _ h => h.elim, fun _ _ _ _ _ _ _ _ _ _ _ _ _ h => h.elim⟩
  | n + 1 => ok_thing DT B D DA DW (n + 1) (ok_things DT B D DA DW n)
end
end Ht
namespace Ht
open PySem PySem.Spec PyProof.Rows L2 Hu Evl
section
variable {P : Program} {w : World} {K : PySem.W.Frag} {mg : Str → Option Value} {base : Heap} {fD : Addr} {dD : FuncData} {C : Addr}
theorem ex_at {w' C : Addr} {H H' : Hp} {v : V} {u : U} (e : Ex H H') (h : At w' C H v u) : At w' C H' v u := h.keep fun b o _ q => e b o q
end
end Ht
/-! the text of a thing, as the law makes it -/
namespace Ht
open PySem PySem.Spec PyProof.Rows L2 Hu Evl
def escP (l : List Nat) : List Nat := l.flatMap fun c => if c = 39 ∨ c = 126 then [126, c] else [c]
mutual
/-- the signs of a thing's text -/
def tx : U → List Nat
  | .non => [46]
  | .int i => TL.tl (toString i : Str)
  | .str z => 39 :: (escP (TL.tl z) ++ [39])
  | .tup us => 40 :: (TL.joinL [44] (txs us) ++ [41])
  | _ => []
def txs : List U → List (List Nat)
  | [] => []
  | u :: us => tx u :: txs us
end
theorem escP_len (l : List Nat) : (escP l).length ≤ 2 * l.length := by
  induction l with
  | nil => exact Nat.le_refl _
  | cons c l ih =>
    show ((if c = 39 ∨ c = 126 then [126, c] else [c]) ++ escP l).length ≤ _
    rw [List.length_append, List.length_cons]
    split
    · simp only [List.length_cons, List.length_nil]
      omega
    · simp only [List.length_cons, List.length_nil]
      omega
theorem joinL_len (s : List Nat) : ∀ l : List (List Nat), (TL.joinL s l).length ≤ (l.map (·.length)).sum + s.length * l.length
  | [] => by simp [TL.joinL]
  | [a] => by simp [TL.joinL]
  | a :: b :: r => by
    have ih := joinL_len s (b :: r)
    have e : TL.joinL s (a :: b :: r) = a ++ (s ++ TL.joinL s (b :: r)) := rfl
    rw [e, List.length_append, List.length_append]
    simp only [List.map_cons, List.sum_cons, List.length_cons] at *
    rw [Nat.mul_add]
    omega
section
variable {K : PySem.W.Frag} {σ : L2.St} {H : Hp} {te tl : TE} {C : Addr}
/-- isinstance of a plain thing -/
theorem ev_isiP {T : String} {v : V} {u : U} {w' : Addr} (h : Ev te σ H v) (hat : At w' C H v u) (hp : pl u) (hT : T ∈ ["int", "bool", "str", "tuple"]) : Ev (tCB (L2.rIsi K) (tCons te (tCons (tC (.ty T)) tNil))) σ H (.bl (isT u T)) :=
  ev_cb (ea_cons h (ea_cons ev_c ea_nil)) fun H1 e Q q => by
    have hat1 := ex_at e hat
    cases hat1 with
    | non => exact ⟨_, .ty T, _, .type T, _, rfl, .ty T, .base .non, kit_ty (kit_is (by simp) hT), q H1 (Ex.refl H1)⟩
    | int i => exact ⟨_, .ty T, _, .type T, _, rfl, .ty T, .base (.int i), kit_ty (kit_is (by simp) hT), q H1 (Ex.refl H1)⟩
    | str z => exact ⟨_, .ty T, _, .type T, _, rfl, .ty T, .base (.str z), kit_ty (kit_is (by simp) hT), q H1 (Ex.refl H1)⟩
    | tup h1 _ _ => exact ⟨_, .ty T, _, .type T, _, rfl, .ty T, .base (.tup h1), kit_ty (kit_is (by simp) hT), q H1 (Ex.refl H1)⟩
    | bl b => simp only [pl] at hp
    | lst _ _ _ => simp only [pl] at hp
    | dct _ _ _ _ _ => simp only [pl] at hp
    | exc _ _ _ _ => simp only [pl] at hp

end
end Ht
namespace Ht
open PySem PySem.Spec PyProof.Rows L2 Hu Evl
section
variable {K : PySem.W.Frag} {σ : L2.St} {H : Hp} {te tl : TE} {C w' : Addr} {us : List U} {xs : List V}
/-- [f(c) for c in a string] -/
theorem el_lcS {z : Str} {j : Nat} {vs : List Nat} {g : Nat → V} (h : Ev tl σ H (.str z)) (hz : z.length ≤ 100000) (hw : ∀ x, wipe ((wipe σ vs).set j (some x)) vs = wipe σ vs)
    (he : ∀ c ∈ TL.tl z, Ev te ((wipe σ vs).set j (some (.str ⟨#[c]⟩))) H (g c)) : EvL (tLc (iStr tl) (gName j) tYes te vs) σ H ((TL.tl z).map g) := fun H0 e Q q => h H0 e _ fun H1 e1 => ⟨z, rfl, fun Dl hD =>
  lc_it walk_str (fun i H' => Ex H1 H' ∧ H' Dl = some (.lst (((TL.tl z).take i).map g))) ⟨Ex.new hD, upd_same⟩ (fun _ _ _ _ => True.intro) (fun i x H2 H2' hi p y => by
    obtain ⟨p1, p2⟩ := p
    obtain ⟨rfl, c, hc, rfl⟩ := y
    have hc' : (TL.tl z)[i]? = some c := by
      show z.cps.toList[i]? = some c
      rw [Array.getElem?_toList]
      exact hc
    have hl : i < (TL.tl z).length := (List.getElem?_eq_some_iff.mp hc').1
    refine ⟨hw _, he c (List.mem_of_getElem? hc') H2' ((e.trans e1).trans p1) _ fun H3 e3 => ⟨_, e3 _ _ p2, ?_, fun q o hq => ?_, ?_⟩⟩
    · rw [List.length_map, List.length_take]
      have := big_line
      have hq := TL.len_tl z
      omega
    · rw [upd_ne (ne_of_none hq hD)]
      exact e3 _ _ (p1 _ _ hq)
    · rw [upd_same, List.take_add_one, hc', List.map_append]
      rfl) (fun H' p => q Dl H' (fresh_back e1 (by exact hD)) (e1.trans p.1) (by
        rw [p.2, show z.cps.size = (TL.tl z).length from (TL.len_tl z).symm, List.take_length]))⟩
/-- [f(x) for x in a tuple] -/
theorem el_lcT {a : Addr} {j : Nat} {vs : List Nat} {g : U → V} (h : Ev tl σ H (.ref a)) (hx : H a = some (.tup xs)) (hz : us.length ≤ 100000) (hl : AtL w' C H xs us) (hw : ∀ x, wipe ((wipe σ vs).set j (some x)) vs = wipe σ vs)
    (he : ∀ (x : V) (u : U), u ∈ us → At w' C H x u → Ev te ((wipe σ vs).set j (some x)) H (g u)) : EvL (tLc (iTup K tl) (gName j) tYes te vs) σ H (us.map g) := fun H0 e Q q => h H0 e _ fun H1 e1 => ⟨a, rfl, ⟨xs, st_of ((e.trans e1) _ _ hx)⟩, fun Dl hD =>
  lc_tup (xs := xs) (fun i H' => Ex H1 H' ∧ H' Dl = some (.lst ((us.take i).map g))) ⟨Ex.new hD, upd_same⟩ (fun i H' _ p => st_of (((e.trans e1).trans p.1) _ _ hx)) (fun i x H2 hi p => by
    obtain ⟨p1, p2⟩ := p
    have hlen := AtL.length hl
    have hu : i < us.length := by
      have := (List.getElem?_eq_some_iff.mp hi).1
      omega
    obtain ⟨x', hx', hax⟩ := AtL.get hl (List.getElem?_eq_getElem hu)
    rw [hi] at hx'
    cases hx'
    refine ⟨hw x, he x us[i] (List.getElem_mem hu) hax H2 ((e.trans e1).trans p1) _ fun H3 e3 => ⟨_, e3 _ _ p2, ?_, fun q o hq => ?_, ?_⟩⟩
    · rw [List.length_map, List.length_take]
      have := big_line
      omega
    · rw [upd_ne (ne_of_none hq hD)]
      exact e3 _ _ (p1 _ _ hq)
    · rw [upd_same, List.take_add_one, List.getElem?_eq_getElem hu, List.map_append]
      rfl) (fun H' p => q Dl H' (fresh_back e1 (by exact hD)) (e1.trans p.1) (by rw [p.2, AtL.length hl, List.take_length]))⟩
end
end Ht
namespace Ht
open PySem PySem.Spec PyProof.Rows L2 Hu Evl
theorem tl_mk (l : List Nat) : TL.tl (mkS l) = l := rfl
def txt (u : U) : Str := mkS (tx u)
theorem txs_map : ∀ us : List U, txs us = us.map tx
  | [] => rfl
  | u :: us => by rw [txs, txs_map us]; rfl
mutual
theorem tx_len : ∀ u : U, pl u → (tx u).length ≤ ln u
  | .non, _ => by simp [tx, ln]
  | .int i, h => by
    have hi : i.natAbs < 10 ^ 30 := by simpa only [pl] using h
    have := int_text_length_le10 (a := i) (k := 30) (by decide) hi
    simp only [tx, ln]
    rw [← TL.len_tl, PySem.ofString_length]
    omega
  | .str z, _ => by
    have := escP_len (TL.tl z)
    have e := TL.len_tl z
    simp only [tx, ln, List.length_cons, List.length_append, List.length_nil]
    omega
  | .tup us, h => by
    have h1 := joinL_len [44] (txs us)
    have h2 := txs_len us (by simpa only [pl] using h)
    simp only [tx, ln, List.length_cons, List.length_append, List.length_nil] at *
    omega
  | .bl _, h => by simp only [pl] at h
  | .lst _, h => by simp only [pl] at h
  | .dct _, h => by simp only [pl] at h
  | .exc, h => by simp only [pl] at h
theorem txs_len : ∀ us : List U, plL us → ((txs us).map (·.length)).sum + (txs us).length ≤ lnL us
  | [], _ => by simp [txs]
  | u :: us, h => by
    have h1 := tx_len u h.1
    have h2 := txs_len us h.2
    simp only [txs, lnL, List.map_cons, List.sum_cons, List.length_cons]
    omega
end
theorem ln_mem : ∀ {us : List U} {u : U}, u ∈ us → ln u ≤ lnL us
  | _ :: us, _, .head _ => by simp only [lnL]; omega
  | _ :: us, _, .tail _ h => by have := ln_mem h; simp only [lnL]; omega
theorem dpt_mem : ∀ {us : List U} {u : U}, u ∈ us → dpt u ≤ dptL us
  | _ :: us, _, .head _ => by simp only [dptL]; omega
  | _ :: us, _, .tail _ h => by have := dpt_mem h; simp only [dptL]; omega
theorem pl_mem : ∀ {us : List U} {u : U}, plL us → u ∈ us → pl u
  | _ :: _, _, h, .head _ => h.1
  | _ :: _, _, h, .tail _ q => pl_mem h.2 q
theorem lnL_len : ∀ us : List U, us.length ≤ lnL us
  | [] => Nat.zero_le _
  | u :: us => by have := lnL_len us; simp only [lnL, List.length_cons]; omega
theorem Ln_line {n : Nat} (h : n ≤ 3000000) : n ≤ sizeLine := Nat.le_trans h (by decide)
section
variable {σ : L2.St} {H : Hp} {te to : TE}
theorem ev_join {a : Str} {ys : List Str} (h : Ev to σ H (.str a)) (he : EvL te σ H (ys.map V.str)) (hz : (ys.map (·.length)).sum + ys.length * a.length ≤ 16777216) {K : PySem.W.Frag} :
    Ev (tM1 (fun x xs H Q => ∃ a p, ∃ ys : List Str, x = .str a ∧ xs = [.ref p] ∧ (SqL K H p (ys.map V.str) ∨ SqT K H p (ys.map V.str)) ∧ (ys.map (·.length)).sum + ys.length * a.length ≤ 16777216 ∧ Q (.str (Txt.join a ys)) H) to te) σ H (.str (Txt.join a ys)) := fun H1 e Q q =>
  h H1 e _ fun H2 e2 => ⟨⟨a, rfl⟩, he H2 (e.trans e2) _ fun p H3 hp e3 h3 => ⟨a, p, ys, rfl, rfl, .inl (sq_of h3), hz, q H3 (e2.trans e3)⟩⟩
abbrev rAddZ : R2 := fun x y H Q => ∃ i j : Str, x = .str i ∧ y = .str j ∧ i.length + j.length ≤ sizeLine ∧ Q (.str (i ++ j)) H
theorem rv_addZ {a b : Str} (h : a.length + b.length ≤ 3000000) : RV rAddZ (.str a) (.str b) H (.str (a ++ b)) := fun H1 _ Q q => ⟨a, b, rfl, rfl, Ln_line h, q H1 (Ex.refl H1)⟩
end
section
variable {P : Program} {w : World} {K : PySem.W.Frag} {mg : Str → Option Value} {base : Heap} {C : Addr}
theorem boot_str' : bootBuiltins "str" = some (.type "str") := by decide +kernel
theorem boot_tup' : bootBuiltins "tuple" = some (.type "tuple") := by decide +kernel
theorem boot_isi' : bootBuiltins "isinstance" = some (.builtin "isinstance") := by decide +kernel
theorem s_next {σ : L2.St} {H : Hp} {D : Ends} (h : D.nx σ H) : tNext D σ H := h
theorem q_if {σ : L2.St} {H : Hp} {t : TT} {tu tw tz : TS} {D : Ends} {b : Bool} (h : EvT t σ H b) (h1 : b = true → ∀ H1, Ex H H1 → tu { D with nx := tz D } σ H1) (h2 : b = false → ∀ H1, Ex H H1 → tw { D with nx := tz D } σ H1) : tSeq (tIfS t tu tw) tz D σ H := s_if (D := { D with nx := tz D }) h h1 h2
/-- a sign of a string, as it is written -/
def ch (c : Nat) : Str := if decide (c ∈ ("'~" : Str).cps.toList) = true then ("~" : Str) ++ ⟨#[c]⟩ else ⟨#[c]⟩
theorem ch_tl (c : Nat) : TL.tl (ch c) = if c = 39 ∨ c = 126 then [126, c] else [c] := by
  unfold ch
  have e : decide (c ∈ ("'~" : Str).cps.toList) = decide (c = 39 ∨ c = 126) := by
    rw [show ("'~" : Str).cps.toList = [39, 126] by decide +kernel]
    exact decide_eq_decide.mpr (by simp)
  rw [e]
  by_cases h : c = 39 ∨ c = 126
  · rw [decide_eq_true h, if_pos rfl, if_pos h, TL.tl_append]
    rfl
  · rw [decide_eq_false h, if_neg (by decide), if_neg h]
theorem ch_len (c : Nat) : (ch c).length ≤ 2 := by
  rw [TL.len_tl, ch_tl]
  split <;> simp
theorem esc_tl (l : List Nat) : TL.tl (Txt.join ("" : Str) (l.map ch)) = escP l := by
  rw [join_tl, List.map_map]
  unfold escP
  rw [List.flatMap_def]
  congr 1
  exact List.map_congr_left fun c _ => ch_tl c
theorem str_txt (z : Str) : ("'" : Str) ++ Txt.join ("" : Str) ((TL.tl z).map ch) ++ "'" = txt (.str z) := by
  apply TL.ext_tl
  rw [TL.tl_append, TL.tl_append, esc_tl]
  unfold txt
  rw [tl_mk]
  simp only [tx]
  rw [show TL.tl ("'" : Str) = [39] by decide +kernel]
  rfl
theorem tup_txt (us : List U) : ("(" : Str) ++ Txt.join ("," : Str) (us.map txt) ++ ")" = txt (.tup us) := by
  apply TL.ext_tl
  rw [TL.tl_append, TL.tl_append, TL.join_eq, TL.tl_join]
  unfold txt
  rw [tl_mk]
  simp only [tx]
  rw [show TL.tl ("(" : Str) = [40] by decide +kernel, show TL.tl (")" : Str) = [41] by decide +kernel, show TL.tl ("," : Str) = [44] by decide +kernel, txs_map, List.map_map]
  rfl
theorem sum_ch (l : List Nat) : ((l.map ch).map (·.length)).sum ≤ 2 * l.length := by
  induction l with
  | nil => exact Nat.le_refl _
  | cons c l ih =>
    have := ch_len c
    simp only [List.map_cons, List.sum_cons, List.length_cons] at *
    omega
theorem sum_txt {us : List U} (h : plL us) : ((us.map txt).map (·.length)).sum + us.length ≤ lnL us := by
  have q := txs_len us h
  have e : (us.map txt).map (·.length) = (txs us).map (·.length) := by
    rw [txs_map, List.map_map, List.map_map]
    exact List.map_congr_left fun u _ => by
      show (txt u).length = (tx u).length
      rw [TL.len_tl]
      rfl
  have e2 : (txs us).length = us.length := by rw [txs_map, List.length_map]
  rw [e]
  omega
theorem jn_len : ∀ us : List U, us.length ≤ (TL.joinL [44] (txs us)).length + 1
  | [] => by simp
  | [u] => by simp
  | u :: u1 :: us => by
    have := jn_len (u1 :: us)
    have e : TL.joinL [44] (txs (u :: u1 :: us)) = tx u ++ (44 :: TL.joinL [44] (txs (u1 :: us))) := rfl
    rw [e]
    simp only [List.length_cons, List.length_append] at this ⊢
    omega
theorem us_len (us : List U) : us.length ≤ (tx (.tup us)).length := by
  have := jn_len us
  simp only [tx, List.length_cons, List.length_append, List.length_nil]
  omega
theorem jn_mem : ∀ {us : List U} {u : U}, u ∈ us → (tx u).length ≤ (TL.joinL [44] (txs us)).length
  | [v], u, h => by
    rw [List.mem_singleton] at h
    subst h
    exact Nat.le_refl _
  | v :: u1 :: us, u, h => by
    have e : TL.joinL [44] (txs (v :: u1 :: us)) = tx v ++ (44 :: TL.joinL [44] (txs (u1 :: us))) := rfl
    rw [e]
    simp only [List.length_cons, List.length_append]
    rcases List.mem_cons.mp h with h | h
    · subst h
      omega
    · have := jn_mem h
      omega
theorem tx_mem {us : List U} {u : U} (h : u ∈ us) : (tx u).length ≤ (tx (.tup us)).length := by
  have := jn_mem h
  simp only [tx, List.length_cons, List.length_append, List.length_nil]
  omega
theorem z_len (z : Str) : z.length ≤ (tx (.str z)).length := by
  have h : ∀ l : List Nat, l.length ≤ (escP l).length := fun l => by
    induction l with
    | nil => exact Nat.le_refl _
    | cons c l ih =>
      have e : escP (c :: l) = escP [c] ++ escP l := by simp [escP]
      rw [e, List.length_append, List.length_cons]
      have h1 : 1 ≤ (escP [c]).length := by
        by_cases q : c ∈ ("'~" : Str).cps.toList
        · simp [escP, q]
          try split <;> simp
        · simp [escP, q]
          try split <;> simp
      omega
  have := h (TL.tl z)
  rw [TL.len_tl]
  simp only [tx, List.length_cons, List.length_append, List.length_nil]
  omega
def spPacked (C : Addr) (n : Nat) : Sp := fun vs H Q _ => ∃ (v : V) (u : U) (w' : Addr), vs = [v] ∧ At w' C H v u ∧ pl u ∧ ln u ≤ 1600000 ∧ (tx u).length ≤ 90000 ∧ dpt u < n ∧ ∀ H', Same H H' → Q (.str (txt u)) H'
end
end Ht
/-! the program's flags of a plain thing -/
namespace Ht
open PySem PySem.Spec PyProof.Rows L2 Hu Evl
abbrev sIsInt : Stmt := topS 10
abbrev sIsSigns : Stmt := topS 13
theorem lt1 (a b : Nat) : decide (([a] : List Nat) < [b]) = decide (a < b) := by
  by_cases h : a < b
  · rw [decide_eq_true h]
    exact decide_eq_true (List.cons_lt_cons_iff.mpr (.inl h))
  · rw [decide_eq_false h]
    refine decide_eq_false fun q => ?_
    rcases List.cons_lt_cons_iff.mp q with q | ⟨_, q⟩
    · exact h q
    · exact absurd q (List.not_lt_nil _)
theorem not_lt1 (a b : Nat) : (!decide (([b] : List Nat) < [a])) = decide (a ≤ b) := by
  rw [lt1]
  by_cases h : b < a
  · rw [decide_eq_true h, decide_eq_false (by omega)]
    rfl
  · rw [decide_eq_false h, decide_eq_true (by omega)]
    rfl
section
variable {K : PySem.W.Frag} {σ : L2.St} {H : Hp} {ta tb tc te tl : TE} {r r' : R2} {x y z v : V}
theorem ev_chain {a b : Bool} (ha : Ev ta σ H x) (hb : Ev tb σ H y) (hc : Ev tc σ H z) (h1 : RV r x y H (.bl a)) (h2 : a = true → RV r' y z H (.bl b)) : Ev (tChain r r' ta tb tc) σ H (.bl (a && b)) := fun H1 e Q q =>
  ha H1 e _ fun H2 e2 => hb H2 (e.trans e2) _ fun H3 e3 => h1 H3 ((e.trans e2).trans e3) _ fun H4 e4 => ⟨a, rfl, by
    cases a with
    | false => exact q H4 ((e2.trans e3).trans e4)
    | true => exact hc H4 (((e.trans e2).trans e3).trans e4) _ fun H5 e5 => h2 rfl H5 ((((e.trans e2).trans e3).trans e4).trans e5) _ fun H6 e6 => q H6 ((((e2.trans e3).trans e4).trans e5).trans e6)⟩
abbrev rLeS : R2 := fun x y H Q => ∃ i j : Str, x = .str i ∧ y = .str j ∧ Q (.bl (!decide (j.cps.toList < i.cps.toList))) H
theorem rv_leS {a b : Nat} {H : Hp} : RV rLeS (.str ⟨#[a]⟩) (.str ⟨#[b]⟩) H (.bl (decide (a ≤ b))) := fun H1 _ Q q => ⟨_, _, rfl, rfl, by
  show Q (.bl (!decide (([b] : List Nat) < [a]))) H1
  rw [not_lt1]
  exact q H1 (Ex.refl H1)⟩
theorem ev_allL {xs : List Bool} (h : EvL te σ H (xs.map V.bl)) : Ev (tCB (rAll K) (tCons te tNil)) σ H (.bl (xs.all id)) := fun H1 e Q q =>
  h H1 e _ fun p H2 hp e2 h2 => ⟨p, xs, rfl, sq_of h2, q H2 e2⟩
end
section
variable {P : Program} {w : World} {K : PySem.W.Frag} {mg : Str → Option Value} {base : Heap} {C : Addr}
theorem boot_int' : bootBuiltins "int" = some (.type "int") := by decide +kernel
theorem boot_bool' : bootBuiltins "bool" = some (.type "bool") := by decide +kernel
theorem boot_all' : bootBuiltins "all" = some (.builtin "all") := by decide +kernel
def intU (u : U) : Bool := match u with | .int _ => true | _ => false
def spJ (C : Addr) (g : U → Bool) : Sp := fun vs H Q _ => ∃ (v : V) (u : U) (w' : Addr), vs = [v] ∧ At w' C H v u ∧ pl u ∧ ln u ≤ 50000 ∧ ∀ H', Same H H' → Q (.bl (g u)) H'
theorem scIsInt : FnScope ["thing"] ["thing"] (defScope sIsInt) := ⟨rfl, rfl, rfl, by decide +kernel, rfl, by decide +kernel, by decide +kernel⟩
theorem ok_isInt {f : Addr} {fd : FuncData} (F : Fun K "is_integer" "is_integer" sIsInt f fd) (B : Bt mg) : FnOk P w K mg base CX0 1 f fd ["thing"] (spJ C intU) := by
  refine F.ok scIsInt (fun vs H Q E h => ?_) (fun cdv A outer s H vs Q E hr h => ?_)
  · obtain ⟨v, u, w', rfl, _⟩ := h
    rfl
  obtain ⟨v, u, w', rfl, hat, pu, lu, k⟩ := h
  refine ⟨_, pss_one (ps_ret (pe_and (pe_callB call_isi (by rfl) B.isi boot_isi' (pa_cons (pv 0) (pa_cons (pe_bltn (by rfl) B.int boot_int' (show RelV (.ty "int") (.type "int") from rfl)) pa_nil)))
    (pe_one (pe_not (pe_callB call_isi (by rfl) B.isi boot_isi' (pa_cons (pv 0) (pa_cons (pe_bltn (by rfl) B.boo boot_bool' (show RelV (.ty "bool") (.type "bool") from rfl)) pa_nil))))))), ?_⟩
  refine s_ret (ev_andV (ev_isiP (ev_var rfl) hat pu (by decide)) fun _ => ev_notV (ev_isiP (ev_var rfl) hat pu (by decide))) fun H1 e => ?_
  have e2 : (isT u "int" && !isT u "bool") = intU u := by cases u <;> simp [isT, isS, tyU, intU]
  rw [e2]
  exact k H1 e
def strU (u : U) : Bool := match u with | .str _ => true | _ => false
theorem scIsSigns : FnScope ["thing", "sign"] ["thing"] (defScope sIsSigns) := ⟨rfl, rfl, rfl, by decide +kernel, rfl, by decide +kernel, by decide +kernel⟩
theorem ok_isSigns {f : Addr} {fd : FuncData} (F : Fun K "is_signs" "is_signs" sIsSigns f fd) (B : Bt mg) : FnOk P w K mg base CX0 1 f fd ["thing"] (spJ C strU) := by
  refine F.ok scIsSigns (fun vs H Q E h => ?_) (fun cdv A outer s H vs Q E hr h => ?_)
  · obtain ⟨v, u, w', rfl, _⟩ := h
    rfl
  obtain ⟨v, u, w', rfl, hat, pu, lu, k⟩ := h
  refine ⟨_, pss_one (ps_ret (pe_and (pe_callB call_isi (by rfl) B.isi boot_isi' (pa_cons (pv 0) (pa_cons (pe_bltn (by rfl) B.str boot_str' (show RelV (.ty "str") (.type "str") from rfl)) pa_nil)))
    (pe_one (pe_callB (cr_all rfl) (by rfl) B.all boot_all' (pa_cons (pe_lc (own := [("sign", 1)]) (g := gName 1) (tt := tYes) rfl scIsSigns.nd (pi_str (pv 0)) (blkOk_by (N := ["thing", "sign"]) (sc := defScope sIsSigns) (by decide +kernel))
      (fun _ _ _ _ _ => pg_name (i := 1) scIsSigns.nd rfl (Or.inl rfl)) (fun _ _ _ _ _ => pts_nil) (fun _ _ _ _ _ => pe_chain op_le_str op_le_str pe_str (pv 1) pe_str)) pa_nil))))), ?_⟩
  refine s_ret (ev_andV (b := strU u) (ev_isiP (ev_var rfl) hat pu (by decide)) fun q => ?_) fun H1 e => ?_
  · cases u with
    | str z =>
      cases hat
      simp only [ln] at lu
      have hz : (TL.tl z).all okW = true := by simpa only [pl] using pu
      have EL : EvL (tLc (iStr (tVar 0)) (gName 1) tYes (tChain rLeS rLeS (tC (.str " ")) (tVar 1) (tC (.str "~"))) [1]) [some (V.str z), none] H (((TL.tl z).map okW).map V.bl) := by
        rw [List.map_map]
        exact el_lcS (j := 1) (vs := [1]) (g := fun c => .bl (okW c)) (ev_var rfl) (by omega) (fun _ => rfl) fun c _ => ev_chain ev_c (ev_var rfl) ev_c rv_leS fun _ => rv_leS
      refine ev_is (ev_allL (K := K) EL) ?_
      congr 1
      show ((TL.tl z).map okW).all id = true
      rw [List.all_map]
      exact hz
    | _ => simp [isT, isS, tyU] at q
  · have e2 : (isT u "str" && strU u) = strU u := by cases u <;> simp [isT, isS, tyU, strU]
    rw [e2]
    exact k H1 e
end
end Ht
namespace Ht
open PySem PySem.Spec PyProof.Rows L2 Hu Evl
section
variable {P : Program} {w : World} {K : PySem.W.Frag} {mg : Str → Option Value} {base : Heap} {C : Addr}
theorem all_true {us : List U} : (us.map fun _ => true).all id = true := by
  induction us with
  | nil => rfl
  | cons u us ih => rw [List.map_cons, List.all_cons, ih]; rfl
end
end Ht
/-! the two .replace of the program make the escape -/
namespace Ht
open PySem L2 PySem.StrLaws
theorem repl1 (a : Nat) (z : List Nat) : ∀ l : List Nat, replL [a] z l = l.flatMap fun c => if c = a then z else [c]
  | [] => by rw [replL_nil]; rfl
  | c :: l => by
    by_cases h : c = a
    · have e : (c :: l).take ([a] : List Nat).length = [a] := by simp [h]
      rw [replL_hit (by simp) e, List.flatMap_cons, if_pos h]
      show z ++ replL [a] z l = _
      rw [repl1 a z l]
    · have e : ¬ (c :: l).take ([a] : List Nat).length = [a] := by simp [h]
      rw [replL_miss e, List.flatMap_cons, if_neg h, repl1 a z l]
      rfl
theorem repl_esc (l : List Nat) : replL [39] [126, 39] (replL [126] [126, 126] l) = escP l := by
  rw [repl1, repl1]
  induction l with
  | nil => rfl
  | cons c l ih =>
    rw [List.flatMap_cons, List.flatMap_append, ih]
    show _ = (if c = 39 ∨ c = 126 then [126, c] else [c]) ++ escP l
    congr 1
    by_cases h : c = 126
    · subst h
      rfl
    · rw [if_neg h]
      by_cases h2 : c = 39
      · subst h2
        rfl
      · rw [if_neg (by omega)]
        simp [h2]
theorem repl_str (z : Str) : TL.tl (Txt.replace (Txt.replace z "~" "~~") "'" "~'") = escP (TL.tl z) := by
  have l1 : 1 ≤ (("'" : Str)).length := by decide +kernel
  have l2 : 1 ≤ (("~" : Str)).length := by decide +kernel
  show (Txt.replace (Txt.replace z "~" "~~") "'" "~'").cps.toList = _
  rw [replace_list l1, replace_list l2, show ("'" : Str).cps.toList = [39] by decide +kernel, show ("~'" : Str).cps.toList = [126, 39] by decide +kernel, show ("~" : Str).cps.toList = [126] by decide +kernel, show ("~~" : Str).cps.toList = [126, 126] by decide +kernel]
  exact repl_esc _
end Ht
/-! the program's _text_of, and packed -/
namespace Ht
open PySem PySem.Spec PyProof.Rows L2 Hu Evl
section
variable {σ : L2.St} {H : Hp} {te to : TE}
theorem ev_repl {x y z : Str} (h : Ev to σ H (.str x)) (hz : x.length + (x.length + 1) * z.length ≤ 16777216) : Ev (CwR.tReplC to y z) σ H (.str (Txt.replace x y z)) := fun H1 e Q q =>
  h H1 e _ fun H2 e2 => ⟨x, rfl, hz, q H2 e2⟩
end
theorem str_txtP (z : Str) : ("'" : Str) ++ Txt.replace (Txt.replace z "~" "~~") "'" "~'" ++ "'" = txt (.str z) := by
  apply TL.ext_tl
  rw [TL.tl_append, TL.tl_append, repl_str]
  unfold txt
  rw [tl_mk]
  simp only [tx]
  rw [show TL.tl ("'" : Str) = [39] by decide +kernel]
  rfl
section
variable {P : Program} {w : World} {K : PySem.W.Frag} {mg : Str → Option Value} {base : Heap} {C : Addr}
end
end Ht
/-! flags of any thing: what it is, as far as the program looks -/
namespace Ht
open PySem PySem.Spec PyProof.Rows L2 Hu Evl
mutual
inductive Od (H : Hp) : V → U → Prop
  | non : Od H .non .non
  | bl (b : Bool) : Od H (.bl b) (.bl b)
  | int (i : Int) : Od H (.int i) (.int i)
  | str (z : Str) : Od H (.str z) (.str z)
  | tup {a : Addr} {xs : List V} {us : List U} : H a = some (.tup xs) → OdL H xs us → Od H (.ref a) (.tup us)
  | lst {a : Addr} {xs : List V} : H a = some (.lst xs) → Od H (.ref a) (.lst [])
  | dct {a : Addr} {kvs : List (Key × V)} : H a = some (.dK kvs) → Od H (.ref a) (.dct [])
inductive OdL (H : Hp) : List V → List U → Prop
  | nil : OdL H [] []
  | cons {v : V} {u : U} {vs : List V} {us : List U} : Od H v u → OdL H vs us → OdL H (v :: vs) (u :: us)
end
section
variable {H H' : Hp}
mutual
theorem Od.ex (k : Ex H H') : ∀ {u : U} {v : V}, Od H v u → Od H' v u
  | _, _, .non => .non
  | _, _, .bl b => .bl b
  | _, _, .int i => .int i
  | _, _, .str z => .str z
  | _, _, .tup h l => .tup (k _ _ h) (OdL.ex k l)
  | _, _, .lst h => .lst (k _ _ h)
  | _, _, .dct h => .dct (k _ _ h)
theorem OdL.ex (k : Ex H H') : ∀ {us : List U} {vs : List V}, OdL H vs us → OdL H' vs us
  | _, _, .nil => .nil
  | _, _, .cons x l => .cons (x.ex k) (OdL.ex k l)
end
theorem OdL.length : ∀ {us : List U} {vs : List V}, OdL H vs us → vs.length = us.length
  | _, _, .nil => rfl
  | _, _, .cons x l => by rw [List.length_cons, List.length_cons, OdL.length l]
theorem OdL.get : ∀ {us : List U} {vs : List V} {i : Nat} {u : U}, OdL H vs us → us[i]? = some u → ∃ v, vs[i]? = some v ∧ Od H v u
  | _, _, _, _, .nil, e => by simp at e
  | _, _, 0, _, .cons x l, e => by
    have := Option.some.inj e
    subst this
    exact ⟨_, rfl, x⟩
  | _, _, i + 1, _, .cons x l, e => OdL.get (i := i) l e
variable {w C : Addr}
mutual
theorem od_at : ∀ {u : U} {v : V}, At w C H v u → pl u → Od H v u
  | _, _, .non, _ => .non
  | _, _, .bl b, _ => .bl b
  | _, _, .int i, _ => .int i
  | _, _, .str z, _ => .str z
  | _, _, .tup h _ l, p => .tup h (odl_at l (by simpa only [pl] using p))
  | _, _, .lst _ _ _, p => by simp only [pl] at p
  | _, _, .dct _ _ _ _ _, p => by simp only [pl] at p
  | _, _, .exc _ _ _ _, p => by simp only [pl] at p
theorem odl_at : ∀ {us : List U} {vs : List V}, AtL w C H vs us → plL us → OdL H vs us
  | _, _, .nil, _ => .nil
  | _, _, .cons x l, p => .cons (od_at x p.1) (odl_at l p.2)
end
end
/-- is_thing -/
def thB : Nat → U → Bool
  | 0, .tup _ => false
  | n + 1, .tup us => us.all (thB n)
  | _, .str z => (TL.tl z).all okW
  | _, .non => true
  | _, .int i => decide (-(10 ^ 30) < i) && decide (i < 10 ^ 30)
  | _, _ => false
mutual
theorem thB_pl : ∀ {u : U} {n : Nat}, pl u → dpt u ≤ n → thB n u = true
  | .non, n, _, _ => by cases n <;> rfl
  | .int i, n, h, _ => by
    have hi : i.natAbs < 10 ^ 30 := by simpa only [pl] using h
    have e : thB n (.int i) = (decide (-(10 ^ 30) < i) && decide (i < 10 ^ 30)) := by cases n <;> rfl
    rw [e, decide_eq_true (by omega), decide_eq_true (by omega)]
    rfl
  | .str z, n, h, _ => by
    have e : thB n (.str z) = (TL.tl z).all okW := by cases n <;> rfl
    rw [e]
    simpa only [pl] using h
  | .tup us, 0, _, h => by simp only [dpt] at h; omega
  | .tup us, n + 1, p, h => by
    show us.all (thB n) = true
    exact thB_plL (by simpa only [pl] using p) (by simp only [dpt] at h; omega)
  | .bl _, _, h, _ => by simp only [pl] at h
  | .lst _, _, h, _ => by simp only [pl] at h
  | .dct _, _, h, _ => by simp only [pl] at h
  | .exc, _, h, _ => by simp only [pl] at h
theorem thB_plL : ∀ {us : List U} {n : Nat}, plL us → dptL us ≤ n → us.all (thB n) = true
  | [], _, _, _ => rfl
  | u :: us, n, p, h => by
    simp only [dptL] at h
    rw [List.all_cons, thB_pl p.1 (by omega), thB_plL p.2 (by omega)]
    rfl
end
mutual
/-- no long list in it -/
def brd : U → Prop
  | .tup us => us.length ≤ 90000 ∧ brdL us
  | .str z => z.length ≤ 90000
  | _ => True
def brdL : List U → Prop
  | [] => True
  | u :: us => brd u ∧ brdL us
end
theorem brd_mem : ∀ {us : List U} {u : U}, brdL us → u ∈ us → brd u
  | _ :: _, _, h, .head _ => h.1
  | _ :: _, _, h, .tail _ q => brd_mem h.2 q
mutual
theorem brd_ln : ∀ {u : U}, ln u ≤ 90000 → brd u
  | .tup us, h => by
    simp only [ln] at h
    have := lnL_len us
    simp only [brd]
    exact ⟨by omega, brdL_ln (by omega)⟩
  | .str z, h => by
    simp only [ln] at h
    simp only [brd]
    omega
  | .non, _ => trivial
  | .bl _, _ => trivial
  | .int _, _ => trivial
  | .lst _, _ => trivial
  | .dct _, _ => trivial
  | .exc, _ => trivial
theorem brdL_ln : ∀ {us : List U}, lnL us ≤ 90000 → brdL us
  | [], _ => trivial
  | u :: us, h => by
    simp only [lnL] at h
    exact ⟨brd_ln (by omega), brdL_ln (by omega)⟩
end
section
variable {K : PySem.W.Frag} {σ : L2.St} {H : Hp} {te tl : TE} {us : List U} {xs : List V}
theorem ev_isiO {T : String} {v : V} {u : U} (h : Ev te σ H v) (hat : Od H v u) (hT : T ∈ ["int", "bool", "str", "tuple"]) : Ev (tCB (L2.rIsi K) (tCons te (tCons (tC (.ty T)) tNil))) σ H (.bl (isT u T)) :=
  ev_cb (ea_cons h (ea_cons ev_c ea_nil)) fun H1 e Q q => by
    have hat1 := hat.ex e
    cases hat1 with
    | non => exact ⟨_, .ty T, _, .type T, _, rfl, .ty T, .base .non, kit_ty (kit_is (by simp) hT), q H1 (Ex.refl H1)⟩
    | int i => exact ⟨_, .ty T, _, .type T, _, rfl, .ty T, .base (.int i), kit_ty (kit_is (by simp) hT), q H1 (Ex.refl H1)⟩
    | bl i => exact ⟨_, .ty T, _, .type T, _, rfl, .ty T, .base (.bl i), kit_ty (kit_is (by simp) hT), q H1 (Ex.refl H1)⟩
    | str z => exact ⟨_, .ty T, _, .type T, _, rfl, .ty T, .base (.str z), kit_ty (kit_is (by simp) hT), q H1 (Ex.refl H1)⟩
    | tup h1 _ => exact ⟨_, .ty T, _, .type T, _, rfl, .ty T, .base (.tup h1), kit_ty (kit_is (by simp) hT), q H1 (Ex.refl H1)⟩
    | lst h1 => exact ⟨_, .ty T, _, .type T, _, rfl, .ty T, .base (.lst h1), kit_ty (kit_is (by simp) hT), q H1 (Ex.refl H1)⟩
    | dct h1 => exact ⟨_, .ty T, _, .type T, _, rfl, .ty T, .base (.dK h1), kit_ty (kit_is (by simp) hT), q H1 (Ex.refl H1)⟩
/-- [f(x) for x in a tuple] -/
theorem el_lcO {a : Addr} {j : Nat} {vs : List Nat} {g : U → V} (h : Ev tl σ H (.ref a)) (hx : H a = some (.tup xs)) (hz : us.length ≤ 100000) (hl : OdL H xs us) (hw : ∀ x, wipe ((wipe σ vs).set j (some x)) vs = wipe σ vs)
    (he : ∀ (x : V) (u : U), u ∈ us → Od H x u → Ev te ((wipe σ vs).set j (some x)) H (g u)) : EvL (tLc (iTup K tl) (gName j) tYes te vs) σ H (us.map g) := fun H0 e Q q => h H0 e _ fun H1 e1 => ⟨a, rfl, ⟨xs, st_of ((e.trans e1) _ _ hx)⟩, fun Dl hD =>
  lc_tup (xs := xs) (fun i H' => Ex H1 H' ∧ H' Dl = some (.lst ((us.take i).map g))) ⟨Ex.new hD, upd_same⟩ (fun i H' _ p => st_of (((e.trans e1).trans p.1) _ _ hx)) (fun i x H2 hi p => by
    obtain ⟨p1, p2⟩ := p
    have hlen := OdL.length hl
    have hu : i < us.length := by
      have := (List.getElem?_eq_some_iff.mp hi).1
      omega
    obtain ⟨x', hx', hax⟩ := OdL.get hl (List.getElem?_eq_getElem hu)
    rw [hi] at hx'
    cases hx'
    refine ⟨hw x, he x us[i] (List.getElem_mem hu) hax H2 ((e.trans e1).trans p1) _ fun H3 e3 => ⟨_, e3 _ _ p2, ?_, fun q o hq => ?_, ?_⟩⟩
    · rw [List.length_map, List.length_take]
      have := big_line
      omega
    · rw [upd_ne (ne_of_none hq hD)]
      exact e3 _ _ (p1 _ _ hq)
    · rw [upd_same, List.take_add_one, List.getElem?_eq_getElem hu, List.map_append]
      rfl) (fun H' p => q Dl H' (fresh_back e1 (by exact hD)) (e1.trans p.1) (by rw [p.2, OdL.length hl, List.take_length]))⟩
end
section
variable {P : Program} {w : World} {K : PySem.W.Frag} {mg : Str → Option Value} {base : Heap}
def spO (g : U → Bool) : Sp := fun vs H Q _ => ∃ (v : V) (u : U), vs = [v] ∧ Od H v u ∧ brd u ∧ ∀ H', Same H H' → Q (.bl (g u)) H'
def sgU (u : U) : Bool := match u with | .str z => (TL.tl z).all okW | _ => false
theorem ok_isIntO {f : Addr} {fd : FuncData} (F : Fun K "is_integer" "is_integer" sIsInt f fd) (B : Bt mg) : FnOk P w K mg base CX0 1 f fd ["thing"] (spO intU) := by
  refine F.ok scIsInt (fun vs H Q E h => ?_) (fun cdv A outer s H vs Q E hr h => ?_)
  · obtain ⟨v, u, rfl, _⟩ := h
    rfl
  obtain ⟨v, u, rfl, hat, bu, k⟩ := h
  refine ⟨_, pss_one (ps_ret (pe_and (pe_callB call_isi (by rfl) B.isi boot_isi' (pa_cons (pv 0) (pa_cons (pe_bltn (by rfl) B.int boot_int' (show RelV (.ty "int") (.type "int") from rfl)) pa_nil)))
    (pe_one (pe_not (pe_callB call_isi (by rfl) B.isi boot_isi' (pa_cons (pv 0) (pa_cons (pe_bltn (by rfl) B.boo boot_bool' (show RelV (.ty "bool") (.type "bool") from rfl)) pa_nil))))))), ?_⟩
  refine s_ret (ev_andV (ev_isiO (ev_var rfl) hat (by decide)) fun _ => ev_notV (ev_isiO (ev_var rfl) hat (by decide))) fun H1 e => ?_
  have e2 : (isT u "int" && !isT u "bool") = intU u := by cases hat <;> simp [isT, isS, tyU, intU]
  rw [e2]
  exact k H1 e
theorem ok_isSignsO {f : Addr} {fd : FuncData} (F : Fun K "is_signs" "is_signs" sIsSigns f fd) (B : Bt mg) : FnOk P w K mg base CX0 1 f fd ["thing"] (spO sgU) := by
  refine F.ok scIsSigns (fun vs H Q E h => ?_) (fun cdv A outer s H vs Q E hr h => ?_)
  · obtain ⟨v, u, rfl, _⟩ := h
    rfl
  obtain ⟨v, u, rfl, hat, bu, k⟩ := h
  refine ⟨_, pss_one (ps_ret (pe_and (pe_callB call_isi (by rfl) B.isi boot_isi' (pa_cons (pv 0) (pa_cons (pe_bltn (by rfl) B.str boot_str' (show RelV (.ty "str") (.type "str") from rfl)) pa_nil)))
    (pe_one (pe_callB (cr_all rfl) (by rfl) B.all boot_all' (pa_cons (pe_lc (own := [("sign", 1)]) (g := gName 1) (tt := tYes) rfl scIsSigns.nd (pi_str (pv 0)) (blkOk_by (N := ["thing", "sign"]) (sc := defScope sIsSigns) (by decide +kernel))
      (fun _ _ _ _ _ => pg_name (i := 1) scIsSigns.nd rfl (Or.inl rfl)) (fun _ _ _ _ _ => pts_nil) (fun _ _ _ _ _ => pe_chain op_le_str op_le_str pe_str (pv 1) pe_str)) pa_nil))))), ?_⟩
  refine s_ret (ev_andV (b := sgU u) (ev_isiO (ev_var rfl) hat (by decide)) fun q => ?_) fun H1 e => ?_
  · cases u with
    | str z =>
      cases hat
      simp only [brd] at bu
      have hlz := TL.len_tl z
      have EL : EvL (tLc (iStr (tVar 0)) (gName 1) tYes (tChain rLeS rLeS (tC (.str " ")) (tVar 1) (tC (.str "~"))) [1]) [some (V.str z), none] H (((TL.tl z).map okW).map V.bl) := by
        rw [List.map_map]
        exact el_lcS (j := 1) (vs := [1]) (g := fun c => .bl (okW c)) (ev_var rfl) (by omega) (fun _ => rfl) fun c _ => ev_chain ev_c (ev_var rfl) ev_c rv_leS fun _ => rv_leS
      refine ev_is (ev_allL (K := K) EL) ?_
      congr 1
      show ((TL.tl z).map okW).all id = (TL.tl z).all okW
      rw [List.all_map]
      rfl
    | _ => simp [isT, isS, tyU] at q
  · have e2 : (isT u "str" && sgU u) = sgU u := by cases u <;> simp [isT, isS, tyU, sgU]
    rw [e2]
    exact k H1 e
end
end Ht
set_option maxHeartbeats 2000000
/-! a try with several clauses, the first one «as n», which catches all that the body raises -/
namespace Tr
open PySem PySem.Spec PyProof.Rows L2
section
variable {X : Cx} {n : Str} {i : Nat} {a : Addr} {pins : List (Addr × Obj)} {D : Ends} {pos' : Pos}
/-- the suite's ends, with n let go -/
def ends (D : Ends) (i : Nat) : Ends := { nx := fun σ' H' => D.nx (σ'.set i none) H', rt := D.rt, bk := fun σ' H' => D.bk (σ'.set i none) H', ct := fun σ' H' => D.ct (σ'.set i none) H' }
theorem after_suite {e : Addr × Obj} (ok : X.Ok) (nd : X.N.Nodup) (at_i : X.N[i]? = some n) (loc : X.env.kindOf n = some .local) (he : e.1 = a) {fl : Flow} {t : Shared} (h : SP (X.suite a (e :: (X.pn ++ pins))) [] (ends D i) fl t) :
    wpAny (model X.prog X.w) X.A (do bindName X.env n .none; unbindBehindTheSuite X.env n pos') (fun _ u => SP X pins D fl u) X.xe t := by
  obtain ⟨b, o⟩ := e
  cases he
  match fl, h with
  | .next, h => exact Exists.elim h fun τ h => Exists.elim h fun G h => gone_ok (h.1.unsuite ok) nd at_i loc fun u J => ⟨_, _, J, h.2⟩
  | .brk, h => exact Exists.elim h fun τ h => Exists.elim h fun G h => gone_ok (h.1.unsuite ok) nd at_i loc fun u J => ⟨_, _, J, h.2⟩
  | .cont, h => exact Exists.elim h fun τ h => Exists.elim h fun G h => gone_ok (h.1.unsuite ok) nd at_i loc fun u J => ⟨_, _, J, h.2⟩
  | .ret v, h => exact Exists.elim h fun y h => Exists.elim h fun τ h => Exists.elim h fun G h => gone_ok (h.1.unsuite ok) nd at_i loc fun u J => ⟨_, _, _, J, h.2.1, h.2.2⟩
theorem untried (ok : X.Ok) {xe : Value → Shared → Prop} {fl : Flow} {t : Shared} (h : SP (X.tr (X.pn ++ pins) xe) [] D fl t) : SP X pins D fl t := by
  match fl, h with
  | .next, ⟨τ, G, J, q⟩ => exact ⟨τ, G, J.ofTry ok, q⟩
  | .brk, ⟨τ, G, J, q⟩ => exact ⟨τ, G, J.ofTry ok, q⟩
  | .cont, ⟨τ, G, J, q⟩ => exact ⟨τ, G, J.ofTry ok, q⟩
  | .ret v, ⟨y, τ, G, J, r, q⟩ => exact ⟨y, τ, G, J.ofTry ok, r, q⟩
variable {body suite : List Stmt} {b₀ : Stmt} {np pos : Pos} {x : Str} {c : Value} {hds : List ExceptHandler} {tb : WX → TS} {ts : Addr → Value → Option Addr → TS}
/-- the exception has landed in this frame: the first clause is asked, and takes it -/
theorem first_takes (ok : X.Ok) (stk : X.stack = X.env :: X.outer) (fr : X.env.frame = some X.env.locals) (nd : X.N.Nodup) (at_i : X.N[i]? = some n) (loc : X.env.kindOf n = some .local) (nm : Names X x c)
    (hsu : ∀ (a : Addr) (oe : Obj) (cls : Value) (d : Option Addr) (pn : List (Addr × Obj)), Zc cls d oe → (∃ vs, oe.data = .fields vs) → PSs (X.suite a ((a, oe) :: pn)) (b₀ :: suite) (ts a cls d))
    {B h3 : Heap} {sI s' : Shared} {σ : L2.St} {H : Hp} {cls : Value} {d : Option Addr} (J : Inv X pins σ H sI) (up : ∀ hh, HandSPX.FlyingZ B (X.env :: X.outer) a (Zc cls d) hh → s'.heap.UpToSlots hh → Inv X pins σ H { s' with heap := hh })
    (fly : HandSPX.FlyingZ B (X.env :: X.outer) a (Zc cls d) h3) (up3 : s'.heap.UpToSlots h3) (na : H a = none) (yes : PySem.W.exmOne X.K cls c = some true) (go : ts a cls d (ends D i) (σ.set i (some (.ref a))) H) :
    wpAny (model X.prog X.w) X.A (handleBy (.ref a) X.env (.ExceptHandler (some (.Name x np)) (some n) (b₀ :: suite) pos' :: hds)) (SP X pins D) X.xe { s' with heap := h3 } := by
  have far : ∀ {hh : Heap} {o : Obj} {vs : Array Value}, hh.FunFrames B (X.env :: X.outer) → hh.get? a = some o → o.data = .fields vs → (a ≠ X.env.locals ∧ a ∉ X.fs) := by
    intro hh o vs ff e dd
    have out : a ∉ frs (X.env :: X.outer) := fun z => Exists.elim (ff.mem z).2 fun o2 z2 => z2.2 vs (by rw [← Option.some.inj (e.symm.trans z2.1)]; exact dd)
    exact ⟨fun z => out (by rw [z]; exact List.mem_filterMap.mpr ⟨X.env, .head _, fr⟩), fun z => out (Exists.elim (List.mem_filterMap.mp z) fun en q => List.mem_filterMap.mpr ⟨en, .tail _ q.1, q.2⟩)⟩
  obtain ⟨o3, v3, at3, z3, d3⟩ := fly.there
  have J3 := up h3 fly up3
  have far3 := far fly.2.2.1 at3 d3
  have I3 := J3.suite at3 d3 na far3.1 far3.2
  refine wpAny_handleBy_cons (codeAny_handlers_test ?_) (fun z => nomatch z)
  have named : ∀ {Q E : Value → Shared → Prop}, Q c { s' with heap := h3 } → wpAny (model X.prog X.w) (X.A.mark (some (.ref a))) (eval (.Name x np) X.env) Q E { s' with heap := h3 } := by
    intro Q E q
    rcases nm.2.2 with z | ⟨z, zb, zn⟩
    · exact ld_glob (X := X.suite a ((a, o3) :: (X.pn ++ pins))) I3 nm.1 z q nm.2.1
    · exact ld_blt (X := X.suite a ((a, o3) :: (X.pn ++ pins))) I3 nm.1 z zb q zn nm.2.1
  have cl : PySem.W.Looks (model X.prog X.w) h3 (typeOf (.ref a)) cls := fun A' Q' E' t k q => wpAny_typeOf_ref (k _ _ at3) (by rw [z3.1]; exact q)
  refine named ((PySem.W.exm_one (M := model X.prog X.w) J3.kIn cl yes).here (codeAny_handlers_suite_as (HandSPX.lands_againZ fly fun h4 fly4 up4 => ?_)))
  obtain ⟨o4, v4, at4, z4, d4⟩ := fly4.there
  have J4 := up h4 fly4 (up3.trans up4)
  have I4 := J4.suite at4 d4 na far3.1 far3.2
  refine store_ok (X := X.suite a ((a, o4) :: (X.pn ++ pins))) (v := .ref a) I4 nd at_i (.inl loc) rfl (fun s5 I5 => ?_) (.inr loc)
  exact wpAny_mono ((hsu a o4 cls d (X.pn ++ pins) z4 ⟨_, d4⟩).run [] s5 _ H (ends D i) I5 go) (fun fl t q => after_suite (e := (a, o4)) ok nd at_i loc rfl q) fun _ _ z => z.elim
/-- try: body, except x as n: suite, and more clauses that are never reached -/
theorem ps_try_asR (stk : X.stack = X.env :: X.outer) (fr : X.env.frame = some X.env.locals) (nd : X.N.Nodup) (at_i : X.N[i]? = some n) (loc : X.env.kindOf n = some .local) (nm : Names X x c)
    (hb : ∀ (W : WX) (pn : List (Addr × Obj)) (xe : Value → Shared → Prop), Takes (X.tr pn xe) W → PassesOwn (model X.prog X.w) X.A X.env xe → PSs (X.tr pn xe) body (tb W))
    (hsu : ∀ (a : Addr) (oe : Obj) (cls : Value) (d : Option Addr) (pn : List (Addr × Obj)), Zc cls d oe → (∃ vs, oe.data = .fields vs) → PSs (X.suite a ((a, oe) :: pn)) (b₀ :: suite) (ts a cls d)) :
    PS X (.Try body (.ExceptHandler (some (.Name x np)) (some n) (b₀ :: suite) pos' :: hds) [] [] pos) (fun D σ H => tb (fun cls d σ' H' => PySem.W.exmOne X.K cls c = some true ∧ ∀ a, H' a = none → ts a cls d (ends D i) (σ'.set i (some (.ref a))) H') D σ H) := by
  refine ⟨fun pins s σ H D I h => wpAny_Try_except (wpAny_mono ((hb _ (X.pn ++ pins) _ (fun u s' xx => ?_) PassesOwn.looking).run [] s σ H D (I.toTry _) h) (fun fl t q => ?_) fun _ _ z => z)⟩
  · obtain ⟨a, B, sI, pins', σ', H', cls, d, rfl, J', nb, up, sky, na, os, ag, yes, go⟩ := xx
    have J := J'.ofTry I.ok
    refine Sky.land Zc.steady (by rw [I.ok.frames, stk]) fr (by rw [← stk]; exact sky) fun h3 fly up3 => ?_
    exact first_takes I.ok stk fr nd at_i loc nm hsu J (fun hh fl uu => J.landed nb fl.1 (up.trans uu) os ag) fly up3 na yes (go a na)
  · match fl, untried I.ok q with
    | .next, z => exact wpAny_execs_nil z
    | .brk, z => exact z
    | .cont, z => exact z
    | .ret v, z => exact z
end
end Tr
/-! own errors; packed; _law_is_none -/
namespace Ht
open PySem PySem.Spec PyProof.Rows L2 Hu Evl
abbrev sBadInit : Stmt := match topS 8 with
  | .ClassDef _ _ _ (s :: _) _ _ _ _ _ _ _ => s
  | s => s
/-- an own error class without an __init__, over ValueError -/
structure Ec (K : PySem.W.Frag) (mg : Str → Option Value) (x : Str) (C : Addr) : Prop where
  g : mg x = some (.ref C)
  x : PySem.W.excIn K C [.type "ValueError", .type "Exception", .type "BaseException", .type "object"] "ValueError.__new__" = true
  k : PySem.W.keepIn K (.ref C) = true
  b : PySem.W.subIn K (.ref C) (.type "BaseException") = some true
  t : PySem.W.typeIn K (.ref C) = some (.type "type")
  e : PySem.W.exmOne K (.ref C) (.ref C) = some true
section
variable {X : Cx} {C : Addr} {bmB : List Value} {B newId initId : String}
/-- X() -/
theorem pmk_own0 {x : Str} {p pos : Pos} (F : ExcBaseFacts B newId initId bmB) (q : PySem.W.excIn X.K C bmB newId = true) (gC : X.mg x = some (.ref C)) (kC : PySem.W.keepIn X.K (.ref C) = true) (r : Raises X (.ref C)) (hg : Gl X x)
    (hdb : (x == ("__debug__" : Str)) = false := by decide) : PMk X (.Call (.Name x p) [] [] pos) (fun _ H Q => Q (.ref C) none H) := by
  intro pins s σ H Q I h
  refine wpAny_Call_Name_kw (ld_glob I hg gC ?_ hdb)
  refine PySem.W.callWith_K0 I.kIn kC ?_
  show wpAny _ _ (call (.ref C) []) _ _ _
  obtain ⟨bm, N, nm, qn, bs, hdct, sn, sub, ab, col, dd, k0, k1, k2, k3, k5, mN, hC, hN, hni, T⟩ := exc_obj I.kIn q
  refine wpAny_call_exc_subT F T hC hN hni (fun h' e hm => ?_) (Nat.zero_le _)
  exact mk_of I hm r h (I.hok.gone hm.new)
end

/-- an own error class with a field place, which its __init__ sets -/
structure Bx (K : PySem.W.Frag) (mg : Str → Option Value) (C fI : Addr) (dI : FuncData) : Prop where
  g : mg "BadText" = some (.ref C)
  T : OexC K C
  iC : PySem.W.findIn K (.ref C) "__init__" = some (some (.ref fI))
  tI : PySem.W.typeIn K (.ref fI) = some (.type "function")
  F : Fun K "__init__" "BadText.__init__" sBadInit fI dI
  b : Binds K dI ["self", "place"] []
  no : PySem.W.findIn K (.ref C) "place" = some none
  e : PySem.W.exmOne K (.ref C) (.ref C) = some true
  xf : XfC K C
def spBI (K : PySem.W.Frag) (C : Addr) : Sp := fun vs H Q _ => ∃ (a : Addr) (v : V), vs = [.ref a, v] ∧ H a = some (exo a C none) ∧ ∀ dx, H dx = none → dx ≠ a → Q .non (upd (upd H dx (exd dx [("place", v)])) a (exo a C (some dx)))
section
variable {P : Program} {w : World} {K : PySem.W.Frag} {mg : Str → Option Value} {base : Heap}
theorem scBI : FnScope ["self", "place"] ["self", "place"] (defScope sBadInit) := ⟨rfl, rfl, rfl, by decide +kernel, rfl, by decide +kernel, by decide +kernel⟩
theorem ok_BI {fI C : Addr} {dI : FuncData} (EB : Bx K mg C fI dI) : FnOk P w K mg base CX0 1 fI dI ["self", "place"] (spBI K C) := by
  refine EB.F.ok scBI (fun vs H Q E h => ?_) (fun cdv A outer s H vs Q E hr h => ?_)
  · obtain ⟨a, v, rfl, _⟩ := h
    rfl
  obtain ⟨a, v, rfl, ha, k⟩ := h
  refine ⟨_, pss_one (ps_ost (pv 0) (pv 1)), ?_⟩
  exact ⟨_, rfl, _, rfl, a, C, rfl, EB.T, EB.no, .inl ⟨ha, fun dx n ne => k dx n ne⟩⟩
/-- BadText(e) -/
theorem rd_bad {K : PySem.W.Frag} {C : Addr} {te : TE} {σ : L2.St} {H : Hp} {v : V} {Qx : XK} (ev : Ev te σ H v) (k : ∀ H' d, Ex H H' → H d = none → H' d = some (.xd [("place", v)]) → Qx (.ref C) (some d) H') : tMkO C (spBI K C) [] (tCons te tNil) σ H Qx :=
  ev H (Ex.refl H) _ fun H1 e1 => ⟨by show (1 : Nat) ≤ 1000; decide, fun a na => ⟨a, v, rfl, upd_same, fun dx nd ne => ⟨rfl, dx, _, upd_same, by rw [upd_ne ne, upd_same], by rw [upd_ne ne] at nd; exact nd, by
    have n1 : H1 dx = none := by rw [upd_ne ne] at nd; exact nd
    refine k _ dx (fun b o hb => ?_) (fresh_back e1 n1) upd_same
    have hb1 := e1 _ _ hb
    have nbd := ne_of_none hb1 n1
    have nba := ne_of_none hb1 na
    rw [upd_ne nbd, del_ne nba, upd_ne nba, upd_ne nbd, upd_ne nba]
    exact hb1⟩⟩⟩
/-! ### packed -/
end
end Ht
/-! k30: how far a reader comes, and reading back -/
namespace Ht
open PySem Hu L2
mutual
/-- made of None, integers, strings and tuples -/
def sm : U → Prop
  | .non => True
  | .int _ => True
  | .str z => (TL.tl z).all okW = true
  | .tup us => smL us
  | _ => False
def smL : List U → Prop
  | [] => True
  | u :: us => sm u ∧ smL us
end
theorem smL_append : ∀ {us us' : List U}, smL us → smL us' → smL (us ++ us')
  | [], _, _, h => h
  | _ :: _, _, h, h' => ⟨h.1, smL_append h.2 h'⟩
theorem smL_mem : ∀ {us : List U} {u : U}, smL us → u ∈ us → sm u
  | _ :: _, _, h, .head _ => h.1
  | _ :: _, _, h, .tail _ q => smL_mem h.2 q
mutual
theorem sm_pl : ∀ u : U, pl u → sm u
  | .non, _ => by simp only [sm]
  | .int _, _ => by simp only [sm]
  | .str z, h => by
    simp only [sm]
    simpa only [pl] using h
  | .tup us, h => by
    simp only [sm]
    exact smL_pl us (by simpa only [pl] using h)
  | .bl _, h => by simp only [pl] at h
  | .lst _, h => by simp only [pl] at h
  | .dct _, h => by simp only [pl] at h
  | .exc, h => by simp only [pl] at h
theorem smL_pl : ∀ us : List U, plL us → smL us
  | [], _ => trivial
  | u :: us, h => ⟨sm_pl u h.1, smL_pl us h.2⟩
end
theorem rdStr_ok {cs : List Nat} : ∀ {n p : Nat} {acc : List Nat} {u : U} {q : Nat}, rdStr cs n p acc = .ok u q → acc.all okW = true → p < q ∧ q ≤ cs.length ∧ sm u
  | 0, _, _, _, _, h, _ => by
    unfold rdStr at h
    cases h
  | n + 1, p, acc, u, q, h, ha => by
    unfold rdStr at h
    cases hc : cs[p]? with
    | none =>
      rw [hc] at h
      cases h
    | some c =>
      rw [hc] at h
      have hp := (List.getElem?_eq_some_iff.mp hc).1
      dsimp only at h
      split at h
      · cases h
        exact ⟨by omega, by omega, by simp only [sm]; exact ha⟩
      · split at h
        · cases hd : cs[p + 1]? with
          | none =>
            rw [hd] at h
            cases h
          | some d =>
            rw [hd] at h
            dsimp only at h
            split at h
            · rename_i hd2
              obtain ⟨a, b, c⟩ := rdStr_ok h (by
                rw [List.all_append, ha]
                rcases hd2 with rfl | rfl <;> rfl)
              exact ⟨by omega, b, c⟩
            · cases h
        · split at h
          · rename_i hd2
            obtain ⟨a, b, c⟩ := rdStr_ok h (by
              rw [List.all_append, ha]
              simp only [List.all_cons, List.all_nil, Bool.and_true, Bool.true_and, okW]
              rw [decide_eq_true hd2.1, decide_eq_true hd2.2]
              rfl)
            exact ⟨by omega, b, c⟩
          · cases h
theorem run_le (cs : List Nat) (p : Nat) : run cs p ≤ cs.length - p := by
  unfold run
  have := (List.takeWhile_sublist isD (l := cs.drop p)).length_le
  rw [List.length_drop] at this
  exact this
theorem begins_ge (cs : List Nat) (p : Nat) : p ≤ begins cs p ∧ begins cs p ≤ p + 1 := by
  unfold begins
  split <;> omega
theorem riP_ok {cs : List Nat} {p : Nat} {u : U} {q : Nat} (h : riP cs p = .ok u q) : p < q ∧ q ≤ cs.length ∧ sm u := by
  unfold riP at h
  dsimp only at h
  have h1 := begins_ge cs p
  have h2 := run_le cs (begins cs p)
  split at h
  · cases h
  split at h
  · split at h
    · cases h
    · cases h
      exact ⟨by omega, by omega, by simp only [sm]⟩
  split at h
  · cases h
  · cases h
    exact ⟨by omega, by omega, by simp only [sm]⟩
theorem riL_ok {cs : List Nat} {p : Nat} {u : U} {q : Nat} (h : riL cs p = .ok u q) : p < q ∧ q ≤ cs.length ∧ sm u := by
  unfold riL at h
  dsimp only at h
  have h1 := begins_ge cs p
  have h2 := run_le cs (begins cs p)
  split at h
  · cases h
  split at h
  · split at h
    · cases h
    · cases h
      exact ⟨by omega, by omega, by simp only [sm]⟩
  split at h
  · cases h
    exact ⟨by omega, by omega, by simp only [sm]⟩
  · cases h
    exact ⟨by omega, by omega, by simp only [sm]⟩
theorem rdItems_ok {cs : List Nat} {rd : Nat → R} (hr : ∀ p u q, rd p = .ok u q → p < q ∧ q ≤ cs.length ∧ sm u) : ∀ {n p : Nat} {acc : List U} {u : U} {q : Nat}, rdItems cs rd n p acc = .ok u q → smL acc → p < q ∧ q ≤ cs.length ∧ sm u
  | 0, _, _, _, _, h, _ => by
    unfold rdItems at h
    cases h
  | n + 1, p, acc, u, q, h, ha => by
    unfold rdItems at h
    cases hc : rd p with
    | bad e =>
      rw [hc] at h
      cases h
    | ok u0 q0 =>
      rw [hc] at h
      obtain ⟨a, b, c⟩ := hr p u0 q0 hc
      have hs : smL (acc ++ [u0]) := smL_append ha ⟨c, trivial⟩
      dsimp only at h
      split at h
      · rename_i h1
        cases h
        have hp := (List.getElem?_eq_some_iff.mp h1).1
        exact ⟨by omega, by omega, by simp only [sm]; exact hs⟩
      · split at h
        · obtain ⟨a', b', c'⟩ := rdItems_ok hr h hs
          exact ⟨by omega, b', c'⟩
        · cases h
theorem rdThing_ok {cs : List Nat} {ri : Nat → R} (hr : ∀ p u q, ri p = .ok u q → p < q ∧ q ≤ cs.length ∧ sm u) : ∀ (k p : Nat) (u : U) (q : Nat), rdThing cs ri k p = .ok u q → p < q ∧ q ≤ cs.length ∧ sm u := by
  intro k
  induction k with
  | zero =>
    intro p u q h
    unfold rdThing at h
    cases hc : cs[p]? with
    | none =>
      rw [hc] at h
      cases h
    | some c =>
      rw [hc] at h
      have hp := (List.getElem?_eq_some_iff.mp hc).1
      dsimp only at h
      split at h
      · cases h
        exact ⟨by omega, by omega, by simp only [sm]⟩
      split at h
      · obtain ⟨a, b, c⟩ := rdStr_ok h rfl
        exact ⟨by omega, b, c⟩
      split at h
      · cases h
      · exact hr p u q h
  | succ k ih =>
    intro p u q h
    unfold rdThing at h
    cases hc : cs[p]? with
    | none =>
      rw [hc] at h
      cases h
    | some c =>
      rw [hc] at h
      have hp := (List.getElem?_eq_some_iff.mp hc).1
      dsimp only at h
      split at h
      · cases h
        exact ⟨by omega, by omega, by simp only [sm]⟩
      split at h
      · obtain ⟨a, b, c⟩ := rdStr_ok h rfl
        exact ⟨by omega, b, c⟩
      split at h
      · split at h
        · rename_i h1
          cases h
          have hp := (List.getElem?_eq_some_iff.mp h1).1
          exact ⟨by omega, by omega, by simp only [sm, smL]⟩
        · obtain ⟨a, b, c⟩ := rdItems_ok ih h trivial
          exact ⟨by omega, b, c⟩
      · exact hr p u q h
theorem rdStr_dpt {cs : List Nat} : ∀ {n p : Nat} {acc : List Nat} {u : U} {q : Nat}, rdStr cs n p acc = .ok u q → dpt u = 0
  | 0, _, _, _, _, h => by
    unfold rdStr at h
    cases h
  | n + 1, p, acc, u, q, h => by
    unfold rdStr at h
    split at h
    · cases h
    · split at h
      · cases h
        simp only [dpt]
      · split at h
        · split at h
          · cases h
          · split at h
            · exact rdStr_dpt h
            · cases h
        · split at h
          · exact rdStr_dpt h
          · cases h
theorem rdItems_dpt {cs : List Nat} {rd : Nat → R} {k : Nat} (hr : ∀ p u q, rd p = .ok u q → dpt u ≤ k) : ∀ {n p : Nat} {acc : List U} {u : U} {q : Nat}, rdItems cs rd n p acc = .ok u q → dptL acc ≤ k → dpt u ≤ k + 1
  | 0, _, _, _, _, h, _ => by
    unfold rdItems at h
    cases h
  | n + 1, p, acc, u, q, h, ha => by
    unfold rdItems at h
    cases hc : rd p with
    | bad e =>
      rw [hc] at h
      cases h
    | ok u0 q0 =>
      rw [hc] at h
      have c := hr p u0 q0 hc
      have hs : dptL (acc ++ [u0]) ≤ k := by
        rw [dptL_append]
        simp only [dptL]
        omega
      dsimp only at h
      split at h
      · cases h
        simp only [dpt]
        omega
      · split at h
        · exact rdItems_dpt hr h hs
        · cases h
theorem rdThing_dpt {cs : List Nat} {ri : Nat → R} (hr : ∀ p u q, ri p = .ok u q → dpt u = 0) : ∀ (k p : Nat) (u : U) (q : Nat), rdThing cs ri k p = .ok u q → dpt u ≤ k := by
  intro k
  induction k with
  | zero =>
    intro p u q h
    unfold rdThing at h
    split at h
    · cases h
    split at h
    · cases h
      simp only [dpt]
      omega
    split at h
    · rw [rdStr_dpt h]
      omega
    split at h
    · cases h
    · rw [hr p u q h]
      omega
  | succ k ih =>
    intro p u q h
    unfold rdThing at h
    split at h
    · cases h
    split at h
    · cases h
      simp only [dpt]
      omega
    split at h
    · rw [rdStr_dpt h]
      omega
    split at h
    · dsimp only at h
      split at h
      · cases h
        simp only [dpt, dptL]
        omega
      · exact rdItems_dpt ih h (by simp only [dptL]; omega)
    · rw [hr p u q h]
      omega
theorem riP_dpt {cs : List Nat} {p : Nat} {u : U} {q : Nat} (h : riP cs p = .ok u q) : dpt u = 0 := by
  unfold riP at h
  dsimp only at h
  split at h
  · cases h
  split at h
  · split at h
    · cases h
    · cases h
      simp only [dpt]
  split at h
  · cases h
  · cases h
    simp only [dpt]
/-! ### reading back -/
theorem get_mid {cs pre : List Nat} {c : Nat} {r : List Nat} (h : cs = pre ++ (c :: r)) : cs[pre.length]? = some c := by
  subst h
  rw [List.getElem?_append_right (Nat.le_refl _), Nat.sub_self]
  rfl
theorem esc_cons (c : Nat) (l : List Nat) : escP (c :: l) = (if c = 39 ∨ c = 126 then [126, c] else [c]) ++ escP l := by
  unfold escP
  rw [List.flatMap_cons]
theorem rdStr_back {cs post : List Nat} : ∀ (l pre acc : List Nat) (n : Nat), (∀ c ∈ l, okW c = true) → l.length < n → cs = pre ++ (escP l ++ 39 :: post) → rdStr cs n pre.length acc = .ok (.str (mkS (acc ++ l))) (pre.length + (escP l).length + 1)
  | [], pre, acc, n, _, hn, h => by
    obtain ⟨m, rfl⟩ : ∃ m, n = m + 1 := ⟨n - 1, by simp only [List.length_nil] at hn; omega⟩
    have hc : cs[pre.length]? = some 39 := get_mid (r := post) h
    unfold rdStr
    rw [hc]
    dsimp only
    rw [if_pos rfl, List.append_nil]
    rfl
  | c :: l, pre, acc, n, hl, hn, h => by
    obtain ⟨m, rfl⟩ : ∃ m, n = m + 1 := ⟨n - 1, by simp only [List.length_cons] at hn; omega⟩
    have hl' : ∀ c ∈ l, okW c = true := fun d hd => hl d (List.mem_cons_of_mem _ hd)
    have hc0 := hl c (List.mem_cons_self ..)
    have hn' : l.length < m := by simp only [List.length_cons] at hn; omega
    by_cases hs : c = 39 ∨ c = 126
    · have h1 : cs = pre ++ (126 :: c :: (escP l ++ 39 :: post)) := by
        rw [h, esc_cons, if_pos hs]
        simp
      have h2 : cs = (pre ++ [126]) ++ (c :: (escP l ++ 39 :: post)) := by
        rw [h1]
        simp
      have h3 : cs = (pre ++ [126, c]) ++ (escP l ++ 39 :: post) := by
        rw [h1]
        simp
      have g1 := get_mid h1
      have g2 := get_mid h2
      rw [List.length_append, List.length_singleton] at g2
      have ih := rdStr_back (cs := cs) (post := post) l (pre ++ [126, c]) (acc ++ [c]) m hl' hn' h3
      rw [List.length_append] at ih
      unfold rdStr
      rw [g1]
      dsimp only
      rw [if_neg (by decide), if_pos rfl, g2]
      dsimp only
      rw [if_pos hs]
      rw [show pre.length + 2 = pre.length + [126, c].length from rfl, ih, esc_cons, if_pos hs]
      simp only [List.length_append, List.length_cons, List.length_nil, List.append_assoc, List.cons_append, List.nil_append]
      congr 1
      omega
    · have h1 : cs = pre ++ (c :: (escP l ++ 39 :: post)) := by
        rw [h, esc_cons, if_neg hs]
        simp
      have h3 : cs = (pre ++ [c]) ++ (escP l ++ 39 :: post) := by
        rw [h1]
        simp
      have g1 := get_mid h1
      have ih := rdStr_back (cs := cs) (post := post) l (pre ++ [c]) (acc ++ [c]) m hl' hn' h3
      rw [List.length_append] at ih
      unfold rdStr
      rw [g1]
      dsimp only
      unfold okW at hc0
      have hc1 := Bool.and_eq_true_iff.mp hc0
      have hc2 := of_decide_eq_true hc1.1
      have hc3 := of_decide_eq_true hc1.2
      rw [if_neg (by omega), if_neg (by omega), if_pos ⟨hc2, hc3⟩]
      rw [show pre.length + 1 = pre.length + [c].length from rfl, ih, esc_cons, if_neg hs]
      simp only [List.length_append, List.length_cons, List.length_nil, List.append_assoc, List.cons_append, List.nil_append]
      congr 1
      omega
/-- no digit stands ahead -/
def noD (l : List Nat) : Prop := ∀ c, l.head? = some c → isD c = false
theorem numL_head : ∀ n : Nat, 0 < n → ∃ c r, TL.numL n = c :: r ∧ 49 ≤ c := by
  intro n
  induction n using Nat.strongRecOn with
  | _ n ih =>
    intro hn
    by_cases h : n < 10
    · exact ⟨48 + n, [], TL.numL_lt h, by omega⟩
    · obtain ⟨c, r, e, hc⟩ := ih (n / 10) (by omega) (by omega)
      refine ⟨c, r ++ [48 + n % 10], ?_, hc⟩
      rw [TL.numL_step (by omega), e]
      rfl
theorem tx_int (i : Int) : ∃ n : Nat, n = i.natAbs ∧ ((i = (n : Int) ∧ tx (.int i) = TL.numL n) ∨ (i = -(n : Int) ∧ 0 < n ∧ tx (.int i) = 45 :: TL.numL n)) := by
  refine ⟨i.natAbs, rfl, ?_⟩
  by_cases h : 0 ≤ i
  · refine .inl ⟨by omega, ?_⟩
    have e : i = ((i.natAbs : Nat) : Int) := by omega
    simp only [tx]
    have := TL.tl_num i.natAbs
    rw [← e] at this
    exact this
  · refine .inr ⟨by omega, by omega, ?_⟩
    have e : (0 : Int) - i = ((i.natAbs : Nat) : Int) := by omega
    have q := TL.tl_num i.natAbs
    rw [← e] at q
    simp only [tx]
    show TL.tl (Str.ofString (toString i)) = _
    rw [PyProof.Rows.toString_neg (by omega), TL.tl_ofString, String.toList_append, List.map_append]
    rw [TL.tl_ofString] at q
    rw [q]
    rfl
theorem takeWhile_app {l post : List Nat} (h : ∀ c ∈ l, isD c = true) (hp : noD post) : (l ++ post).takeWhile isD = l := by
  induction l with
  | nil =>
    cases post with
    | nil => rfl
    | cons c r =>
      have := hp c rfl
      show (c :: r).takeWhile isD = []
      rw [List.takeWhile_cons, this]
      rfl
  | cons c l ih =>
    rw [List.cons_append, List.takeWhile_cons, h c (List.mem_cons_self ..)]
    show c :: _ = _
    rw [ih fun d hd => h d (List.mem_cons_of_mem _ hd)]
theorem numL_isD (n : Nat) : ∀ c ∈ TL.numL n, isD c = true := fun c hc => by
  have h := TL.numL_digits n c hc
  unfold isD
  rw [decide_eq_true h.1, decide_eq_true h.2]
  rfl
theorem run_num {cs pre post : List Nat} {n : Nat} (h : cs = pre ++ (TL.numL n ++ post)) (hp : noD post) : run cs pre.length = (TL.numL n).length ∧ (cs.drop pre.length).take (run cs pre.length) = TL.numL n := by
  have e : cs.drop pre.length = TL.numL n ++ post := by rw [h, List.drop_left]
  have r : run cs pre.length = (TL.numL n).length := by
    unfold run
    rw [e, takeWhile_app (numL_isD n) hp]
  refine ⟨r, ?_⟩
  rw [r, e, List.take_left]
theorem valD_num (n : Nat) : valD (TL.numL n) = n := TL.numL_val n
theorem riP_back {cs pre post : List Nat} {i : Int} (hi : i.natAbs < 10 ^ 30) (h : cs = pre ++ (tx (.int i) ++ post)) (hp : noD post) : riP cs pre.length = .ok (.int i) (pre.length + (tx (.int i)).length) := by
  obtain ⟨n, en, hc⟩ := tx_int i
  have ln : (TL.numL n).length ≤ 30 := TL.numL_len (by decide) (by rw [en]; exact hi)
  have ne := TL.numL_ne n
  have l0 : (TL.numL n).length ≠ 0 := fun e => ne (List.length_eq_zero_iff.mp e)
  rcases hc with ⟨ei, et⟩ | ⟨ei, n0, et⟩
  · rw [et] at h
    obtain ⟨r1, r2⟩ := run_num h hp
    have g0 : ∃ c r, TL.numL n = c :: r ∧ (c = 48 → n = 0) ∧ c ≠ 45 := by
      cases hn : TL.numL n with
      | nil => exact absurd hn ne
      | cons c r =>
        refine ⟨c, r, rfl, fun e => ?_, fun e => ?_⟩
        · by_cases z : n = 0
          · exact z
          · obtain ⟨c', r', e', h'⟩ := numL_head n (by omega)
            rw [hn] at e'
            cases e'
            omega
        · have := TL.numL_digits n c (by rw [hn]; exact List.mem_cons_self ..)
          omega
    obtain ⟨c, r, hn, h48, h45⟩ := g0
    have g1 : cs[pre.length]? = some c := get_mid (r := r ++ post) (by rw [h, hn]; rfl)
    have b1 : begins cs pre.length = pre.length := by
      unfold begins
      rw [if_neg (by rw [g1]; intro z; cases z; exact h45 rfl)]
    unfold riP
    dsimp only
    rw [b1, if_neg (by rw [r1]; exact l0)]
    by_cases z : n = 0
    · have n0 : TL.numL n = [48] := by rw [z]; exact TL.numL_lt (by decide)
      rw [n0] at hn
      cases hn
      rw [if_pos g1, if_neg (Nat.lt_irrefl _), et, n0, ei, z]
      rfl
    · rw [if_neg (by rw [g1]; intro q; cases q; exact z (h48 rfl)), if_neg (by rw [r1]; omega)]
      unfold intAt
      rw [if_neg (by rw [g1]; intro q; cases q; exact h45 rfl), b1, r2, valD_num, et, ← ei, r1]
  · rw [et] at h
    have g1 : cs[pre.length]? = some 45 := get_mid (r := TL.numL n ++ post) h
    have h2 : cs = (pre ++ [45]) ++ (TL.numL n ++ post) := by rw [h]; simp
    obtain ⟨r1, r2⟩ := run_num h2 hp
    rw [List.length_append, List.length_singleton] at r1 r2
    obtain ⟨c, r, hn, hc⟩ := numL_head n n0
    have g2 : cs[pre.length + 1]? = some c := by
      have := get_mid (cs := cs) (pre := pre ++ [45]) (c := c) (r := r ++ post) (by rw [h2, hn]; rfl)
      rw [List.length_append, List.length_singleton] at this
      exact this
    have b1 : begins cs pre.length = pre.length + 1 := by
      unfold begins
      rw [if_pos g1]
    unfold riP
    dsimp only
    rw [b1, if_neg (by rw [r1]; exact l0), if_neg (by rw [g2]; intro q; cases q; omega), if_neg (by rw [r1]; omega)]
    unfold intAt
    rw [if_pos g1, b1, r2, valD_num, et, ← ei, r1, List.length_cons]
    congr 1
    omega
theorem tx_head (u : U) (h : pl u) : ∃ c r, tx u = c :: r ∧ c ≠ 41 := by
  cases u with
  | non => exact ⟨46, [], by simp only [tx], by decide⟩
  | int i =>
    obtain ⟨n, en, hc⟩ := tx_int i
    rcases hc with ⟨ei, et⟩ | ⟨ei, n0, et⟩
    · cases hn : TL.numL n with
      | nil => exact absurd hn (TL.numL_ne n)
      | cons c r =>
        refine ⟨c, r, by rw [et, hn], fun e => ?_⟩
        have := TL.numL_digits n c (by rw [hn]; exact List.mem_cons_self ..)
        omega
    · exact ⟨45, _, et, by decide⟩
  | str z => exact ⟨39, escP (TL.tl z) ++ [39], by simp only [tx], by decide⟩
  | tup us => exact ⟨40, TL.joinL [44] (txs us) ++ [41], by simp only [tx], by decide⟩
  | bl _ => simp only [pl] at h
  | lst _ => simp only [pl] at h
  | dct _ => simp only [pl] at h
  | exc => simp only [pl] at h
theorem rdItems_back {cs : List Nat} {rd : Nat → R} : ∀ (us : List U) (u0 : U) (pre post : List Nat) (acc : List U) (n : Nat),
    (∀ u ∈ u0 :: us, ∀ pre post, cs = pre ++ (tx u ++ post) → noD post → rd pre.length = .ok u (pre.length + (tx u).length)) → us.length < n → cs = pre ++ (TL.joinL [44] (txs (u0 :: us)) ++ 41 :: post) →
    rdItems cs rd n pre.length acc = .ok (.tup (acc ++ u0 :: us)) (pre.length + (TL.joinL [44] (txs (u0 :: us))).length + 1)
  | [], u0, pre, post, acc, n, hr, hn, h => by
    obtain ⟨m, rfl⟩ : ∃ m, n = m + 1 := ⟨n - 1, by omega⟩
    have e : TL.joinL [44] (txs [u0]) = tx u0 := rfl
    rw [e] at h ⊢
    have r1 := hr u0 (List.mem_cons_self ..) pre (41 :: post) h fun c hc => by
      cases hc
      rfl
    have h2 : cs = (pre ++ tx u0) ++ (41 :: post) := by rw [h]; simp
    have g := get_mid h2
    rw [List.length_append] at g
    unfold rdItems
    rw [r1]
    dsimp only
    rw [if_pos g]
  | u1 :: us, u0, pre, post, acc, n, hr, hn, h => by
    obtain ⟨m, rfl⟩ : ∃ m, n = m + 1 := ⟨n - 1, by omega⟩
    have e : TL.joinL [44] (txs (u0 :: u1 :: us)) = tx u0 ++ (44 :: TL.joinL [44] (txs (u1 :: us))) := rfl
    rw [e] at h ⊢
    have r1 := hr u0 (List.mem_cons_self ..) pre (44 :: (TL.joinL [44] (txs (u1 :: us)) ++ 41 :: post)) (by rw [h]; simp) fun c hc => by
      cases hc
      rfl
    have h2 : cs = (pre ++ tx u0) ++ (44 :: (TL.joinL [44] (txs (u1 :: us)) ++ 41 :: post)) := by rw [h]; simp
    have g := get_mid h2
    rw [List.length_append] at g
    have h3 : cs = (pre ++ tx u0 ++ [44]) ++ (TL.joinL [44] (txs (u1 :: us)) ++ 41 :: post) := by rw [h]; simp
    have ih := rdItems_back us u1 (pre ++ tx u0 ++ [44]) post (acc ++ [u0]) m (fun u hu => hr u (List.mem_cons_of_mem _ hu)) (by simp only [List.length_cons] at hn; omega) h3
    rw [List.length_append, List.length_append, List.length_singleton] at ih
    unfold rdItems
    rw [r1]
    dsimp only
    rw [if_neg (by rw [g]; intro q; cases q), if_pos g, ih]
    simp only [List.length_append, List.length_cons, List.append_assoc, List.cons_append, List.nil_append]
    congr 1
    omega
theorem plL_all : ∀ {us : List U}, plL us → ∀ u ∈ us, pl u := fun h u hu => pl_mem h hu
theorem escP_ge (l : List Nat) : l.length ≤ (escP l).length := by
  induction l with
  | nil => exact Nat.le_refl _
  | cons c l ih =>
    rw [esc_cons, List.length_append, List.length_cons]
    split
    · simp only [List.length_cons, List.length_nil]
      omega
    · simp only [List.length_cons, List.length_nil]
      omega
theorem joinL_ge : ∀ us : List U, us.length ≤ (TL.joinL [44] (txs us)).length + 1
  | [] => Nat.zero_le _
  | [u] => by simp
  | u :: u1 :: us => by
    have ih := joinL_ge (u1 :: us)
    have e : TL.joinL [44] (txs (u :: u1 :: us)) = tx u ++ (44 :: TL.joinL [44] (txs (u1 :: us))) := rfl
    rw [e, List.length_append]
    simp only [List.length_cons] at *
    omega
theorem rdThing_back {cs : List Nat} : ∀ (k : Nat) (u : U) (pre post : List Nat), pl u → dpt u ≤ k → cs = pre ++ (tx u ++ post) → noD post → rdThing cs (riP cs) k pre.length = .ok u (pre.length + (tx u).length) := by
  intro k
  induction k with
  | zero =>
    intro u pre post hp hd h hn
    cases u with
    | non =>
      have g : cs[pre.length]? = some 46 := get_mid (r := post) (by rw [h]; simp only [tx]; rfl)
      unfold rdThing
      rw [g]
      dsimp only
      rw [if_pos rfl]
      rfl
    | int i =>
      have hi : i.natAbs < 10 ^ 30 := by simpa only [pl] using hp
      have r := riP_back hi h hn
      obtain ⟨n, en, hc⟩ := tx_int i
      obtain ⟨c, r2, e2, h46, h39, h40⟩ : ∃ c r, tx (.int i) = c :: r ∧ c ≠ 46 ∧ c ≠ 39 ∧ c ≠ 40 := by
        rcases hc with ⟨ei, et⟩ | ⟨ei, n0, et⟩
        · cases hq : TL.numL n with
          | nil => exact absurd hq (TL.numL_ne n)
          | cons c r =>
            have := TL.numL_digits n c (by rw [hq]; exact List.mem_cons_self ..)
            exact ⟨c, r, by rw [et, hq], by omega, by omega, by omega⟩
        · exact ⟨45, _, et, by decide, by decide, by decide⟩
      have g : cs[pre.length]? = some c := get_mid (r := r2 ++ post) (by rw [h, e2]; rfl)
      unfold rdThing
      rw [g]
      dsimp only
      rw [if_neg h46, if_neg h39, if_neg h40, r]
    | str z =>
      have hz : (TL.tl z).all okW = true := by simpa only [pl] using hp
      have e : tx (.str z) = 39 :: (escP (TL.tl z) ++ [39]) := by simp only [tx]
      have h1 : cs = pre ++ (39 :: (escP (TL.tl z) ++ 39 :: post)) := by rw [h, e]; simp
      have g := get_mid h1
      have h2 : cs = (pre ++ [39]) ++ (escP (TL.tl z) ++ 39 :: post) := by rw [h1]; simp
      have lz : (TL.tl z).length < cs.length := by
        have := escP_ge (TL.tl z)
        rw [h2]
        simp only [List.length_append, List.length_cons, List.length_nil]
        omega
      have r := rdStr_back (cs := cs) (post := post) (TL.tl z) (pre ++ [39]) [] cs.length (List.all_eq_true.mp hz) lz h2
      rw [List.length_append, List.length_singleton, List.nil_append] at r
      unfold rdThing
      rw [g]
      dsimp only
      rw [if_neg (by decide), if_pos rfl, r, e]
      rw [show mkS (TL.tl z) = z from TL.ext_tl rfl]
      simp only [List.length_append, List.length_cons, List.length_nil]
      congr 1
      omega
    | tup us =>
      simp only [dpt] at hd
      omega
    | bl _ => simp only [pl] at hp
    | lst _ => simp only [pl] at hp
    | dct _ => simp only [pl] at hp
    | exc => simp only [pl] at hp
  | succ k ih =>
    intro u pre post hp hd h hn
    cases u with
    | non =>
      have g : cs[pre.length]? = some 46 := get_mid (r := post) (by rw [h]; simp only [tx]; rfl)
      unfold rdThing
      rw [g]
      dsimp only
      rw [if_pos rfl]
      rfl
    | int i =>
      have hi : i.natAbs < 10 ^ 30 := by simpa only [pl] using hp
      have r := riP_back hi h hn
      obtain ⟨n, en, hc⟩ := tx_int i
      obtain ⟨c, r2, e2, h46, h39, h40⟩ : ∃ c r, tx (.int i) = c :: r ∧ c ≠ 46 ∧ c ≠ 39 ∧ c ≠ 40 := by
        rcases hc with ⟨ei, et⟩ | ⟨ei, n0, et⟩
        · cases hq : TL.numL n with
          | nil => exact absurd hq (TL.numL_ne n)
          | cons c r =>
            have := TL.numL_digits n c (by rw [hq]; exact List.mem_cons_self ..)
            exact ⟨c, r, by rw [et, hq], by omega, by omega, by omega⟩
        · exact ⟨45, _, et, by decide, by decide, by decide⟩
      have g : cs[pre.length]? = some c := get_mid (r := r2 ++ post) (by rw [h, e2]; rfl)
      unfold rdThing
      rw [g]
      dsimp only
      rw [if_neg h46, if_neg h39, if_neg h40, r]
    | str z =>
      have hz : (TL.tl z).all okW = true := by simpa only [pl] using hp
      have e : tx (.str z) = 39 :: (escP (TL.tl z) ++ [39]) := by simp only [tx]
      have h1 : cs = pre ++ (39 :: (escP (TL.tl z) ++ 39 :: post)) := by rw [h, e]; simp
      have g := get_mid h1
      have h2 : cs = (pre ++ [39]) ++ (escP (TL.tl z) ++ 39 :: post) := by rw [h1]; simp
      have lz : (TL.tl z).length < cs.length := by
        have := escP_ge (TL.tl z)
        rw [h2]
        simp only [List.length_append, List.length_cons, List.length_nil]
        omega
      have r := rdStr_back (cs := cs) (post := post) (TL.tl z) (pre ++ [39]) [] cs.length (List.all_eq_true.mp hz) lz h2
      rw [List.length_append, List.length_singleton, List.nil_append] at r
      unfold rdThing
      rw [g]
      dsimp only
      rw [if_neg (by decide), if_pos rfl, r, e]
      rw [show mkS (TL.tl z) = z from TL.ext_tl rfl]
      simp only [List.length_append, List.length_cons, List.length_nil]
      congr 1
      omega
    | tup us =>
      have e : tx (.tup us) = 40 :: (TL.joinL [44] (txs us) ++ [41]) := by simp only [tx]
      have hpl : plL us := by simpa only [pl] using hp
      simp only [dpt] at hd
      have h1 : cs = pre ++ (40 :: (TL.joinL [44] (txs us) ++ 41 :: post)) := by rw [h, e]; simp
      have g := get_mid h1
      have h2 : cs = (pre ++ [40]) ++ (TL.joinL [44] (txs us) ++ 41 :: post) := by rw [h1]; simp
      unfold rdThing
      rw [g]
      dsimp only
      rw [if_neg (by decide), if_neg (by decide), if_pos rfl]
      cases us with
      | nil =>
        have g2 : cs[pre.length + 1]? = some 41 := by
          have := get_mid (cs := cs) (pre := pre ++ [40]) (c := 41) (r := post) h2
          rw [List.length_append, List.length_singleton] at this
          exact this
        rw [if_pos g2, e]
        rfl
      | cons u0 us =>
        obtain ⟨c, r, ec, hc⟩ := tx_head u0 hpl.1
        have g2 : cs[pre.length + 1]? = some c := by
          obtain ⟨r', er⟩ : ∃ r', TL.joinL [44] (txs (u0 :: us)) ++ 41 :: post = c :: r' := by
            cases us with
            | nil => exact ⟨r ++ 41 :: post, by show tx u0 ++ 41 :: post = _; rw [ec]; rfl⟩
            | cons u1 us => exact ⟨_, by show (tx u0 ++ (44 :: TL.joinL [44] (txs (u1 :: us)))) ++ 41 :: post = _; rw [ec]; rfl⟩
          have := get_mid (cs := cs) (pre := pre ++ [40]) (c := c) (r := r') (by rw [h2, er])
          rw [List.length_append, List.length_singleton] at this
          exact this
        have lu : us.length < cs.length := by
          have := joinL_ge (u0 :: us)
          rw [h2]
          simp only [List.length_append, List.length_cons, List.length_nil] at *
          omega
        have r := rdItems_back (cs := cs) (rd := rdThing cs (riP cs) k) us u0 (pre ++ [40]) post [] cs.length
          (fun u hu pre' post' h' hn' => ih u pre' post' (pl_mem hpl hu) (by have := dpt_mem hu; omega) h' hn') lu h2
        rw [List.length_append, List.length_singleton, List.nil_append] at r
        rw [if_neg (by rw [g2]; intro q; cases q; exact hc rfl), r, e]
        simp only [List.length_append, List.length_cons, List.length_nil]
        congr 1
        omega
    | bl _ => simp only [pl] at hp
    | lst _ => simp only [pl] at hp
    | dct _ => simp only [pl] at hp
    | exc => simp only [pl] at hp
/-- a whole text read back -/
theorem whole_back {u : U} (hp : pl u) (hd : dpt u ≤ 30) : whole (tx u) (rdThing (tx u) (riP (tx u)) 30 0) = .inl u := by
  have r := rdThing_back (cs := tx u) 30 u [] [] hp hd (by simp) (fun c hc => by cases hc)
  rw [show ([] : List Nat).length = 0 from rfl] at r
  rw [r]
  unfold whole
  dsimp only
  rw [if_pos (Nat.zero_add _)]
end Ht
/-! the program's readers: a string, an integer -/
namespace Ht
open PySem PySem.Spec PyProof.Rows L2 Hu Evl
abbrev sUnpacked : Stmt := topS 24
abbrev sReadThing : Stmt := topS 25
abbrev sReadTuple : Stmt := topS 26
abbrev sReadStr : Stmt := topS 27
abbrev sReadInt : Stmt := topS 28
def sg (c : Nat) : Str := ⟨#[c]⟩
/-- what a reader of the program's tells -/
def Told (CB : Addr) (r : R) (H : Hp) (Q : VK) (E : XK) : Prop := match r with
  | .ok u q => ∀ (v : V) (t : Addr) (H' : Hp), Same H H' → Od H' v u → H' t = some (.tup [v, .int (q : Int)]) → Q (.ref t) H'
  | .bad e => ∀ (d : Addr) (H' : Hp), Same H H' → H' d = some (.xd [("place", .int (e : Int))]) → E (.ref CB) (some d) H'
theorem Told.ok {CB : Addr} {r : R} {u : U} {q : Nat} {H : Hp} {Q : VK} {E : XK} (k : Told CB r H Q E) (e : r = .ok u q) : ∀ (v : V) (t : Addr) (H' : Hp), Same H H' → Od H' v u → H' t = some (.tup [v, .int (q : Int)]) → Q (.ref t) H' := by
  subst e
  exact k
theorem Told.bad {CB : Addr} {r : R} {q : Nat} {H : Hp} {Q : VK} {E : XK} (k : Told CB r H Q E) (e : r = .bad q) : ∀ (d : Addr) (H' : Hp), Same H H' → H' d = some (.xd [("place", .int (q : Int))]) → E (.ref CB) (some d) H' := by
  subst e
  exact k
theorem dI (a b : Nat) : decide (V.int (a : Int) = V.int (b : Int)) = decide (a = b) := decide_eq_decide.mpr ⟨fun h => by injection h; omega, fun h => by rw [h]⟩
theorem dL (a b : Nat) : decide ((a : Int) < (b : Int)) = decide (a < b) := decide_eq_decide.mpr (by omega)
theorem dS {w : Str} {k : Nat} (c : Nat) (hw : w = sg k) : decide (V.str ⟨#[c]⟩ = V.str w) = decide (c = k) := by
  subst hw
  exact decide_eq_decide.mpr ⟨fun h => by injection h with h; injection h with h; injection h with h; injection h, fun h => by rw [h]; rfl⟩
theorem ge_len {cs : List Nat} {p : Nat} (h : cs[p]? = none) : cs.length ≤ p := List.getElem?_eq_none_iff.mp h
section
variable {σ : L2.St} {H : Hp} {te to ti : TE} {K : PySem.W.Frag}
abbrev tLen (te : TE) : TE := tCB (fun xs H Q => ∃ z, xs = [V.str z] ∧ z.length ≤ sizeLine ∧ Q (.int z.length) H) (tCons te tNil)
theorem ev_lenS {z : Str} (h : Ev te σ H (.str z)) (hz : z.length ≤ 100000) : Ev (tLen te) σ H (.int (z.length : Int)) := ev_cb (ea_cons h ea_nil) fun H1 _ Q q => ⟨z, rfl, sz_of hz, q H1 (Ex.refl H1)⟩
abbrev tIxS (to ti : TE) : TE := tOp rIxS to ti
theorem ev_ixS {z : Str} {p c : Nat} (h : Ev to σ H (.str z)) (hi : Ev ti σ H (.int (p : Int))) (hz : z.length ≤ 100000) (hc : (TL.tl z)[p]? = some c) : Ev (tIxS to ti) σ H (.str ⟨#[c]⟩) := ev_op h hi (rv_ixS hz (atI_nat hc))
/-- text[place] == one sign -/
theorem et_sign {z w : Str} {p c k : Nat} (h : Ev to σ H (.str z)) (hi : Ev ti σ H (.int (p : Int))) (hz : z.length ≤ 100000) (hc : (TL.tl z)[p]? = some c) (hw : w = sg k) : EvT (tTest (tOp rEq (tIxS to ti) (tC (.str w)))) σ H (decide (c = k)) :=
  et_is (et_test (ev_op (ev_ixS h hi hz hc) ev_c (rv_eq rfl))) (dS c hw)
theorem et_nsign {z w : Str} {p c k : Nat} (h : Ev to σ H (.str z)) (hi : Ev ti σ H (.int (p : Int))) (hz : z.length ≤ 100000) (hc : (TL.tl z)[p]? = some c) (hw : w = sg k) : EvT (tTest (tOp rNe (tIxS to ti) (tC (.str w)))) σ H (!decide (c = k)) :=
  et_is (et_test (ev_op (ev_ixS h hi hz hc) ev_c (rv_ne rfl))) (by rw [dS c hw])
theorem et_end {z : Str} {p : Nat} (h : Ev to σ H (.str z)) (hi : Ev ti σ H (.int (p : Int))) (hz : z.length ≤ 100000) : EvT (tTest (tOp rEq ti (tLen to))) σ H (decide (p = z.length)) :=
  et_is (et_test (ev_op hi (ev_lenS h hz) (rv_eq rfl))) (dI p z.length)
theorem et_lt {z : Str} {p : Nat} (h : Ev to σ H (.str z)) (hi : Ev ti σ H (.int (p : Int))) (hz : z.length ≤ 100000) : EvT (tTest (tOp (rI0 fun i j => .bl (decide (i < j))) ti (tLen to))) σ H (decide (p < z.length)) :=
  et_is (et_test (ev_op hi (ev_lenS h hz) rv_I0)) (dL p z.length)
abbrev rInS : R2 := fun x y H Q => ∃ (c : Nat) (z : Str), x = .str ⟨#[c]⟩ ∧ y = .str z ∧ Q (.bl (decide (c ∈ z.cps.toList))) H
abbrev rNiS : R2 := fun x y H Q => ∃ (c : Nat) (z : Str), x = .str ⟨#[c]⟩ ∧ y = .str z ∧ Q (.bl (!decide (c ∈ z.cps.toList))) H
theorem et_in {z w : Str} {p c : Nat} (h : Ev to σ H (.str z)) (hi : Ev ti σ H (.int (p : Int))) (hz : z.length ≤ 100000) (hc : (TL.tl z)[p]? = some c) : EvT (tTest (tOp rInS (tIxS to ti) (tC (.str w)))) σ H (decide (c ∈ TL.tl w)) :=
  et_test (ev_op (ev_ixS h hi hz hc) ev_c fun H1 _ Q q => ⟨c, w, rfl, rfl, q H1 (Ex.refl H1)⟩)
theorem et_ni {z w : Str} {p c : Nat} (h : Ev to σ H (.str z)) (hi : Ev ti σ H (.int (p : Int))) (hz : z.length ≤ 100000) (hc : (TL.tl z)[p]? = some c) : EvT (tTest (tOp rNiS (tIxS to ti) (tC (.str w)))) σ H (!decide (c ∈ TL.tl w)) :=
  et_test (ev_op (ev_ixS h hi hz hc) ev_c fun H1 _ Q q => ⟨c, w, rfl, rfl, q H1 (Ex.refl H1)⟩)
theorem ev_joinV {a : Str} {p : Addr} {ys : List Str} (h : Ev to σ H (.str a)) (he : Ev te σ H (.ref p)) (hp : H p = some (.lst (ys.map V.str))) (hz : (ys.map (·.length)).sum + ys.length * a.length ≤ 16777216) :
    Ev (tM1 (fun x xs H Q => ∃ a p, ∃ ys : List Str, x = .str a ∧ xs = [.ref p] ∧ (SqL K H p (ys.map V.str) ∨ SqT K H p (ys.map V.str)) ∧ (ys.map (·.length)).sum + ys.length * a.length ≤ 16777216 ∧ Q (.str (Txt.join a ys)) H) to te) σ H (.str (Txt.join a ys)) := fun H1 e Q q =>
  h H1 e _ fun H2 e2 => ⟨⟨a, rfl⟩, he H2 (e.trans e2) _ fun H3 e3 => ⟨a, p, ys, rfl, rfl, .inl (sq_of (((e.trans e2).trans e3) _ _ hp)), hz, q H3 (e2.trans e3)⟩⟩
end
theorem q_tl : TL.tl ("'~" : Str) = [39, 126] := by decide +kernel
theorem s39 : ("'" : Str) = sg 39 := by decide +kernel
theorem s126 : ("~" : Str) = sg 126 := by decide +kernel
section
variable {P : Program} {w : World} {K : PySem.W.Frag} {mg : Str → Option Value} {base : Heap}
def spRS (CB : Addr) : Sp := fun vs H Q E => ∃ (z : Str) (p : Nat), vs = [.str z, .int (p : Int)] ∧ z.length ≤ 90000 ∧ 1 ≤ p ∧ p ≤ z.length ∧ Told CB (rdStr (TL.tl z) (TL.tl z).length p []) H Q E
theorem scRS : FnScope ["text", "place", "signs"] ["text", "place"] (defScope sReadStr) := ⟨rfl, rfl, rfl, by decide +kernel, rfl, by decide +kernel, by decide +kernel⟩
theorem ok_RS {f f2 fI CB : Addr} {fd d2 dI : FuncData} (F : Fun K "_read_string" "_read_string" sReadStr f fd) (B : Bt mg) (D2 : Df K mg "is_signs" sIsSigns ["thing"] f2 d2) (EB : Bx K mg CB fI dI) : FnOk P w K mg base (L2.CX P w) 3 f fd ["text", "place"] (spRS CB) := by
  have GI : FnOk P w K mg base CX0 1 fI dI ["self", "place"] (spBI K CB) := ok_BI EB
  have G2 : FnOk P w K mg base CX0 1 f2 d2 ["thing"] (spO sgU) := ok_isSignsO D2.F B
  refine F.okX scRS (fun vs H Q E h => ?_) (fun cdv A outer s H vs Q E hr h => ?_)
  · obtain ⟨z, p, rfl, _⟩ := h
    rfl
  obtain ⟨z, p0, rfl, hz, hp1, hp2, k⟩ := h
  refine ⟨_, pss_cons (ps_set (i := 2) scRS.nd rfl (.inl rfl) (pe_lst pa_nil))
    (pss_cons (ps_while (passes_of rfl) (PW.pt (pw_and (pt_cmpR op_lt (pv 1) (pe_callB call_len_str (by rfl) B.len PySem.boot_len (pa_cons (pv 0) pa_nil)) (nomark _)) (pw_and1 (pt_cmpR op_ne (pe_ix ix_str (pv 0) (pv 1) (fun _ _ => rfl)) pe_str (nomark _)))))
      (pss_cons (ps_if (pt_cmpR op_eq (pe_ix ix_str (pv 0) (pv 1) (fun _ _ => rfl)) pe_str (nomark _))
          (pss_cons (ps_aug (i := 1) scRS.nd rfl (.inl rfl) pe_int ip_add)
          (pss_one (ps_if (PW.pt (pw_or (pt_cmpR op_eq (pv 1) (pe_callB call_len_str (by rfl) B.len PySem.boot_len (pa_cons (pv 0) pa_nil)) (nomark _)) (pw_or1 (pt_cmpR op_notIn_sign (pe_ix ix_str (pv 0) (pv 1) (fun _ _ => rfl)) pe_str (by rfl)))))
            (pss_one (ps_raise rfl (takes_of rfl rfl rfl rfl) (pmk_oex EB.T EB.iC EB.tI GI hr EB.b .nil pass0 (by rfl) EB.g (pa_cons (pv 1) pa_nil)))) pss_nil)))
          (pss_one (ps_if (pt_not (pt_val (pe_call G2 (hr.mono (by decide)) (by rfl) D2.g D2.F.kp D2.b .nil pass0 (pa_cons (pe_ix ix_str (pv 0) (pv 1) (fun _ _ => rfl)) pa_nil))))
            (pss_one (ps_raise rfl (takes_of rfl rfl rfl rfl) (pmk_oex EB.T EB.iC EB.tI GI hr EB.b .nil pass0 (by rfl) EB.g (pa_cons (pv 1) pa_nil)))) pss_nil)))
      (pss_cons (ps_expr (pe_bm PySem.F.plainAttrs_list PySem.F.slot_list_append PySem.F.type_list_append mt_append (pv 2) (pa_cons (pe_ix ix_str (pv 0) (pv 1) (fun _ _ => rfl)) pa_nil)))
      (pss_one (ps_aug (i := 1) scRS.nd rfl (.inl rfl) pe_int ip_add)))))
    (pss_cons (ps_if (pt_cmpR op_eq (pv 1) (pe_callB call_len_str (by rfl) B.len PySem.boot_len (pa_cons (pv 0) pa_nil)) (nomark _))
      (pss_one (ps_raise rfl (takes_of rfl rfl rfl rfl) (pmk_oex EB.T EB.iC EB.tI GI hr EB.b .nil pass0 (by rfl) EB.g (pa_cons (pv 1) pa_nil)))) pss_nil)
    (pss_one (ps_ret (pe_tup (pa_cons (pe_join pe_str (pv 2)) (pa_cons (pe_op op_add (pv 1) pe_int) pa_nil))))))), ?_⟩
  have hz1 : z.length ≤ 100000 := by omega
  have hlz := TL.len_tl z
  generalize hcs : TL.tl z = cs at k hlz
  generalize hR : rdStr cs cs.length p0 [] = R0 at k
  refine q_asgL (el_lst ea_nil (by show (0 : Nat) ≤ 100000; decide)) fun D H1 hD e1 h1 => ?_
  refine q_while (fun m σ' H' => ∃ (p : Nat) (acc : List Nat), σ' = [some (.str z), some (.int (p : Int)), some (.ref D)] ∧ Ex H H' ∧ H' D = some (.lst (acc.map fun c => V.str (sg c))) ∧ p ≤ cs.length ∧ cs.length + 1 ≤ p + m ∧ acc.length ≤ p ∧ rdStr cs m p acc = R0) cs.length
    ⟨p0, [], rfl, e1, h1, by omega, by omega, by simp, hR⟩ ?_
  rintro m σ' H' ⟨p, acc, rfl, ex, hl, hp, hm, ha, hr0⟩
  refine ⟨decide (p < z.length) && (match cs[p]? with | some c => !decide (c = 39) | none => true), et_and (et_lt (ev_var rfl) (ev_var rfl) hz1) (fun q => ?_), fun q H2 e2 => ?_, fun q H2 e2 => ?_⟩
  · have q1 := of_decide_eq_true q
    cases hc : cs[p]? with
    | none => exact absurd (ge_len hc) (by omega)
    | some c => exact et_nsign (ev_var rfl) (ev_var rfl) hz1 (by rw [hcs]; exact hc) s39
  · obtain ⟨q1, q2⟩ := Bool.and_eq_true_iff.mp q
    have q1 := of_decide_eq_true q1
    cases hc : cs[p]? with
    | none => exact absurd (ge_len hc) (by omega)
    | some c =>
      rw [hc] at q2
      have n39 : c ≠ 39 := fun e => by rw [e] at q2; cases q2
      obtain ⟨m', rfl⟩ : ∃ m', m = m' + 1 := ⟨m - 1, by omega⟩
      unfold rdStr at hr0
      rw [hc] at hr0
      dsimp only at hr0
      rw [if_neg n39] at hr0
      have hcz : (TL.tl z)[p]? = some c := by rw [hcs]; exact hc
      refine ⟨_, fun σ2 H3 hN => ⟨m', by omega, hN⟩, ?_⟩
      refine q_if (b := decide (c = 126)) (et_sign (ev_var rfl) (ev_var rfl) hz1 hcz s126) (fun q3 H3 e3 => ?_) (fun q3 H3 e3 => ?_)
      · have q3 := of_decide_eq_true q3
        rw [if_pos q3] at hr0
        refine q_aug (f := fun i j => i + j) (a := (p : Int)) (b := 1) rfl ev_c fun H4 e4 => ?_
        have ep : ((p : Int) + 1) = ((p + 1 : Nat) : Int) := by omega
        show tIfS _ _ _ _ [some (.str z), some (.int ((p : Int) + 1)), some (.ref D)] H4
        rw [ep]
        have E4 : Ex H H4 := ((ex.trans e2).trans e3).trans e4
        have hl4 : H4 D = some (.lst (acc.map fun c => V.str (sg c))) := e4 _ _ (e3 _ _ (e2 _ _ hl))
        cases hd : cs[p + 1]? with
        | none =>
          rw [hd] at hr0
          have hlen := ge_len hd
          refine s_if (b := true) (et_or (a := true) (b := true) (et_is (et_end (ev_var rfl) (ev_var rfl) hz1) (decide_eq_true (by omega))) (fun q => by cases q)) (fun _ H5 e5 => ?_) (fun q => by cases q)
          exact rd_bad (ev_var rfl) fun H6 d e6 _ h6 => k.bad hr0.symm d H6 ((E4.trans e5).trans e6) h6
        | some d =>
          rw [hd] at hr0
          dsimp only at hr0
          have hlen := (List.getElem?_eq_some_iff.mp hd).1
          have hdz : (TL.tl z)[p + 1]? = some d := by rw [hcs]; exact hd
          refine s_if (b := false || !decide (d ∈ TL.tl ("'~" : Str))) (et_or (a := false) (et_is (et_end (ev_var rfl) (ev_var rfl) hz1) (decide_eq_false (by omega))) (fun _ => et_ni (ev_var rfl) (ev_var rfl) hz1 hdz)) (fun q5 H5 e5 => ?_) (fun q5 H5 e5 => ?_)
          · rw [q_tl, Bool.false_or] at q5
            have nd : ¬ (d = 39 ∨ d = 126) := fun z => by
              have : d ∈ [39, 126] := by simpa using z
              rw [decide_eq_true this] at q5
              cases q5
            rw [if_neg nd] at hr0
            exact rd_bad (ev_var rfl) fun H6 d e6 _ h6 => k.bad hr0.symm d H6 ((E4.trans e5).trans e6) h6
          · rw [q_tl, Bool.false_or] at q5
            have yd : d = 39 ∨ d = 126 := by
              by_cases z : d ∈ [39, 126]
              · simpa using z
              · rw [decide_eq_false z] at q5
                cases q5
            rw [if_pos yd] at hr0
            refine q_app (K := K) (e5 _ _ hl4) (ev_var rfl) (ev_ixS (ev_var rfl) (ev_var rfl) hz1 hdz) (by rw [List.length_map]; omega) fun H6 e6 => ?_
            refine s_aug (f := fun i j => i + j) (a := ((p + 1 : Nat) : Int)) (b := 1) rfl ev_c fun H7 e7 => ?_
            refine ⟨p + 2, acc ++ [d], ?_, fun a o ha => e7 _ _ (by rw [upd_ne (ne_of_none ha hD)]; exact e6 _ _ (e5 _ _ (E4 _ _ ha))), ?_, by omega, by omega, by rw [List.length_append, List.length_singleton]; omega, hr0⟩
            · show [some (V.str z), some (.int (((p + 1 : Nat) : Int) + 1)), some (.ref D)] = _
              rw [show (((p + 1 : Nat) : Int) + 1) = ((p + 2 : Nat) : Int) by omega]
            · rw [List.map_append]
              exact e7 _ _ upd_same
      · have q3 := of_decide_eq_false q3
        rw [if_neg q3] at hr0
        have E3 : Ex H H3 := (ex.trans e2).trans e3
        have hl3 : H3 D = some (.lst (acc.map fun c => V.str (sg c))) := e3 _ _ (e2 _ _ hl)
        have ok1 : sgU (.str ⟨#[c]⟩) = okW c := by
          show ([c] : List Nat).all okW = okW c
          simp
        refine s_if (b := !(sgU (.str ⟨#[c]⟩))) (et_not (et_B (ev_call (sp := spO sgU) (ea_cons (ev_ixS (ev_var rfl) (ev_var rfl) hz1 hcz) ea_nil) fun H4 e4 Q q E => ⟨_, .str ⟨#[c]⟩, rfl, .str _, by simp only [brd]; show (1 : Nat) ≤ 90000; decide, q⟩))) (fun q5 H5 e5 => ?_) (fun q5 H5 e5 => ?_)
        · rw [ok1] at q5
          have nw : ¬ (32 ≤ c ∧ c ≤ 126) := fun z => by
            unfold okW at q5
            rw [decide_eq_true z.1, decide_eq_true z.2] at q5
            cases q5
          rw [if_neg nw] at hr0
          exact rd_bad (ev_var rfl) fun H6 d e6 _ h6 => k.bad hr0.symm d H6 ((E3.trans e5).trans e6) h6
        · rw [ok1] at q5
          have yw : 32 ≤ c ∧ c ≤ 126 := by
            unfold okW at q5
            have q6 : (decide (32 ≤ c) && decide (c ≤ 126)) = true := by
              cases hh : (decide (32 ≤ c) && decide (c ≤ 126)) with
              | true => rfl
              | false => rw [hh] at q5; cases q5
            obtain ⟨a, b⟩ := Bool.and_eq_true_iff.mp q6
            exact ⟨of_decide_eq_true a, of_decide_eq_true b⟩
          rw [if_pos yw] at hr0
          refine q_app (K := K) (e5 _ _ hl3) (ev_var rfl) (ev_ixS (ev_var rfl) (ev_var rfl) hz1 hcz) (by rw [List.length_map]; omega) fun H6 e6 => ?_
          refine s_aug (f := fun i j => i + j) (a := (p : Int)) (b := 1) rfl ev_c fun H7 e7 => ?_
          refine ⟨p + 1, acc ++ [c], rfl, fun a o ha => e7 _ _ (by rw [upd_ne (ne_of_none ha hD)]; exact e6 _ _ (e5 _ _ (E3 _ _ ha))), ?_, by omega, by omega, by rw [List.length_append, List.length_singleton]; omega, hr0⟩
          rw [List.map_append]
          exact e7 _ _ upd_same
  · have E2 : Ex H H2 := ex.trans e2
    have hl2 : H2 D = some (.lst (acc.map fun c => V.str (sg c))) := e2 _ _ hl
    obtain ⟨m', rfl⟩ : ∃ m', m = m' + 1 := ⟨m - 1, by omega⟩
    unfold rdStr at hr0
    cases hc : cs[p]? with
    | none =>
      rw [hc] at hr0
      have hlen := ge_len hc
      refine q_when (b := true) (et_is (et_end (ev_var rfl) (ev_var rfl) hz1) (decide_eq_true (by omega))) (fun _ H5 e5 => ?_) (fun q => by cases q)
      exact rd_bad (ev_var rfl) fun H6 d e6 _ h6 => k.bad hr0.symm d H6 ((E2.trans e5).trans e6) h6
    | some c =>
      rw [hc] at hr0 q
      dsimp only at hr0 q
      have hlen := (List.getElem?_eq_some_iff.mp hc).1
      rw [decide_eq_true (show p < z.length by omega), Bool.true_and] at q
      have y39 : c = 39 := by
        by_cases z : c = 39
        · exact z
        · rw [decide_eq_false z] at q
          cases q
      rw [if_pos y39] at hr0
      refine q_when (b := false) (et_is (et_end (ev_var rfl) (ev_var rfl) hz1) (decide_eq_false (by omega))) (fun q => by cases q) (fun _ H5 e5 => ?_)
      obtain ⟨s1, s2⟩ := join_signs acc
      have hj : Txt.join ("" : Str) (acc.map sg) = mkS acc := TL.ext_tl (by rw [join_tl]; exact s2)
      refine s_retU (eu_tup (ea_cons (ev_is (ev_joinV (K := K) (ys := acc.map sg) ev_c (ev_var rfl) (by rw [e5 _ _ hl2, List.map_map]; rfl) (by
        have s3 : ((acc.map sg).map (·.length)).sum = acc.length := s1
        rw [s3, show (("" : Str)).length = 0 by decide +kernel]
        omega)) (congrArg V.str hj)) (ea_cons (ev_op (ev_var rfl) ev_c rv_I0) ea_nil)) (by show (2 : Nat) ≤ 100000; decide)) fun t H6 ht e6 h6 => ?_
      refine k.ok hr0.symm (.str (mkS acc)) t H6 ((E2.trans e5).trans e6) (.str _) ?_
      rw [h6, show ((p + 1 : Nat) : Int) = (p : Int) + 1 by omega]
end
end Ht
/-! the program's reader of integers -/
namespace Ht
open PySem PySem.Spec PyProof.Rows L2 Hu Evl
theorem tw_stop : ∀ (l : List Nat) (c : Nat), l[(l.takeWhile isD).length]? = some c → isD c = false
  | [], c, h => by simp at h
  | d :: l, c, h => by
    cases hd : isD d with
    | true =>
      rw [List.takeWhile_cons, hd] at h
      exact tw_stop l c h
    | false =>
      rw [List.takeWhile_cons, hd] at h
      have e : d = c := Option.some.inj h
      rw [← e]
      exact hd
theorem run_stop {cs : List Nat} {f c : Nat} (h : cs[f + run cs f]? = some c) : isD c = false := by
  refine tw_stop (cs.drop f) c ?_
  rw [List.getElem?_drop]
  exact h
theorem run_next {cs : List Nat} {f n c : Nat} (h : n ≤ run cs f) (hc : cs[f + n]? = some c) (hd : isD c = true) : n + 1 ≤ run cs f := by
  by_cases e : n = run cs f
  · rw [e] at hc
    rw [run_stop hc] at hd
    cases hd
  · omega
theorem run_end {cs : List Nat} {f n : Nat} (h : n ≤ run cs f) (he : cs[f + n]? = none ∨ ∃ c, cs[f + n]? = some c ∧ isD c = false) : n = run cs f := by
  by_cases e : n = run cs f
  · exact e
  · obtain ⟨c, h1, h2⟩ := run_digit (cs := cs) (f := f) (n := n) (by omega)
    rcases he with z | ⟨c', z, z2⟩
    · rw [h1] at z
      cases z
    · rw [h1] at z
      cases z
      rw [h2] at z2
      cases z2
theorem run_all {cs : List Nat} {f n : Nat} (h : n ≤ run cs f) : PySem.NumText.AllDigits ((cs.drop f).take n) := fun c hc => by
  obtain ⟨i, hi, e⟩ := List.getElem_of_mem hc
  have hi' : i < n := by
    rw [List.length_take] at hi
    omega
  obtain ⟨c', h1, h2⟩ := run_digit (cs := cs) (f := f) (n := i) (by omega)
  have e2 : ((cs.drop f).take n)[i]? = some c := by
    rw [List.getElem?_eq_getElem hi, e]
  rw [List.getElem?_take_of_lt hi', List.getElem?_drop, h1] at e2
  cases e2
  unfold isD at h2
  obtain ⟨a, b⟩ := Bool.and_eq_true_iff.mp h2
  exact ⟨of_decide_eq_true a, of_decide_eq_true b⟩
theorem digs_tl : TL.tl ("0123456789" : Str) = [48, 49, 50, 51, 52, 53, 54, 55, 56, 57] := by decide +kernel
theorem in_digs (c : Nat) : decide (c ∈ TL.tl ("0123456789" : Str)) = isD c := by
  rw [digs_tl]
  unfold isD
  by_cases h : 48 ≤ c ∧ c ≤ 57
  · rw [decide_eq_true h.1, decide_eq_true h.2]
    refine decide_eq_true ?_
    simp only [List.mem_cons, List.not_mem_nil, or_false]
    omega
  · have : ¬ (c ∈ [48, 49, 50, 51, 52, 53, 54, 55, 56, 57]) := by
      simp only [List.mem_cons, List.not_mem_nil, or_false]
      omega
    rw [decide_eq_false this]
    by_cases h1 : 48 ≤ c
    · rw [decide_eq_true h1, decide_eq_false (fun z => h ⟨h1, z⟩)]
      rfl
    · rw [decide_eq_false h1]
      rfl
theorem cut_tl {z : Str} {a b : Nat} (hb : b ≤ z.length) : TL.tl (cutS z (some (a : Int)) (some (b : Int))) = ((TL.tl z).drop a).take (b - a) := by
  have hl := TL.len_tl z
  show ((z.cps.toList.drop (HT.sIx z.length 0 (some (a : Int)))).take (HT.sIx z.length z.length (some (b : Int)) - HT.sIx z.length 0 (some (a : Int)))) = _
  rw [HT.sIx_nat, HT.sIx_nat, Nat.min_eq_left hb]
  by_cases h : a ≤ z.length
  · rw [Nat.min_eq_left h]
  · rw [Nat.min_eq_right (by omega)]
    have e1 : z.cps.toList.drop z.length = [] := List.drop_eq_nil_of_le (by show (TL.tl z).length ≤ _; omega)
    have e2 : (TL.tl z).drop a = [] := List.drop_eq_nil_of_le (by omega)
    rw [e1, e2]
    simp
theorem run_len {cs : List Nat} {f : Nat} (h : f ≤ cs.length) : f + run cs f ≤ cs.length := by
  have := run_le cs f
  omega
theorem int_cut {z : Str} {cs : List Nat} (hcs : TL.tl z = cs) {p n : Nat} (h1 : 1 ≤ n) (h2 : n ≤ run cs (begins cs p)) (h3 : n ≤ 600) :
    PySem.intText? (cutS z (some (p : Int)) (some ((begins cs p + n : Nat) : Int))) = some (intAt cs p n) ∧ (cutS z (some (p : Int)) (some ((begins cs p + n : Nat) : Int))).length ≤ 640 := by
  have hl := TL.len_tl z
  rw [hcs] at hl
  have hr := run_le cs (begins cs p)
  have hg := begins_ge cs p
  have hb : begins cs p + n ≤ z.length := by omega
  have hne : ((cs.drop (begins cs p)).take n) ≠ [] := fun e => by
    have := congrArg List.length e
    rw [List.length_take, List.length_drop] at this
    simp only [List.length_nil] at this
    omega
  have hd := run_all h2
  have ht := cut_tl (z := z) (a := p) hb
  rw [hcs] at ht
  have hlen : (cutS z (some (p : Int)) (some ((begins cs p + n : Nat) : Int))).length ≤ 640 := by
    rw [TL.len_tl, ht, List.length_take]
    omega
  refine ⟨?_, hlen⟩
  unfold intAt
  by_cases hm : cs[p]? = some 45
  · rw [if_pos hm]
    have hbg : begins cs p = p + 1 := by
      unfold begins
      rw [if_pos hm]
    rw [hbg] at ht hne hd hlen ⊢
    have hp := (List.getElem?_eq_some_iff.mp hm).1
    have e : (cs.drop p).take (p + 1 + n - p) = 45 :: ((cs.drop (p + 1)).take n) := by
      rw [show p + 1 + n - p = n + 1 by omega, List.drop_eq_getElem_cons hp, List.take_succ_cons]
      congr 1
      have := (List.getElem?_eq_some_iff.mp hm).2
      exact this
    rw [e] at ht
    exact PySem.intText_neg ht hd hne (by omega)
  · rw [if_neg hm]
    have hbg : begins cs p = p := by
      unfold begins
      rw [if_neg hm]
    rw [hbg] at ht hne hd hlen ⊢
    rw [show p + n - p = n by omega] at ht
    have q := PySem.intText_digits (x := cutS z (some (p : Int)) (some ((p + n : Nat) : Int))) (by rw [show (cutS z (some (p : Int)) (some ((p + n : Nat) : Int))).cps.toList = _ from ht]; exact hd)
      (by rw [show (cutS z (some (p : Int)) (some ((p + n : Nat) : Int))).cps.toList = _ from ht]; exact hne) (by omega)
    rw [show (cutS z (some (p : Int)) (some ((p + n : Nat) : Int))).cps.toList = _ from ht] at q
    exact q
theorem s45 : ("-" : Str) = sg 45 := by decide +kernel
theorem s48 : ("0" : Str) = sg 48 := by decide +kernel
section
variable {σ : L2.St} {H : Hp} {te to ti : TE} {tl th : TO} {K : PySem.W.Frag}
theorem ev_slS {z : Str} {lo hi : Option Int} (h : Ev te σ H (.str z)) (h1 : EvO tl σ H lo) (h2 : EvO th σ H hi) (hz : z.length ≤ 100000) : Ev (tSl rSlS te tl th) σ H (.str (cutS z lo hi)) := fun H1 e _ q =>
  h H1 e _ fun H2 e2 => h1 H2 (e.trans e2) _ fun H3 e3 => h2 H3 ((e.trans e2).trans e3) _ fun H4 e4 => ⟨z, rfl, sz_of hz, q H4 ((e2.trans e3).trans e4)⟩
abbrev tInt (te : TE) : TE := tCB (fun xs H Q => ∃ a n, xs = [V.str a] ∧ PySem.intText? a = some n ∧ a.length ≤ 640 ∧ Q (.int n) H) (tCons te tNil)
theorem ev_int {a : Str} {n : Int} (h : Ev te σ H (.str a)) (hn : PySem.intText? a = some n) (hl : a.length ≤ 640) : Ev (tInt te) σ H (.int n) := ev_cb (ea_cons h ea_nil) fun H1 _ Q q => ⟨a, n, rfl, hn, hl, q H1 (Ex.refl H1)⟩
end
/-- the readers' constants -/
structure Cn (mg : Str → Option Value) : Prop where
  dg : ∃ t, mg "DIGITS" = some (.str "0123456789" t)
  md : ∃ t, mg "MOST_DIGITS" = some (.int 30 t)
  dp : ∃ t, mg "DEEPEST" = some (.int 30 t)
section
variable {P : Program} {w : World} {K : PySem.W.Frag} {mg : Str → Option Value} {base : Heap}
def spRI (CB : Addr) : Sp := fun vs H Q E => ∃ (z : Str) (p : Nat), vs = [.str z, .int (p : Int)] ∧ z.length ≤ 90000 ∧ p < z.length ∧ Told CB (riP (TL.tl z) p) H Q E
theorem scRI : FnScope ["text", "place", "first", "behind"] ["text", "place"] (defScope sReadInt) := ⟨rfl, rfl, rfl, by decide +kernel, rfl, by decide +kernel, by decide +kernel⟩
theorem ok_RI {f fI CB : Addr} {fd dI : FuncData} (F : Fun K "_read_integer" "_read_integer" sReadInt f fd) (B : Bt mg) (N : Cn mg) (EB : Bx K mg CB fI dI) : FnOk P w K mg base (L2.CX P w) 3 f fd ["text", "place"] (spRI CB) := by
  have GI : FnOk P w K mg base CX0 1 fI dI ["self", "place"] (spBI K CB) := ok_BI EB
  obtain ⟨t1, hDG⟩ := N.dg
  obtain ⟨t2, hMD⟩ := N.md
  refine F.okX scRI (fun vs H Q E h => ?_) (fun cdv A outer s H vs Q E hr h => ?_)
  · obtain ⟨z, p, rfl, _⟩ := h
    rfl
  obtain ⟨z, p, rfl, hz, hp, k⟩ := h
  refine ⟨_, pss_cons (ps_set (i := 2) scRI.nd rfl (.inl rfl) (pe_ifExp (pt_cmpR op_eq (pe_ix ix_str (pv 0) (pv 1) (fun _ _ => rfl)) pe_str (nomark _)) (pe_op op_add (pv 1) pe_int) (pv 1)))
    (pss_cons (ps_set (i := 3) scRI.nd rfl (.inl rfl) (pv 2))
    (pss_cons (ps_while (passes_of rfl) (PW.pt (pw_and (pt_cmpR op_lt (pv 3) (pe_callB call_len_str (by rfl) B.len PySem.boot_len (pa_cons (pv 0) pa_nil)) (nomark _)) (pw_and1 (pt_cmpR op_in_sign (pe_ix ix_str (pv 0) (pv 3) (fun _ _ => rfl)) (pe_glob (v := .str "0123456789") rfl hDG ⟨_, rfl⟩) (by rfl)))))
      (pss_one (ps_aug (i := 3) scRI.nd rfl (.inl rfl) pe_int ip_add)))
    (pss_cons (ps_if (pt_cmpR op_eq (pv 3) (pv 2) (nomark _))
      (pss_one (ps_raise rfl (takes_of rfl rfl rfl rfl) (pmk_oex EB.T EB.iC EB.tI GI hr EB.b .nil pass0 (by rfl) EB.g (pa_cons (pv 2) pa_nil)))) pss_nil)
    (pss_cons (ps_if (pt_cmpR op_eq (pe_ix ix_str (pv 0) (pv 2) (fun _ _ => rfl)) pe_str (nomark _))
      (pss_cons (ps_if (pt_cmpR op_gt (pv 2) (pv 1) (nomark _))
        (pss_one (ps_raise rfl (takes_of rfl rfl rfl rfl) (pmk_oex EB.T EB.iC EB.tI GI hr EB.b .nil pass0 (by rfl) EB.g (pa_cons (pv 2) pa_nil)))) pss_nil)
      (pss_one (ps_ret (pe_tup (pa_cons pe_int (pa_cons (pe_op op_add (pv 2) pe_int) pa_nil)))))) pss_nil)
    (pss_cons (ps_if (pt_cmpR op_gt (pe_op op_sub (pv 3) (pv 2)) (pe_glob (v := .int 30) rfl hMD ⟨_, rfl⟩) (nomark _))
      (pss_one (ps_raise rfl (takes_of rfl rfl rfl rfl) (pmk_oex EB.T EB.iC EB.tI GI hr EB.b .nil pass0 (by rfl) EB.g (pa_cons (pe_op op_add (pv 2) (pe_glob (v := .int 30) rfl hMD ⟨_, rfl⟩)) pa_nil)))) pss_nil)
    (pss_one (ps_ret (pe_tup (pa_cons (pe_callTy call_int_str (by rfl) B.int boot_int (pa_cons (pe_slice sl_str (pv 0) (po_some (pv 1)) (po_some (pv 3))) pa_nil)) (pa_cons (pv 3) pa_nil)))))))))), ?_⟩
  have hz1 : z.length ≤ 100000 := by omega
  have hlz := TL.len_tl z
  obtain ⟨c0, hc0⟩ : ∃ c, (TL.tl z)[p]? = some c := ⟨_, List.getElem?_eq_getElem (by omega)⟩
  obtain ⟨cs, hcs⟩ : ∃ cs, TL.tl z = cs := ⟨_, rfl⟩
  have hc0s : cs[p]? = some c0 := by rw [← hcs]; exact hc0
  have hk : Told CB (riP cs p) H Q E := by rw [← hcs]; exact k
  clear k
  have hlen : cs.length = z.length := by rw [← hcs]; omega
  have hbg := begins_ge cs p
  have hbe : ((begins cs p : Nat) : Int) = if c0 = 45 then (p : Int) + 1 else (p : Int) := by
    unfold begins
    rw [hc0s]
    by_cases h : c0 = 45
    · rw [if_pos h, if_pos (by rw [h])]
      omega
    · rw [if_neg h, if_neg (by intro q; cases q; exact h rfl)]
  have hrl := run_le cs (begins cs p)
  refine q_asg (v := .int ((begins cs p : Nat) : Int)) (ev_if (b := decide (c0 = 45)) (et_sign (ev_var rfl) (ev_var rfl) hz1 hc0 s45) (fun q => ev_is (ev_op (ev_var rfl) ev_c rv_I0) (by rw [hbe, if_pos (of_decide_eq_true q)])) (fun q => ev_is (ev_var rfl) (by rw [hbe, if_neg (of_decide_eq_false q)]))) fun H1 e1 => ?_
  unfold riP at hk
  dsimp only at hk
  generalize hf : begins cs p = f at hk hbg hrl hbe
  refine q_asg (v := .int (f : Int)) (ev_var rfl) fun H2 e2 => ?_
  have E2 := e1.trans e2
  refine q_while (fun m σ' H' => ∃ n : Nat, σ' = [some (.str z), some (.int (p : Int)), some (.int (f : Int)), some (.int ((f + n : Nat) : Int))] ∧ Ex H H' ∧ n ≤ run cs f ∧ m = cs.length + 1 - n) (cs.length + 1) ⟨0, rfl, E2, by omega, by omega⟩ ?_
  rintro m σ' H' ⟨n, rfl, ex, hn, rfl⟩
  refine ⟨decide (f + n < z.length) && (match cs[f + n]? with | some c => isD c | none => true), et_and (et_lt (ev_var rfl) (ev_var rfl) hz1) (fun q => ?_), fun q H3 e3 => ?_, fun q H3 e3 => ?_⟩
  · have q1 := of_decide_eq_true q
    cases hc : cs[f + n]? with
    | none => exact absurd (ge_len hc) (by omega)
    | some c => exact et_is (et_in (w := "0123456789") (ev_var rfl) (ev_var rfl) hz1 (by rw [hcs]; exact hc)) (in_digs c)
  · obtain ⟨q1, q2⟩ := Bool.and_eq_true_iff.mp q
    have q1 := of_decide_eq_true q1
    obtain ⟨c, hc⟩ : ∃ c, cs[f + n]? = some c := ⟨_, List.getElem?_eq_getElem (by omega)⟩
    rw [hc] at q2
    have hn1 := run_next hn hc q2
    refine ⟨_, fun σ2 H4 hN => ⟨cs.length + 1 - (n + 1), by omega, hN⟩, ?_⟩
    refine s_aug (f := fun i j => i + j) (a := ((f + n : Nat) : Int)) (b := 1) rfl ev_c fun H4 e4 => ⟨n + 1, ?_, (ex.trans e3).trans e4, hn1, rfl⟩
    show [some (V.str z), some (.int (p : Int)), some (.int (f : Int)), some (.int (((f + n : Nat) : Int) + 1))] = _
    rw [show (((f + n : Nat) : Int) + 1) = ((f + (n + 1) : Nat) : Int) by omega]
  · have hn2 : n = run cs f := by
      refine run_end hn ?_
      cases hc : cs[f + n]? with
      | none => exact .inl rfl
      | some c =>
        have hl := (List.getElem?_eq_some_iff.mp hc).1
        rw [hc, decide_eq_true (show f + n < z.length by omega)] at q
        exact .inr ⟨c, rfl, q⟩
    have E3 := ex.trans e3
    rw [← hn2] at hk
    refine q_when (b := decide (f + n = f)) (et_is (et_test (ev_op (ev_var rfl) (ev_var rfl) (rv_eq rfl))) (Ht.dI _ _)) (fun q2 H4 e4 => ?_) (fun q2 H4 e4 => ?_)
    · have q2 := of_decide_eq_true q2
      rw [if_pos (by omega)] at hk
      exact rd_bad (ev_var rfl) fun H6 d e6 _ h6 => hk.bad rfl d H6 ((E3.trans e4).trans e6) h6
    have q2 := of_decide_eq_false q2
    have E4 := E3.trans e4
    rw [if_neg (by omega)] at hk
    obtain ⟨c, hc⟩ : ∃ c, cs[f]? = some c := ⟨_, List.getElem?_eq_getElem (by omega)⟩
    have hcz : (TL.tl z)[f]? = some c := by rw [hcs]; exact hc
    rw [hc] at hk
    refine q_when (b := decide (c = 48)) (et_sign (ev_var rfl) (ev_var rfl) hz1 hcz s48) (fun q3 H5 e5 => ?_) (fun q3 H5 e5 => ?_)
    · have q3 := of_decide_eq_true q3
      rw [q3, if_pos rfl] at hk
      refine q_when (b := decide (p < f)) (et_is (et_test (ev_op (ev_var rfl) (ev_var rfl) rv_I0)) (by
        refine decide_eq_decide.mpr ?_
        omega)) (fun q4 H6 e6 => ?_) (fun q4 H6 e6 => ?_)
      · rw [if_pos (of_decide_eq_true q4)] at hk
        exact rd_bad (ev_var rfl) fun H7 d e7 _ h7 => hk.bad rfl d H7 (((E4.trans e5).trans e6).trans e7) h7
      · rw [if_neg (of_decide_eq_false q4)] at hk
        refine s_retU (eu_tup (ea_cons ev_c (ea_cons (ev_op (ev_var rfl) ev_c rv_I0) ea_nil)) (by show (2 : Nat) ≤ 100000; decide)) fun t H7 ht e7 h7 => ?_
        refine hk.ok rfl (.int 0) t H7 (((E4.trans e5).trans e6).trans e7) (.int 0) ?_
        rw [h7, show ((f + 1 : Nat) : Int) = (f : Int) + 1 by omega]
    · have q3 := of_decide_eq_false q3
      rw [if_neg (by intro z; cases z; exact q3 rfl)] at hk
      have E5 := E4.trans e5
      refine q_when (b := decide (30 < n)) (et_is (et_test (ev_op (ev_op (ev_var rfl) (ev_var rfl) rv_I0) ev_c rv_I0)) (by
        refine decide_eq_decide.mpr ?_
        omega)) (fun q4 H6 e6 => ?_) (fun q4 H6 e6 => ?_)
      · rw [if_pos (of_decide_eq_true q4)] at hk
        exact rd_bad (ev_op (ev_var rfl) ev_c rv_I0) fun H7 d e7 _ h7 => hk.bad rfl d H7 ((E5.trans e6).trans e7) (by rw [h7, show ((f + 30 : Nat) : Int) = (f : Int) + 30 by omega])
      · have q4 := of_decide_eq_false q4
        rw [if_neg q4] at hk
        obtain ⟨i1, i2⟩ := int_cut (z := z) hcs (p := p) (n := n) (by omega) (by rw [hf]; omega) (by omega)
        rw [hf] at i1 i2
        refine s_retU (eu_tup (ea_cons (ev_int (ev_slS (ev_var rfl) (eo_some (ev_var rfl)) (eo_some (ev_var rfl)) hz1) i1 i2) (ea_cons (ev_var rfl) ea_nil)) (by show (2 : Nat) ≤ 100000; decide)) fun t H7 ht e7 h7 => ?_
        exact hk.ok rfl (.int (intAt cs p n)) t H7 ((E5.trans e6).trans e7) (.int _) h7
end
end Ht
/-! the program's readers: things and tuples; unpacked -/
namespace Ht
open PySem PySem.Spec PyProof.Rows L2 Hu Evl
theorem Told.ex {CB : Addr} {r : R} {H H1 : Hp} {Q : VK} {E : XK} (k : Told CB r H Q E) (e : Ex H H1) : Told CB r H1 Q E := by
  cases r with
  | ok u q => exact fun v t H' s o h => k v t H' (e.trans s) o h
  | bad q => exact fun d H' s h => k d H' (e.trans s) h
section
variable {H H' : Hp}
mutual
theorem Od.tups (k : ∀ a xs, H a = some (.tup xs) → H' a = some (.tup xs)) : ∀ {u : U} {v : V}, Od H v u → sm u → Od H' v u
  | _, _, .non, _ => .non
  | _, _, .bl b, _ => .bl b
  | _, _, .int i, _ => .int i
  | _, _, .str z, _ => .str z
  | _, _, .tup h l, s => .tup (k _ _ h) (OdL.tups k l (by simpa only [sm] using s))
  | _, _, .lst h, s => by simp only [sm] at s
  | _, _, .dct h, s => by simp only [sm] at s
theorem OdL.tups (k : ∀ a xs, H a = some (.tup xs) → H' a = some (.tup xs)) : ∀ {us : List U} {vs : List V}, OdL H vs us → smL us → OdL H' vs us
  | _, _, .nil, _ => .nil
  | _, _, .cons x l, s => .cons (Od.tups k x s.1) (OdL.tups k l s.2)
end
theorem OdL.append : ∀ {us us' : List U} {vs vs' : List V}, OdL H vs us → OdL H vs' us' → OdL H (vs ++ vs') (us ++ us')
  | _, _, _, _, .nil, h => h
  | _, _, _, _, .cons x l, h => .cons x (OdL.append l h)
theorem tups_upd {D : Addr} {o : HO} {xs : List V} (h : H D = some (.lst xs)) : ∀ a ys, H a = some (.tup ys) → upd H D o a = some (.tup ys) := fun a ys e => by
  rw [upd_ne (fun z => by rw [z, h] at e; cases e)]
  exact e
end
section
variable {σ : L2.St} {H : Hp} {te to ti : TE} {ta : TA} {K : PySem.W.Frag} {D : Ends} {g : TG} {sp : Sp} {E : L2.St → XK} {vs : List V}
theorem s_retPair {xs : List V} {i : Int} (h : EvU te σ H xs) (hi : ∀ H1, Ex H H1 → Ev ti σ H1 (.int i)) (k : ∀ p t H1, Ex H H1 → H1 p = some (.tup xs) → H1 t = some (.tup [.ref p, .int i]) → D.rt (.ref t) H1) : tRet (tTup (tCons te (tCons ti tNil))) D σ H :=
  h H (Ex.refl H) _ fun p H1 hp e h1 => hi H1 e H1 (Ex.refl H1) _ fun H2 e2 => ⟨sz_of (show (2 : Nat) ≤ 100000 by decide), fun t ht => k p t _ ((e.trans e2).trans (Ex.new ht)) (by rw [upd_ne (ne_of_none (e2 _ _ h1) ht)]; exact e2 _ _ h1) upd_same⟩
abbrev tTupOf (K : PySem.W.Frag) (te : TE) : TE := tCB (fun xs H Q => ∃ p ys, xs = [V.ref p] ∧ ((SqL K H p ys ∧ ∀ l, H l = none → Q (.ref l) (upd H l (.tup ys))) ∨ (SqT K H p ys ∧ Q (.ref p) H))) (tCons te tNil)
theorem eu_tupOf {p : Addr} {ys : List V} (h : Ev te σ H (.ref p)) (hp : H p = some (.lst ys)) : EvU (tTupOf K te) σ H ys := fun H1 e Q q =>
  h H1 e _ fun H2 e2 => ⟨p, ys, rfl, .inl ⟨sq_of ((e.trans e2) _ _ hp), fun l hl => q l _ (fresh_back e2 hl) (e2.trans (Ex.new hl)) upd_same⟩⟩
theorem s_retCall (h : EvA ta σ H vs) (k : ∀ H1, Ex H H1 → sp vs H1 D.rt (E σ)) : tRet (tCallS sp E ta) D σ H := h H (Ex.refl H) _ fun H1 e => k H1 e
theorem q_asgCall {tz : TS} (h : EvA ta σ H vs) (k : ∀ H1, Ex H H1 → sp vs H1 (fun x H2 => g x σ H2 (tz D)) (E σ)) : tSeq (tAsg (tCallS sp E ta) g) tz D σ H := h H (Ex.refl H) _ fun H1 e => k H1 e
end
theorem s46 : ("." : Str) = sg 46 := by decide +kernel
theorem s40 : ("(" : Str) = sg 40 := by decide +kernel
theorem s41 : (")" : Str) = sg 41 := by decide +kernel
theorem c_tl : TL.tl (",)" : Str) = [44, 41] := by decide +kernel
/-- what _read_tuple tells -/
def rdTup (cs : List Nat) (k p : Nat) : R := if cs[p]? = some 41 then .ok (.tup []) (p + 1) else rdItems cs (rdThing cs (riP cs) k) cs.length p []
section
variable {P : Program} {w : World} {K : PySem.W.Frag} {mg : Str → Option Value} {base : Heap}
def spRT (CB : Addr) (k : Nat) : Sp := fun vs H Q E => ∃ (z : Str) (p d : Nat), vs = [.str z, .int (p : Int), .int (d : Int)] ∧ d + k = 30 ∧ z.length ≤ 90000 ∧ p ≤ z.length ∧ Told CB (rdThing (TL.tl z) (riP (TL.tl z)) k p) H Q E
def spRTu (CB : Addr) (k : Nat) : Sp := fun vs H Q E => ∃ (z : Str) (p d : Nat), vs = [.str z, .int (p : Int), .int (d : Int)] ∧ d + k = 30 ∧ z.length ≤ 90000 ∧ 1 ≤ p ∧ p ≤ z.length ∧ Told CB (rdTup (TL.tl z) k p) H Q E
def spRTuP (CB : Addr) : Nat → Sp
  | 0 => fun _ _ _ _ => False
  | k + 1 => spRTu CB k
theorem scRT : FnScope ["text", "place", "depth"] ["text", "place", "depth"] (defScope sReadThing) := ⟨rfl, rfl, rfl, by decide +kernel, rfl, by decide +kernel, by decide +kernel⟩
theorem scRTu : FnScope ["text", "place", "depth", "thing", "things"] ["text", "place", "depth"] (defScope sReadTuple) := ⟨rfl, rfl, rfl, by decide +kernel, rfl, by decide +kernel, by decide +kernel⟩
theorem ok_RT {f fT fS fN f2 fI CB : Addr} {fd dT dS dN d2 dI : FuncData} (F : Fun K "_read_thing" "_read_thing" sReadThing f fd) (B : Bt mg) (N : Cn mg) (EB : Bx K mg CB fI dI) (DT : Df K mg "_read_tuple" sReadTuple ["text", "place", "depth"] fT dT) (DS : Df K mg "_read_string" sReadStr ["text", "place"] fS dS)
    (DN : Df K mg "_read_integer" sReadInt ["text", "place"] fN dN) (D2 : Df K mg "is_signs" sIsSigns ["thing"] f2 d2) (k : Nat) (G : FnOk P w K mg base (L2.CX P w) (3 + 2 * k) fT dT ["text", "place", "depth"] (spRTuP CB k)) : FnOk P w K mg base (L2.CX P w) (3 + 2 * k + 1) f fd ["text", "place", "depth"] (spRT CB k) := by
  have GI : FnOk P w K mg base CX0 1 fI dI ["self", "place"] (spBI K CB) := ok_BI EB
  have GS : FnOk P w K mg base (L2.CX P w) 3 fS dS ["text", "place"] (spRS CB) := ok_RS DS.F B D2 EB
  have GN : FnOk P w K mg base (L2.CX P w) 3 fN dN ["text", "place"] (spRI CB) := ok_RI DN.F B N EB
  obtain ⟨t1, hDP⟩ := N.dp
  refine F.okX scRT (fun vs H Q E h => ?_) (fun cdv A outer s H vs Q E hr h => ?_)
  · obtain ⟨z, p, d, rfl, _⟩ := h
    rfl
  obtain ⟨z, p, d, rfl, hdk, hz, hp, hk⟩ := h
  have hr3 : Room 3 (A.deeper (envOfC "_read_thing" (defScope sReadThing) s.heap.objs.size f cdv)) := hr.mono (by omega)
  refine ⟨_, pss_cons (ps_if (pt_cmpR op_eq (pv 1) (pe_callB call_len_str (by rfl) B.len PySem.boot_len (pa_cons (pv 0) pa_nil)) (nomark _))
      (pss_one (ps_raise rfl (takes_of rfl rfl rfl rfl) (pmk_oex EB.T EB.iC EB.tI GI (hr3.mono (by decide)) EB.b .nil pass0 (by rfl) EB.g (pa_cons (pv 1) pa_nil)))) pss_nil)
    (pss_cons (ps_if (pt_cmpR op_eq (pe_ix ix_str (pv 0) (pv 1) (fun _ _ => rfl)) pe_str (nomark _)) (pss_one (ps_ret (pe_tup (pa_cons pe_non (pa_cons (pe_op op_add (pv 1) pe_int) pa_nil))))) pss_nil)
    (pss_cons (ps_if (pt_cmpR op_eq (pe_ix ix_str (pv 0) (pv 1) (fun _ _ => rfl)) pe_str (nomark _))
      (pss_one (ps_ret (pe_callS GS hr3 rfl DS.g DS.F.kp DS.b (fun σ => passAt (takes_of rfl rfl rfl rfl) σ) (pa_cons (pv 0) (pa_cons (pe_op op_add (pv 1) pe_int) pa_nil))))) pss_nil)
    (pss_cons (ps_if (pt_cmpR op_ne (pe_ix ix_str (pv 0) (pv 1) (fun _ _ => rfl)) pe_str (nomark _))
      (pss_one (ps_ret (pe_callS GN hr3 rfl DN.g DN.F.kp DN.b (fun σ => passAt (takes_of rfl rfl rfl rfl) σ) (pa_cons (pv 0) (pa_cons (pv 1) pa_nil))))) pss_nil)
    (pss_cons (ps_if (pt_cmpR op_eq (pv 2) (pe_glob (v := .int 30) rfl hDP ⟨_, rfl⟩) (nomark _))
      (pss_one (ps_raise rfl (takes_of rfl rfl rfl rfl) (pmk_oex EB.T EB.iC EB.tI GI (hr3.mono (by decide)) EB.b .nil pass0 (by rfl) EB.g (pa_cons (pv 1) pa_nil)))) pss_nil)
    (pss_one (ps_ret (pe_callS G hr rfl DT.g DT.F.kp DT.b (fun σ => passAt (takes_of rfl rfl rfl rfl) σ) (pa_cons (pv 0) (pa_cons (pe_op op_add (pv 1) pe_int) (pa_cons (pe_op op_add (pv 2) pe_int) pa_nil)))))))))), ?_⟩
  have hz1 : z.length ≤ 100000 := by omega
  have hlz := TL.len_tl z
  refine q_when (b := decide (p = z.length)) (et_end (ev_var rfl) (ev_var rfl) hz1) (fun q H1 e1 => ?_) (fun q H1 e1 => ?_)
  · have q := of_decide_eq_true q
    have hc : (TL.tl z)[p]? = none := List.getElem?_eq_none_iff.mpr (by omega)
    have e : rdThing (TL.tl z) (riP (TL.tl z)) k p = .bad p := by
      unfold rdThing
      rw [hc]
    exact rd_bad (ev_var rfl) fun H6 d e6 _ h6 => hk.bad e d H6 (e1.trans e6) h6
  have q := of_decide_eq_false q
  obtain ⟨c, hc⟩ : ∃ c, (TL.tl z)[p]? = some c := ⟨_, List.getElem?_eq_getElem (by omega)⟩
  refine q_when (b := decide (c = 46)) (et_sign (ev_var rfl) (ev_var rfl) hz1 hc s46) (fun q2 H2 e2 => ?_) (fun q2 H2 e2 => ?_)
  · have q2 := of_decide_eq_true q2
    have e : rdThing (TL.tl z) (riP (TL.tl z)) k p = .ok .non (p + 1) := by
      unfold rdThing
      rw [hc]
      dsimp only
      rw [if_pos q2]
    refine s_retU (eu_tup (ea_cons ev_c (ea_cons (ev_op (ev_var rfl) ev_c rv_I0) ea_nil)) (by show (2 : Nat) ≤ 100000; decide)) fun t H7 ht e7 h7 => ?_
    refine hk.ok e .non t H7 ((e1.trans e2).trans e7) .non ?_
    rw [h7, show ((p + 1 : Nat) : Int) = (p : Int) + 1 by omega]
  have q2 := of_decide_eq_false q2
  refine q_when (b := decide (c = 39)) (et_sign (ev_var rfl) (ev_var rfl) hz1 hc s39) (fun q3 H3 e3 => ?_) (fun q3 H3 e3 => ?_)
  · have q3 := of_decide_eq_true q3
    have e : rdThing (TL.tl z) (riP (TL.tl z)) k p = rdStr (TL.tl z) (TL.tl z).length (p + 1) [] := by
      unfold rdThing
      rw [hc]
      dsimp only
      rw [if_neg q2, if_pos q3]
    rw [e] at hk
    refine s_retCall (sp := spRS CB) (vs := [.str z, .int ((p + 1 : Nat) : Int)]) (ea_cons (ev_var rfl) (ea_cons (ev_is (ev_op (ev_var rfl) ev_c rv_I0) (by rw [show ((p + 1 : Nat) : Int) = (p : Int) + 1 by omega])) ea_nil)) fun H4 e4 => ?_
    exact ⟨z, p + 1, rfl, hz, by omega, by omega, hk.ex (((e1.trans e2).trans e3).trans e4)⟩
  have q3 := of_decide_eq_false q3
  refine q_when (b := !decide (c = 40)) (et_nsign (ev_var rfl) (ev_var rfl) hz1 hc s40) (fun q4 H4 e4 => ?_) (fun q4 H4 e4 => ?_)
  · have n4 : ¬ c = 40 := fun z => by rw [decide_eq_true z] at q4; cases q4
    have e : rdThing (TL.tl z) (riP (TL.tl z)) k p = riP (TL.tl z) p := by
      unfold rdThing
      rw [hc]
      dsimp only
      rw [if_neg q2, if_neg q3, if_neg n4]
    rw [e] at hk
    refine s_retCall (sp := spRI CB) (vs := [.str z, .int (p : Int)]) (ea_cons (ev_var rfl) (ea_cons (ev_var rfl) ea_nil)) fun H5 e5 => ?_
    exact ⟨z, p, rfl, hz, by omega, hk.ex ((((e1.trans e2).trans e3).trans e4).trans e5)⟩
  have y4 : c = 40 := by
    by_cases z : c = 40
    · exact z
    · rw [decide_eq_false z] at q4
      cases q4
  refine q_when (b := decide (d = 30)) (et_is (et_test (ev_op (ev_var rfl) ev_c (rv_eq rfl))) (Ht.dI d 30)) (fun q5 H5 e5 => ?_) (fun q5 H5 e5 => ?_)
  · have q5 := of_decide_eq_true q5
    have hk0 : k = 0 := by omega
    subst hk0
    have e : rdThing (TL.tl z) (riP (TL.tl z)) 0 p = .bad p := by
      unfold rdThing
      rw [hc]
      dsimp only
      rw [if_neg q2, if_neg q3, if_pos y4]
    exact rd_bad (ev_var rfl) fun H6 d e6 _ h6 => hk.bad e d H6 (((((e1.trans e2).trans e3).trans e4).trans e5).trans e6) h6
  · have q5 := of_decide_eq_false q5
    obtain ⟨k', rfl⟩ : ∃ k', k = k' + 1 := ⟨k - 1, by omega⟩
    have e : rdThing (TL.tl z) (riP (TL.tl z)) (k' + 1) p = rdTup (TL.tl z) k' (p + 1) := by
      unfold rdThing
      rw [hc]
      dsimp only
      rw [if_neg q2, if_neg q3, if_pos y4]
      rfl
    rw [e] at hk
    refine s_retCall (sp := spRTu CB k') (vs := [.str z, .int ((p + 1 : Nat) : Int), .int ((d + 1 : Nat) : Int)]) (ea_cons (ev_var rfl) (ea_cons (ev_is (ev_op (ev_var rfl) ev_c rv_I0) (by rw [show ((p + 1 : Nat) : Int) = (p : Int) + 1 by omega])) (ea_cons (ev_is (ev_op (ev_var rfl) ev_c rv_I0) (by rw [show ((d + 1 : Nat) : Int) = (d : Int) + 1 by omega])) ea_nil))) fun H6 e6 => ?_
    exact ⟨z, p + 1, d + 1, rfl, by omega, hz, by omega, by omega, hk.ex (((((e1.trans e2).trans e3).trans e4).trans e5).trans e6)⟩
theorem ok_RTu {f fT fI CB : Addr} {fd dT dI : FuncData} (F : Fun K "_read_tuple" "_read_tuple" sReadTuple f fd) (B : Bt mg) (EB : Bx K mg CB fI dI) (DT : Df K mg "_read_thing" sReadThing ["text", "place", "depth"] fT dT) (k : Nat) (G : FnOk P w K mg base (L2.CX P w) (3 + 2 * k + 1) fT dT ["text", "place", "depth"] (spRT CB k)) :
    FnOk P w K mg base (L2.CX P w) (3 + 2 * k + 1 + 1) f fd ["text", "place", "depth"] (spRTu CB k) := by
  have GI : FnOk P w K mg base CX0 1 fI dI ["self", "place"] (spBI K CB) := ok_BI EB
  refine F.okX scRTu (fun vs H Q E h => ?_) (fun cdv A outer s H vs Q E hr h => ?_)
  · obtain ⟨z, p, d, rfl, _⟩ := h
    rfl
  obtain ⟨z, p0, d, rfl, hdk, hz, hp1, hp2, hk⟩ := h
  have hr2 : Room 2 (A.deeper (envOfC "_read_tuple" (defScope sReadTuple) s.heap.objs.size f cdv)) := hr.mono (by omega)
  refine ⟨_, pss_cons (ps_if (PW.pt (pw_and (pt_cmpR op_lt (pv 1) (pe_callB call_len_str (by rfl) B.len PySem.boot_len (pa_cons (pv 0) pa_nil)) (nomark _)) (pw_and1 (pt_cmpR op_eq (pe_ix ix_str (pv 0) (pv 1) (fun _ _ => rfl)) pe_str (nomark _)))))
      (pss_one (ps_ret (pe_tup (pa_cons (pe_tup pa_nil) (pa_cons (pe_op op_add (pv 1) pe_int) pa_nil))))) pss_nil)
    (pss_cons (ps_set (i := 4) scRTu.nd rfl (.inl rfl) (pe_lst pa_nil))
    (pss_one (ps_while (passes_of rfl) (pt_val pe_bl)
      (pss_cons (ps_asg (pe_callS G hr rfl DT.g DT.F.kp DT.b (fun σ => passAt (takes_of rfl rfl rfl rfl) σ) (pa_cons (pv 0) (pa_cons (pv 1) (pa_cons (pv 2) pa_nil)))) (pg_tup rfl (pgs_cons (pg_name (i := 3) scRTu.nd rfl (.inl rfl)) (pgs_cons (pg_name (i := 1) scRTu.nd rfl (.inl rfl)) pgs_nil))))
      (pss_cons (ps_expr (pe_bm PySem.F.plainAttrs_list PySem.F.slot_list_append PySem.F.type_list_append mt_append (pv 4) (pa_cons (pv 3) pa_nil)))
      (pss_cons (ps_if (PW.pt (pw_or (pt_cmpR op_eq (pv 1) (pe_callB call_len_str (by rfl) B.len PySem.boot_len (pa_cons (pv 0) pa_nil)) (nomark _)) (pw_or1 (pt_cmpR op_notIn_sign (pe_ix ix_str (pv 0) (pv 1) (fun _ _ => rfl)) pe_str (by rfl)))))
        (pss_one (ps_raise rfl (takes_of rfl rfl rfl rfl) (pmk_oex EB.T EB.iC EB.tI GI hr2 EB.b .nil pass0 (by rfl) EB.g (pa_cons (pv 1) pa_nil)))) pss_nil)
      (pss_cons (ps_if (pt_cmpR op_eq (pe_ix ix_str (pv 0) (pv 1) (fun _ _ => rfl)) pe_str (nomark _))
        (pss_one (ps_ret (pe_tup (pa_cons (pe_callTy call_tuple_of (by rfl) B.tup (by decide +kernel) (pa_cons (pv 4) pa_nil)) (pa_cons (pe_op op_add (pv 1) pe_int) pa_nil))))) pss_nil)
      (pss_one (ps_aug (i := 1) scRTu.nd rfl (.inl rfl) pe_int ip_add))))))))), ?_⟩
  have hz1 : z.length ≤ 100000 := by omega
  have hlz := TL.len_tl z
  obtain ⟨cs, hcs⟩ : ∃ cs, TL.tl z = cs := ⟨_, rfl⟩
  rw [hcs] at hk hlz
  refine q_when (b := decide (p0 < z.length) && (match cs[p0]? with | some c => decide (c = 41) | none => true)) (et_and (et_lt (ev_var rfl) (ev_var rfl) hz1) (fun q => ?_)) (fun q H1 e1 => ?_) (fun q H1 e1 => ?_)
  · have q1 := of_decide_eq_true q
    cases hc : cs[p0]? with
    | none => exact absurd (ge_len hc) (by omega)
    | some c => exact et_sign (ev_var rfl) (ev_var rfl) hz1 (by rw [hcs]; exact hc) s41
  · obtain ⟨q1, q2⟩ := Bool.and_eq_true_iff.mp q
    have q1 := of_decide_eq_true q1
    obtain ⟨c, hc⟩ : ∃ c, cs[p0]? = some c := ⟨_, List.getElem?_eq_getElem (by omega)⟩
    rw [hc] at q2
    have q2 := of_decide_eq_true q2
    have e : rdTup cs k p0 = .ok (.tup []) (p0 + 1) := by
      unfold rdTup
      rw [if_pos (by rw [hc, q2])]
    refine s_retPair (eu_tup ea_nil (by show (0 : Nat) ≤ 100000; decide)) (fun H2 e2 => ev_op (ev_var rfl) ev_c rv_I0) fun p t H2 e2 h2 h3 => ?_
    refine hk.ok e (.ref p) t H2 (e1.trans e2) (.tup h2 .nil) ?_
    rw [h3, show ((p0 + 1 : Nat) : Int) = (p0 : Int) + 1 by omega]
  have hR : rdTup cs k p0 = rdItems cs (rdThing cs (riP cs) k) cs.length p0 [] := by
    unfold rdTup
    refine if_neg fun z => ?_
    have := (List.getElem?_eq_some_iff.mp z).1
    rw [z, decide_eq_true (by omega)] at q
    cases q
  rw [hR] at hk
  clear hR q
  generalize hR : rdItems cs (rdThing cs (riP cs) k) cs.length p0 [] = R0 at hk
  refine q_asgL (el_lst ea_nil (by show (0 : Nat) ≤ 100000; decide)) fun D H2 hD e2 h2 => ?_
  have hD0 : H D = none := fresh_back e1 hD
  refine s_while (fun m σ' H' => ∃ (p : Nat) (vs : List V) (us : List U) (x3 : Option V), σ' = [some (.str z), some (.int (p : Int)), some (.int (d : Int)), x3, some (.ref D)] ∧ Ex H H' ∧ H' D = some (.lst vs) ∧ OdL H' vs us ∧ smL us ∧ p ≤ cs.length ∧ cs.length + 1 ≤ p + m ∧ us.length ≤ p ∧ rdItems cs (rdThing cs (riP cs) k) m p us = R0) cs.length
    ⟨p0, [], [], none, rfl, e1.trans e2, h2, .nil, trivial, by omega, by omega, by simp, hR⟩ ?_
  rintro m σ' H' ⟨p, vs, us, x3, rfl, ex, hl, hod, hsm, hp, hm, hu, hr0⟩
  refine ⟨true, et_B ev_c, fun _ H3 e3 => ?_, fun q => by cases q⟩
  obtain ⟨m', rfl⟩ : ∃ m', m = m' + 1 := ⟨m - 1, by omega⟩
  unfold rdItems at hr0
  refine ⟨_, fun σ2 H4 hN => ⟨m', by omega, hN⟩, ?_⟩
  refine q_asgCall (sp := spRT CB k) (vs := [.str z, .int (p : Int), .int (d : Int)]) (ea_cons (ev_var rfl) (ea_cons (ev_var rfl) (ea_cons (ev_var rfl) ea_nil))) fun H4 e4 => ?_
  refine ⟨z, p, d, rfl, hdk, hz, by omega, ?_⟩
  rw [hcs]
  have E4 := (ex.trans e3).trans e4
  cases hrd : rdThing cs (riP cs) k p with
  | bad e =>
    rw [hrd] at hr0
    exact fun d H5 s5 h5 => hk.bad hr0.symm d H5 (E4.trans s5) h5
  | ok u q =>
    rw [hrd] at hr0
    dsimp only at hr0
    obtain ⟨b1, b2, b3⟩ := rdThing_ok (cs := cs) (ri := riP cs) (fun p u q h => riP_ok h) k p u q hrd
    intro v t H5 s5 o5 h5
    refine ⟨t, _, rfl, st_of h5, rfl, v, _, rfl, .int (q : Int), [], rfl, rfl, ?_⟩
    have hl5 : H5 D = some (.lst vs) := s5 _ _ (e4 _ _ (e3 _ _ hl))
    have hlen := OdL.length hod
    refine q_app (K := K) hl5 (ev_var rfl) (ev_var rfl) (by omega) fun H6 e6 => ?_
    have hl6 := e6 _ _ hl5
    have od6 : OdL H6 (vs ++ [v]) (us ++ [u]) := OdL.append (hod.ex (((e3.trans e4).trans s5).trans e6)) (.cons (o5.ex e6) .nil)
    have sm6 : smL (us ++ [u]) := smL_append hsm ⟨b3, trivial⟩
    have od7 : OdL (upd H6 D (.lst (vs ++ [v]))) (vs ++ [v]) (us ++ [u]) := OdL.tups (tups_upd hl6) od6 sm6
    have E7 : Ex H (upd H6 D (.lst (vs ++ [v]))) := Ex.mut ((E4.trans s5).trans e6) hD0
    have hl7 : upd H6 D (.lst (vs ++ [v])) D = some (.lst (vs ++ [v])) := upd_same
    generalize upd H6 D (.lst (vs ++ [v])) = H7 at od7 E7 hl7
    show tSeq _ _ _ [some (.str z), some (.int (q : Int)), some (.int (d : Int)), some v, some (.ref D)] H7
    cases hc : cs[q]? with
    | none =>
      have hlen := ge_len hc
      rw [hc, if_neg (by intro z; cases z), if_neg (by intro z; cases z)] at hr0
      refine q_when (b := true) (et_or (a := true) (b := true) (et_is (et_end (ev_var rfl) (ev_var rfl) hz1) (decide_eq_true (by omega))) (fun q => by cases q)) (fun _ H8 e8 => ?_) (fun q => by cases q)
      exact rd_bad (ev_var rfl) fun H9 d e9 _ h9 => hk.bad hr0.symm d H9 ((E7.trans e8).trans e9) h9
    | some c =>
      have hlq := (List.getElem?_eq_some_iff.mp hc).1
      have hcz : (TL.tl z)[q]? = some c := by rw [hcs]; exact hc
      rw [hc] at hr0
      refine q_when (b := false || !decide (c ∈ TL.tl (",)" : Str))) (et_or (a := false) (et_is (et_end (ev_var rfl) (ev_var rfl) hz1) (decide_eq_false (by omega))) (fun _ => et_ni (ev_var rfl) (ev_var rfl) hz1 hcz)) (fun q5 H8 e8 => ?_) (fun q5 H8 e8 => ?_)
      · rw [c_tl, Bool.false_or] at q5
        have n1 : ¬ (c = 44 ∨ c = 41) := fun z => by
          have : c ∈ [44, 41] := by simpa using z
          rw [decide_eq_true this] at q5
          cases q5
        rw [if_neg (fun z => n1 (.inr (Option.some.inj z))), if_neg (fun z => n1 (.inl (Option.some.inj z)))] at hr0
        exact rd_bad (ev_var rfl) fun H9 d e9 _ h9 => hk.bad hr0.symm d H9 ((E7.trans e8).trans e9) h9
      · rw [c_tl, Bool.false_or] at q5
        have y1 : c = 44 ∨ c = 41 := by
          by_cases z : c ∈ [44, 41]
          · simpa using z
          · rw [decide_eq_false z] at q5
            cases q5
        have E8 := E7.trans e8
        refine q_when (b := decide (c = 41)) (et_sign (ev_var rfl) (ev_var rfl) hz1 hcz s41) (fun q6 H9 e9 => ?_) (fun q6 H9 e9 => ?_)
        · have q6 := of_decide_eq_true q6
          rw [if_pos (by rw [q6])] at hr0
          refine s_retPair (eu_tupOf (K := K) (ev_var rfl) (e9 _ _ (e8 _ _ hl7))) (fun H2 e2 => ev_op (ev_var rfl) ev_c rv_I0) fun a t H10 e10 h10 h11 => ?_
          refine hk.ok hr0.symm (.ref a) t H10 ((E8.trans e9).trans e10) (.tup h10 (od7.ex ((e8.trans e9).trans e10))) ?_
          rw [h11, show ((q + 1 : Nat) : Int) = (q : Int) + 1 by omega]
        · have q6 := of_decide_eq_false q6
          have y44 : c = 44 := by omega
          rw [if_neg (fun z => q6 (Option.some.inj z)), if_pos (by rw [y44])] at hr0
          refine s_aug (f := fun i j => i + j) (a := (q : Int)) (b := 1) rfl ev_c fun H10 e10 => ?_
          have e11 := (e8.trans e9).trans e10
          exact ⟨q + 1, vs ++ [v], us ++ [u], some v, rfl, E7.trans e11, e11 _ _ hl7, od7.ex e11, sm6, by omega, by omega, by rw [List.length_append, List.length_singleton]; omega, hr0⟩
end
end Ht
/-! unpacked, _law_told -/
namespace Ht
open PySem PySem.Spec PyProof.Rows L2 Hu Evl

/-- what unpacked tells of any value -/
def unU : U → U ⊕ Int
  | .str z => match whole (TL.tl z) (rdThing (TL.tl z) (riP (TL.tl z)) 30 0) with
    | .inl u => .inl u
    | .inr e => .inr (e : Int)
  | _ => .inr (-1)
/-- the pair that the law makes of it -/
def toU : U ⊕ Int → U
  | .inl u => .tup [.str "thing", u]
  | .inr e => .tup [.str "wrong", .int e]
def ToldW (CB : Addr) (r : U ⊕ Int) (H : Hp) (Q : VK) (E : XK) : Prop := match r with
  | .inl u => ∀ (v : V) (H' : Hp), Same H H' → Od H' v u → Q v H'
  | .inr e => ∀ (d : Addr) (H' : Hp), Same H H' → H' d = some (.xd [("place", .int e)]) → E (.ref CB) (some d) H'
section
variable {P : Program} {w : World} {K : PySem.W.Frag} {mg : Str → Option Value} {base : Heap}
/-- where the program's readers stand -/
structure Rd (K : PySem.W.Frag) (mg : Str → Option Value) (CB : Addr) : Prop where
  B : Bt mg
  N : Cn mg
  E : ∃ fI dI, Bx K mg CB fI dI
  T : ∃ f d, Df K mg "_read_thing" sReadThing ["text", "place", "depth"] f d
  U : ∃ f d, Df K mg "_read_tuple" sReadTuple ["text", "place", "depth"] f d
  S : ∃ f d, Df K mg "_read_string" sReadStr ["text", "place"] f d
  I : ∃ f d, Df K mg "_read_integer" sReadInt ["text", "place"] f d
  G : ∃ f d, Df K mg "is_signs" sIsSigns ["thing"] f d
theorem ok_RTs {f fT fS fN f2 fI CB : Addr} {fd dT dS dN d2 dI : FuncData} (D : Df K mg "_read_thing" sReadThing ["text", "place", "depth"] f fd) (B : Bt mg) (N : Cn mg) (EB : Bx K mg CB fI dI) (DT : Df K mg "_read_tuple" sReadTuple ["text", "place", "depth"] fT dT) (DS : Df K mg "_read_string" sReadStr ["text", "place"] fS dS)
    (DN : Df K mg "_read_integer" sReadInt ["text", "place"] fN dN) (D2 : Df K mg "is_signs" sIsSigns ["thing"] f2 d2) : ∀ k : Nat, FnOk P w K mg base (L2.CX P w) (3 + 2 * k + 1) f fd ["text", "place", "depth"] (spRT CB k)
  | 0 => ok_RT D.F B N EB DT DS DN D2 0 ⟨fun _ _ _ _ h => h.elim, fun _ _ _ _ _ _ _ _ _ _ _ _ _ h => h.elim⟩
  | k + 1 => ok_RT D.F B N EB DT DS DN D2 (k + 1) (by
      have h := ok_RTu (P := P) (w := w) (base := base) DT.F B EB D k (ok_RTs D B N EB DT DS DN D2 k)
      exact h)
def spUn (CB : Addr) : Sp := fun vs H Q E => ∃ (v : V) (u : U), vs = [v] ∧ Od H v u ∧ brd u ∧ ToldW CB (unU u) H Q E
theorem scUn : FnScope ["text", "thing", "place"] ["text"] (defScope sUnpacked) := ⟨rfl, rfl, rfl, by decide +kernel, rfl, by decide +kernel, by decide +kernel⟩
theorem ok_unpacked {f CB : Addr} {fd : FuncData} (F : Fun K "unpacked" "unpacked" sUnpacked f fd) (R : Rd K mg CB) : FnOk P w K mg base (L2.CX P w) 65 f fd ["text"] (spUn CB) := by
  obtain ⟨B, N, ⟨fI, dI', EB⟩, ⟨fT, dT, DT⟩, ⟨fU, dU, DU⟩, ⟨fS, dS', DS⟩, ⟨fN, dN, DN⟩, ⟨f2, d2, D2⟩⟩ := R
  have GI : FnOk P w K mg base CX0 1 fI dI' ["self", "place"] (spBI K CB) := ok_BI EB
  have GT : FnOk P w K mg base (L2.CX P w) 64 fT dT ["text", "place", "depth"] (spRT CB 30) := ok_RTs DT B N EB DU DS DN D2 30
  refine F.okX scUn (fun vs H Q E h => ?_) (fun cdv A outer s H vs Q E hr h => ?_)
  · obtain ⟨v, u, rfl, _⟩ := h
    rfl
  obtain ⟨v, u, rfl, hat, bu, hk⟩ := h
  refine ⟨_, pss_cons (ps_if (pt_not (pt_val (pe_callB call_isi (by rfl) B.isi boot_isi' (pa_cons (pv 0) (pa_cons (pe_bltn (by rfl) B.str boot_str' (show RelV (.ty "str") (.type "str") from rfl)) pa_nil)))))
      (pss_one (ps_raise rfl (takes_of rfl rfl rfl rfl) (pmk_oex EB.T EB.iC EB.tI GI (hr.mono (by decide)) EB.b .nil pass0 (by rfl) EB.g (pa_cons (pe_un un_neg pe_int) pa_nil)))) pss_nil)
    (pss_cons (ps_asg (pe_callS GT hr rfl DT.g DT.F.kp DT.b (fun σ => passAt (takes_of rfl rfl rfl rfl) σ) (pa_cons (pv 0) (pa_cons pe_int (pa_cons pe_int pa_nil)))) (pg_tup rfl (pgs_cons (pg_name (i := 1) scUn.nd rfl (.inl rfl)) (pgs_cons (pg_name (i := 2) scUn.nd rfl (.inl rfl)) pgs_nil))))
    (pss_cons (ps_if (pt_cmpR op_lt (pv 2) (pe_callB call_len_str (by rfl) B.len PySem.boot_len (pa_cons (pv 0) pa_nil)) (nomark _))
      (pss_one (ps_raise rfl (takes_of rfl rfl rfl rfl) (pmk_oex EB.T EB.iC EB.tI GI (hr.mono (by decide)) EB.b .nil pass0 (by rfl) EB.g (pa_cons (pv 2) pa_nil)))) pss_nil)
    (pss_one (ps_ret (pv 1))))), ?_⟩
  refine q_when (b := !(isT u "str")) (et_not (et_B (ev_isiO (ev_var rfl) hat (by decide)))) (fun q H1 e1 => ?_) (fun q H1 e1 => ?_)
  · have e : unU u = .inr (-1) := by
      cases u with
      | str z => simp [isT, isS, tyU] at q
      | _ => rfl
    rw [e] at hk
    exact rd_bad (ev_un ev_c ru_neg) fun H6 d e6 _ h6 => hk d H6 (e1.trans e6) h6
  obtain ⟨z, rfl⟩ : ∃ z, u = .str z := by
    cases u with
    | str z => exact ⟨z, rfl⟩
    | _ => simp [isT, isS, tyU] at q
  cases hat
  have hz : z.length ≤ 90000 := by simpa only [brd] using bu
  have hz1 : z.length ≤ 100000 := by omega
  have hlz := TL.len_tl z
  have hk : ToldW CB (match whole (TL.tl z) (rdThing (TL.tl z) (riP (TL.tl z)) 30 0) with | .inl u => .inl u | .inr e => .inr (e : Int)) H Q E := hk
  refine q_asgCall (sp := spRT CB 30) (vs := [.str z, .int ((0 : Nat) : Int), .int ((0 : Nat) : Int)]) (ea_cons (ev_var rfl) (ea_cons ev_c (ea_cons ev_c ea_nil))) fun H2 e2 => ?_
  refine ⟨z, 0, 0, rfl, rfl, hz, by omega, ?_⟩
  have E2 := e1.trans e2
  cases hrd : rdThing (TL.tl z) (riP (TL.tl z)) 30 0 with
  | bad e =>
    rw [hrd] at hk
    exact fun d H5 s5 h5 => hk d H5 (E2.trans s5) h5
  | ok u q =>
    rw [hrd] at hk
    obtain ⟨b1, b2, b3⟩ := rdThing_ok (cs := TL.tl z) (ri := riP (TL.tl z)) (fun p u q h => riP_ok h) 30 0 u q hrd
    intro v t H5 s5 o5 h5
    refine ⟨t, _, rfl, st_of h5, rfl, v, _, rfl, .int (q : Int), [], rfl, rfl, ?_⟩
    show tSeq _ _ _ [some (.str z), some v, some (.int (q : Int))] H5
    have E5 := E2.trans s5
    unfold whole at hk
    dsimp only at hk
    refine q_when (b := decide (q < z.length)) (et_lt (ev_var rfl) (ev_var rfl) hz1) (fun q2 H6 e6 => ?_) (fun q2 H6 e6 => ?_)
    · have q2 := of_decide_eq_true q2
      rw [if_neg (by omega)] at hk
      exact rd_bad (ev_var rfl) fun H7 d e7 _ h7 => hk d H7 ((E5.trans e6).trans e7) h7
    · have q2 := of_decide_eq_false q2
      rw [if_pos (by omega)] at hk
      exact s_ret (ev_var rfl) fun H7 e7 => hk v H7 ((E5.trans e6).trans e7) (o5.ex (e6.trans e7))
end
end Ht
/-! the law's readers -/
namespace Ht
open PySem PySem.Spec PyProof.Rows L2 Hu Evl
abbrev lFirst : Stmt := topS 56
abbrev lReadStr : Stmt := topS 57
abbrev lReadInt : Stmt := topS 58
abbrev lReadTup : Stmt := topS 59
/-- what a reader of the law's tells -/
def ToldL (r : R) (H : Hp) (Q : VK) : Prop := match r with
  | .ok u q => ∀ (v : V) (t : Addr) (H' : Hp), Same H H' → Od H' v u → H' t = some (.tup [v, .int (q : Int), .bl false]) → Q (.ref t) H'
  | .bad e => ∀ (t : Addr) (H' : Hp), Same H H' → H' t = some (.tup [.non, .int (e : Int), .bl true]) → Q (.ref t) H'
theorem ToldL.ok {r : R} {u : U} {q : Nat} {H : Hp} {Q : VK} (k : ToldL r H Q) (e : r = .ok u q) : ∀ (v : V) (t : Addr) (H' : Hp), Same H H' → Od H' v u → H' t = some (.tup [v, .int (q : Int), .bl false]) → Q (.ref t) H' := by
  subst e
  exact k
theorem ToldL.bad {r : R} {q : Nat} {H : Hp} {Q : VK} (k : ToldL r H Q) (e : r = .bad q) : ∀ (t : Addr) (H' : Hp), Same H H' → H' t = some (.tup [.non, .int (q : Int), .bl true]) → Q (.ref t) H' := by
  subst e
  exact k
theorem ToldL.ex {r : R} {H H1 : Hp} {Q : VK} (k : ToldL r H Q) (e : Ex H H1) : ToldL r H1 Q := by
  cases r with
  | ok u q => exact fun v t H' s o h => k v t H' (e.trans s) o h
  | bad q => exact fun t H' s h => k t H' (e.trans s) h
theorem wrong_ret {σ : L2.St} {H H0 : Hp} {ti : TE} {D : Ends} {q : Nat} {r : R} (k : ToldL r H0 D.rt) (e : r = .bad q) (e0 : Ex H0 H) (h : Ev ti σ H (.int (q : Int))) : tRet (tTup (tCons (tC .non) (tCons ti (tCons (tC (.bl true)) tNil)))) D σ H :=
  s_retU (eu_tup (ea_cons ev_c (ea_cons h (ea_cons ev_c ea_nil))) (by show (3 : Nat) ≤ 100000; decide)) fun t H1 ht e1 h1 => k.bad e t H1 (e0.trans e1) h1
theorem right_ret {σ : L2.St} {H H0 : Hp} {te ti : TE} {D : Ends} {q : Nat} {r : R} {u : U} {v : V} (k : ToldL r H0 D.rt) (e : r = .ok u q) (e0 : Ex H0 H) (hv : Ev te σ H v) (ho : Od H v u) (h : Ev ti σ H (.int (q : Int))) : tRet (tTup (tCons te (tCons ti (tCons (tC (.bl false)) tNil)))) D σ H :=
  s_retU (eu_tup (ea_cons hv (ea_cons h (ea_cons ev_c ea_nil))) (by show (3 : Nat) ≤ 100000; decide)) fun t H1 ht e1 h1 => k.ok e v t H1 (e0.trans e1) (ho.ex e1) h1
theorem s_retIf {σ : L2.St} {H : Hp} {t : TT} {ta tb : TE} {D : Ends} {b : Bool} (h : EvT t σ H b) (h1 : b = true → ∀ H1, Ex H H1 → tRet ta D σ H1) (h2 : b = false → ∀ H1, Ex H H1 → tRet tb D σ H1) : tRet (tIf t ta tb) D σ H := h H (Ex.refl H) _ fun H1 e => by
  cases b with
  | true =>
    show ta σ H1 D.rt
    exact h1 rfl H1 e
  | false =>
    show tb σ H1 D.rt
    exact h2 rfl H1 e
theorem mk_snoc (acc : List Nat) (c : Nat) : mkS acc ++ (⟨#[c]⟩ : Str) = mkS (acc ++ [c]) := TL.ext_tl (by rw [TL.tl_append]; rfl)
theorem mk_len (acc : List Nat) : (mkS acc).length = acc.length := by rw [TL.len_tl]; rfl
section
variable {P : Program} {w : World} {K : PySem.W.Frag} {mg : Str → Option Value} {base : Heap}
def spLS : Sp := fun vs H Q _ => ∃ (z : Str) (p : Nat), vs = [.str z, .int (p : Int)] ∧ z.length ≤ 90000 ∧ 1 ≤ p ∧ p ≤ z.length ∧ ToldL (rdStr (TL.tl z) (TL.tl z).length p []) H Q
theorem scLS : FnScope ["text", "at", "found", "sign"] ["text", "at"] (defScope lReadStr) := ⟨rfl, rfl, rfl, by decide +kernel, rfl, by decide +kernel, by decide +kernel⟩
theorem ok_LS {f : Addr} {fd : FuncData} (F : Fun K "_law_read_string" "_law_read_string" lReadStr f fd) (B : Bt mg) : FnOk P w K mg base CX0 1 f fd ["text", "at"] spLS := by
  refine F.ok scLS (fun vs H Q E h => ?_) (fun cdv A outer s H vs Q E hr h => ?_)
  · obtain ⟨z, p, rfl, _⟩ := h
    rfl
  obtain ⟨z, p0, rfl, hz, hp1, hp2, k⟩ := h
  refine ⟨_, pss_cons (ps_set (i := 2) scLS.nd rfl (.inl rfl) pe_str)
    (pss_cons (ps_while PassesOwn.never (pt_cmpR op_lt (pv 1) (pe_callB call_len_str (by rfl) B.len PySem.boot_len (pa_cons (pv 0) pa_nil)) (nomark _))
      (pss_cons (ps_set (i := 3) scLS.nd rfl (.inl rfl) (pe_ix ix_str (pv 0) (pv 1) (fun _ _ => rfl)))
      (pss_cons (ps_if (pt_cmpR op_eq (pv 3) pe_str (nomark _)) (pss_one (ps_ret (pe_tup (pa_cons (pv 2) (pa_cons (pe_op op_add (pv 1) pe_int) (pa_cons pe_bl pa_nil)))))) pss_nil)
      (pss_cons (ps_if (pt_not (pt_chain op_le_str op_le_str pe_str (pv 3) pe_str)) (pss_one (ps_ret (pe_tup (pa_cons pe_non (pa_cons (pv 1) (pa_cons pe_bl pa_nil)))))) pss_nil)
      (pss_cons (ps_if (pt_cmpR op_eq (pv 3) pe_str (nomark _))
        (pss_cons (ps_set (i := 1) scLS.nd rfl (.inl rfl) (pe_op op_add (pv 1) pe_int))
        (pss_cons (ps_if (PW.pt (pw_or (pt_cmpR op_eq (pv 1) (pe_callB call_len_str (by rfl) B.len PySem.boot_len (pa_cons (pv 0) pa_nil)) (nomark _)) (pw_or1 (pt_cmpR op_notIn_sign (pe_ix ix_str (pv 0) (pv 1) (fun _ _ => rfl)) pe_str (by rfl)))))
          (pss_one (ps_ret (pe_tup (pa_cons pe_non (pa_cons (pv 1) (pa_cons pe_bl pa_nil)))))) pss_nil)
        (pss_one (ps_set (i := 3) scLS.nd rfl (.inl rfl) (pe_ix ix_str (pv 0) (pv 1) (fun _ _ => rfl)))))) pss_nil)
      (pss_cons (ps_set (i := 2) scLS.nd rfl (.inl rfl) (pe_op op_add_str (pv 2) (pv 3)))
      (pss_one (ps_set (i := 1) scLS.nd rfl (.inl rfl) (pe_op op_add (pv 1) pe_int)))))))))
    (pss_one (ps_ret (pe_tup (pa_cons pe_non (pa_cons (pv 1) (pa_cons pe_bl pa_nil))))))), ?_⟩
  have hz1 : z.length ≤ 100000 := by omega
  have hlz := TL.len_tl z
  generalize hcs : TL.tl z = cs at k hlz
  generalize hR : rdStr cs cs.length p0 [] = R0 at k
  refine q_asg (v := .str (mkS [])) (ev_is ev_c (by congr 1)) fun H1 e1 => ?_
  refine q_while (fun m σ' H' => ∃ (p : Nat) (acc : List Nat) (x3 : Option V), σ' = [some (.str z), some (.int (p : Int)), some (.str (mkS acc)), x3] ∧ Ex H H' ∧ p ≤ cs.length ∧ cs.length + 1 ≤ p + m ∧ acc.length ≤ p ∧ rdStr cs m p acc = R0) cs.length
    ⟨p0, [], none, rfl, e1, by omega, by omega, by simp, hR⟩ ?_
  rintro m σ' H' ⟨p, acc, x3, rfl, ex, hp, hm, ha, hr0⟩
  obtain ⟨m', rfl⟩ : ∃ m', m = m' + 1 := ⟨m - 1, by omega⟩
  unfold rdStr at hr0
  refine ⟨decide (p < z.length), et_lt (ev_var rfl) (ev_var rfl) hz1, fun q H2 e2 => ?_, fun q H2 e2 => ?_⟩
  · have q1 := of_decide_eq_true q
    obtain ⟨c, hc⟩ : ∃ c, cs[p]? = some c := ⟨_, List.getElem?_eq_getElem (by omega)⟩
    have hcz : (TL.tl z)[p]? = some c := by rw [hcs]; exact hc
    rw [hc] at hr0
    dsimp only at hr0
    have E2 := ex.trans e2
    refine ⟨_, fun σ2 H3 hN => ⟨m', by omega, hN⟩, ?_⟩
    refine q_asg (v := .str ⟨#[c]⟩) (ev_ixS (ev_var rfl) (ev_var rfl) hz1 hcz) fun H3 e3 => ?_
    refine q_when (b := decide (c = 39)) (et_is (et_test (ev_op (ev_var rfl) ev_c (rv_eq rfl))) (dS c s39)) (fun q2 H4 e4 => ?_) (fun q2 H4 e4 => ?_)
    · rw [if_pos (of_decide_eq_true q2)] at hr0
      exact right_ret k hr0.symm ((E2.trans e3).trans e4) (ev_var rfl) (.str _) (ev_is (ev_op (ev_var rfl) ev_c rv_I0) (by rw [show ((p + 1 : Nat) : Int) = (p : Int) + 1 by omega]))
    have n39 := of_decide_eq_false q2
    rw [if_neg n39] at hr0
    refine q_when (b := !(decide (32 ≤ c) && decide (c ≤ 126))) (et_not (et_test (ev_chain ev_c (ev_var rfl) ev_c rv_leS fun _ => rv_leS))) (fun q3 H5 e5 => ?_) (fun q3 H5 e5 => ?_)
    · have nw : ¬ (32 ≤ c ∧ c ≤ 126) := fun z => by
        rw [decide_eq_true z.1, decide_eq_true z.2] at q3
        cases q3
      rw [if_neg (by omega), if_neg nw] at hr0
      exact wrong_ret k hr0.symm (((E2.trans e3).trans e4).trans e5) (ev_var rfl)
    have yw : 32 ≤ c ∧ c ≤ 126 := by
      have q6 : (decide (32 ≤ c) && decide (c ≤ 126)) = true := by
        cases hh : (decide (32 ≤ c) && decide (c ≤ 126)) with
        | true => rfl
        | false => rw [hh] at q3; cases q3
      obtain ⟨a, b⟩ := Bool.and_eq_true_iff.mp q6
      exact ⟨of_decide_eq_true a, of_decide_eq_true b⟩
    refine q_if (b := decide (c = 126)) (et_is (et_test (ev_op (ev_var rfl) ev_c (rv_eq rfl))) (dS c s126)) (fun q4 H6 e6 => ?_) (fun q4 H6 e6 => ?_)
    · rw [if_pos (of_decide_eq_true q4)] at hr0
      have E6 := (((E2.trans e3).trans e4).trans e5).trans e6
      refine q_asg (v := .int ((p + 1 : Nat) : Int)) (ev_is (ev_op (ev_var rfl) ev_c rv_I0) (by rw [show ((p + 1 : Nat) : Int) = (p : Int) + 1 by omega])) fun H7 e7 => ?_
      cases hd : cs[p + 1]? with
      | none =>
        rw [hd] at hr0
        have hlen := ge_len hd
        refine q_when (b := true) (et_or (a := true) (b := true) (et_is (et_end (ev_var rfl) (ev_var rfl) hz1) (decide_eq_true (by omega))) (fun q => by cases q)) (fun _ H8 e8 => ?_) (fun q => by cases q)
        exact wrong_ret k hr0.symm ((E6.trans e7).trans e8) (ev_var rfl)
      | some d =>
        rw [hd] at hr0
        dsimp only at hr0
        have hlen := (List.getElem?_eq_some_iff.mp hd).1
        have hdz : (TL.tl z)[p + 1]? = some d := by rw [hcs]; exact hd
        refine q_when (b := false || !decide (d ∈ TL.tl ("'~" : Str))) (et_or (a := false) (et_is (et_end (ev_var rfl) (ev_var rfl) hz1) (decide_eq_false (by omega))) (fun _ => et_ni (ev_var rfl) (ev_var rfl) hz1 hdz)) (fun q5 H8 e8 => ?_) (fun q5 H8 e8 => ?_)
        · rw [q_tl, Bool.false_or] at q5
          have nd : ¬ (d = 39 ∨ d = 126) := fun z => by
            have : d ∈ [39, 126] := by simpa using z
            rw [decide_eq_true this] at q5
            cases q5
          rw [if_neg nd] at hr0
          exact wrong_ret k hr0.symm ((E6.trans e7).trans e8) (ev_var rfl)
        · rw [q_tl, Bool.false_or] at q5
          have yd : d = 39 ∨ d = 126 := by
            by_cases z : d ∈ [39, 126]
            · simpa using z
            · rw [decide_eq_false z] at q5
              cases q5
          rw [if_pos yd] at hr0
          refine s_asg (v := .str ⟨#[d]⟩) (ev_ixS (ev_var rfl) (ev_var rfl) hz1 hdz) fun H9 e9 => ?_
          refine q_asg (v := .str (mkS (acc ++ [d]))) (ev_is (ev_op (ev_var rfl) (ev_var rfl) (rv_addZ (by rw [mk_len]; show acc.length + 1 ≤ 3000000; omega))) (by rw [mk_snoc])) fun H10 e10 => ?_
          refine s_asg (v := .int ((p + 2 : Nat) : Int)) (ev_is (ev_op (ev_var rfl) ev_c rv_I0) (by rw [show ((p + 2 : Nat) : Int) = ((p + 1 : Nat) : Int) + 1 by omega])) fun H11 e11 => ?_
          exact ⟨p + 2, acc ++ [d], some (.str ⟨#[d]⟩), rfl, ((((E6.trans e7).trans e8).trans e9).trans e10).trans e11, by omega, by omega, by rw [List.length_append, List.length_singleton]; omega, hr0⟩
    · rw [if_neg (of_decide_eq_false q4), if_pos yw] at hr0
      have E6 := (((E2.trans e3).trans e4).trans e5).trans e6
      refine s_next ?_
      refine q_asg (v := .str (mkS (acc ++ [c]))) (ev_is (ev_op (ev_var rfl) (ev_var rfl) (rv_addZ (by rw [mk_len]; show acc.length + 1 ≤ 3000000; omega))) (by rw [mk_snoc])) fun H10 e10 => ?_
      refine s_asg (v := .int ((p + 1 : Nat) : Int)) (ev_is (ev_op (ev_var rfl) ev_c rv_I0) (by rw [show ((p + 1 : Nat) : Int) = (p : Int) + 1 by omega])) fun H11 e11 => ?_
      exact ⟨p + 1, acc ++ [c], some (.str ⟨#[c]⟩), rfl, (E6.trans e10).trans e11, by omega, by omega, by rw [List.length_append, List.length_singleton]; omega, hr0⟩
  · have q1 := of_decide_eq_false q
    have hc : cs[p]? = none := List.getElem?_eq_none_iff.mpr (by omega)
    rw [hc] at hr0
    exact wrong_ret k hr0.symm (ex.trans e2) (ev_var rfl)
end
end Ht
/-! the law's reader of integers -/
namespace Ht
open PySem PySem.Spec PyProof.Rows L2 Hu Evl
theorem dI1 (a b : Nat) : decide (V.int (a : Int) = V.int ((b : Int) + 1)) = decide (a = b + 1) := by
  have := Ht.dI a (b + 1)
  rw [show ((b + 1 : Nat) : Int) = (b : Int) + 1 by omega] at this
  exact this
theorem one0 {cs : List Nat} {p : Nat} (h : cs[begins cs p]? = some 48) (hb : begins cs p = p) : intAt cs p 1 = 0 := by
  unfold intAt
  rw [hb] at h ⊢
  have hp := (List.getElem?_eq_some_iff.mp h).1
  have e : (cs.drop p).take 1 = [48] := by
    rw [List.drop_eq_getElem_cons hp, List.take_succ_cons, List.take_zero, (List.getElem?_eq_some_iff.mp h).2]
  rw [if_neg (by rw [h]; intro z; cases z), e]
  rfl
section
variable {P : Program} {w : World} {K : PySem.W.Frag} {mg : Str → Option Value} {base : Heap}
def spLI : Sp := fun vs H Q _ => ∃ (z : Str) (p : Nat), vs = [.str z, .int (p : Int)] ∧ z.length ≤ 90000 ∧ p < z.length ∧ ToldL (riL (TL.tl z) p) H Q
theorem scLI : FnScope ["text", "at", "begin", "first"] ["text", "at"] (defScope lReadInt) := ⟨rfl, rfl, rfl, by decide +kernel, rfl, by decide +kernel, by decide +kernel⟩
theorem ok_LI {f : Addr} {fd : FuncData} (F : Fun K "_law_read_integer" "_law_read_integer" lReadInt f fd) (B : Bt mg) : FnOk P w K mg base CX0 1 f fd ["text", "at"] spLI := by
  refine F.ok scLI (fun vs H Q E h => ?_) (fun cdv A outer s H vs Q E hr h => ?_)
  · obtain ⟨z, p, rfl, _⟩ := h
    rfl
  obtain ⟨z, p, rfl, hz, hp, k⟩ := h
  refine ⟨_, pss_cons (ps_set (i := 2) scLI.nd rfl (.inl rfl) (pv 1))
    (Evl.pss_cut (ps_if (pt_cmpR op_eq (pe_ix ix_str (pv 0) (pv 1) (fun _ _ => rfl)) pe_str (nomark _)) (pss_one (ps_set (i := 1) scLI.nd rfl (.inl rfl) (pe_op op_add (pv 1) pe_int))) pss_nil)
    (pss_cons (ps_set (i := 3) scLI.nd rfl (.inl rfl) (pv 1))
    (pss_cons (ps_while PassesOwn.never (PW.pt (pw_and (pt_cmpR op_lt (pv 1) (pe_callB call_len_str (by rfl) B.len PySem.boot_len (pa_cons (pv 0) pa_nil)) (nomark _)) (pw_and (pt_cmpR op_in_sign (pe_ix ix_str (pv 0) (pv 1) (fun _ _ => rfl)) pe_str (by rfl)) (pw_and1 (pt_cmpR op_lt (pe_op op_sub (pv 1) (pv 3)) pe_int (nomark _))))))
      (pss_cons (ps_if (PW.pt (pw_and (pt_cmpR op_eq (pv 1) (pe_op op_add (pv 3) pe_int) (nomark _)) (pw_and1 (pt_cmpR op_eq (pe_ix ix_str (pv 0) (pv 3) (fun _ _ => rfl)) pe_str (nomark _)))))
        (pss_one (ps_ret (pe_tup (pa_cons (pe_callTy call_int_str (by rfl) B.int boot_int (pa_cons (pe_slice sl_str (pv 0) (po_some (pv 2)) (po_some (pv 1))) pa_nil)) (pa_cons (pv 1) (pa_cons pe_bl pa_nil)))))) pss_nil)
      (pss_cons (ps_if (PW.pt (pw_and (pt_cmpR op_eq (pv 1) (pv 3) (nomark _)) (pw_and (pt_cmpR op_eq (pe_ix ix_str (pv 0) (pv 1) (fun _ _ => rfl)) pe_str (nomark _)) (pw_and1 (pt_cmpR op_lt (pv 2) (pv 3) (nomark _))))))
        (pss_one (ps_ret (pe_tup (pa_cons pe_non (pa_cons (pv 1) (pa_cons pe_bl pa_nil)))))) pss_nil)
      (pss_one (ps_set (i := 1) scLI.nd rfl (.inl rfl) (pe_op op_add (pv 1) pe_int))))))
    (pss_cons (ps_if (pt_cmpR op_eq (pv 1) (pv 3) (nomark _)) (pss_one (ps_ret (pe_tup (pa_cons pe_non (pa_cons (pv 1) (pa_cons pe_bl pa_nil)))))) pss_nil)
    (pss_one (ps_ret (pe_tup (pa_cons (pe_callTy call_int_str (by rfl) B.int boot_int (pa_cons (pe_slice sl_str (pv 0) (po_some (pv 2)) (po_some (pv 1))) pa_nil)) (pa_cons (pv 1) (pa_cons pe_bl pa_nil)))))))))), ?_⟩
  have hz1 : z.length ≤ 100000 := by omega
  have hlz := TL.len_tl z
  obtain ⟨c0, hc0⟩ : ∃ c, (TL.tl z)[p]? = some c := ⟨_, List.getElem?_eq_getElem (by omega)⟩
  obtain ⟨cs, hcs⟩ : ∃ cs, TL.tl z = cs := ⟨_, rfl⟩
  have hc0s : cs[p]? = some c0 := by rw [← hcs]; exact hc0
  have hk : ToldL (riL cs p) H Q := by rw [← hcs]; exact k
  clear k
  have hlen : cs.length = z.length := by rw [← hcs]; omega
  have hbg := begins_ge cs p
  have hrl := run_le cs (begins cs p)
  have hbe : begins cs p = if c0 = 45 then p + 1 else p := by
    unfold begins
    rw [hc0s]
    by_cases h : c0 = 45
    · rw [if_pos h, if_pos (by rw [h])]
    · rw [if_neg h, if_neg (by intro q; cases q; exact h rfl)]
  refine q_asg (v := .int (p : Int)) (ev_var rfl) fun H1 e1 => ?_
  refine q_cut (M := fun σ' H' => σ' = [some (.str z), some (.int ((begins cs p : Nat) : Int)), some (.int (p : Int)), none] ∧ Ex H H') ?_ ?_
  · refine s_when (b := decide (c0 = 45)) (et_sign (ev_var rfl) (ev_var rfl) hz1 hc0 s45) (fun q H2 e2 => ?_) (fun q H2 e2 => ?_)
    · have q := of_decide_eq_true q
      refine s_asg (v := .int ((begins cs p : Nat) : Int)) (ev_is (ev_op (ev_var rfl) ev_c rv_I0) ?_) fun H3 e3 => ⟨rfl, (e1.trans e2).trans e3⟩
      rw [hbe, if_pos q, show ((p + 1 : Nat) : Int) = (p : Int) + 1 by omega]
    · have q := of_decide_eq_false q
      refine ⟨?_, e1.trans e2⟩
      rw [hbe, if_neg q]
      rfl
  rintro σ1 H1 ⟨rfl, E1⟩
  clear e1
  unfold riL at hk
  dsimp only at hk
  generalize hf : begins cs p = f at hk hbg hrl hbe
  refine q_asg (v := .int (f : Int)) (ev_var rfl) fun H2 e2 => ?_
  have E2 := E1.trans e2
  refine q_while (fun m σ' H' => ∃ n : Nat, σ' = [some (.str z), some (.int ((f + n : Nat) : Int)), some (.int (p : Int)), some (.int (f : Int))] ∧ Ex H H' ∧ n ≤ run cs f ∧ n ≤ 30 ∧ (1 ≤ n → cs[f]? = some 48 → ¬ p < f) ∧ (2 ≤ n → cs[f]? ≠ some 48) ∧ m = 31 - n) 31 ⟨0, rfl, E2, by omega, by omega, by omega, by omega, by omega⟩ ?_
  rintro m σ' H' ⟨n, rfl, ex, hn, hn30, i1, i2, rfl⟩
  refine ⟨decide (f + n < z.length) && ((match cs[f + n]? with | some c => isD c | none => true) && decide (n < 30)), et_and (et_lt (ev_var rfl) (ev_var rfl) hz1) (fun q => et_and ?_ fun _ => ?_), fun q H3 e3 => ?_, fun q H3 e3 => ?_⟩
  · have q1 := of_decide_eq_true q
    cases hc : cs[f + n]? with
    | none => exact absurd (ge_len hc) (by omega)
    | some c => exact et_is (et_in (w := "0123456789") (ev_var rfl) (ev_var rfl) hz1 (by rw [hcs]; exact hc)) (in_digs c)
  · exact et_is (et_test (ev_op (ev_op (ev_var rfl) (ev_var rfl) rv_I0) ev_c rv_I0)) (by
      refine decide_eq_decide.mpr ?_
      omega)
  · obtain ⟨q1, q2⟩ := Bool.and_eq_true_iff.mp q
    obtain ⟨q2, q3⟩ := Bool.and_eq_true_iff.mp q2
    have q1 := of_decide_eq_true q1
    have q3 := of_decide_eq_true q3
    obtain ⟨c, hc⟩ : ∃ c, cs[f + n]? = some c := ⟨_, List.getElem?_eq_getElem (by omega)⟩
    rw [hc] at q2
    have hn1 := run_next hn hc q2
    have hcz : (TL.tl z)[f + n]? = some c := by rw [hcs]; exact hc
    obtain ⟨cf, hcf⟩ : ∃ c, cs[f]? = some c := ⟨_, List.getElem?_eq_getElem (by omega)⟩
    have hcfz : (TL.tl z)[f]? = some cf := by rw [hcs]; exact hcf
    have E3 := ex.trans e3
    refine ⟨_, fun σ2 H4 hN => ⟨31 - (n + 1), by omega, hN⟩, ?_⟩
    refine q_when (b := decide (f + n = f + 1) && decide (cf = 48)) (et_and (et_is (et_test (ev_op (ev_var rfl) (ev_op (ev_var rfl) ev_c rv_I0) (rv_eq rfl))) (dI1 _ _)) fun _ => et_sign (ev_var rfl) (ev_var rfl) hz1 hcfz s48) (fun q4 H4 e4 => ?_) (fun q4 H4 e4 => ?_)
    · obtain ⟨q4, q5⟩ := Bool.and_eq_true_iff.mp q4
      have q4 := of_decide_eq_true q4
      have q5 := of_decide_eq_true q5
      have hn1' : n = 1 := by omega
      subst hn1'
      have h48 : cs[f]? = some 48 := by rw [hcf, q5]
      have npf := i1 (by omega) h48
      rw [if_neg (by omega), if_pos h48, if_neg npf] at hk
      obtain ⟨j1, j2⟩ := int_cut (z := z) hcs (p := p) (n := 1) (by omega) (by rw [hf]; omega) (by omega)
      rw [hf, one0 (by rw [hf]; exact h48) (by omega)] at j1
      rw [hf] at j2
      exact right_ret hk rfl (E3.trans e4) (ev_int (ev_slS (ev_var rfl) (eo_some (ev_var rfl)) (eo_some (ev_var rfl)) hz1) j1 j2) (.int 0) (ev_var rfl)
    have k4 : n = 1 → cs[f]? ≠ some 48 := fun e z => by
      rw [hcf] at z
      cases z
      rw [decide_eq_true (by omega), decide_eq_true rfl] at q4
      cases q4
    refine q_when (b := decide (f + n = f) && (decide (c = 48) && decide (p < f))) (et_and (et_is (et_test (ev_op (ev_var rfl) (ev_var rfl) (rv_eq rfl))) (Ht.dI _ _)) fun _ => et_and (et_sign (ev_var rfl) (ev_var rfl) hz1 hcz s48) fun _ => et_is (et_test (ev_op (ev_var rfl) (ev_var rfl) rv_I0)) (dL p f)) (fun q5 H5 e5 => ?_) (fun q5 H5 e5 => ?_)
    · obtain ⟨a1, a2⟩ := Bool.and_eq_true_iff.mp q5
      obtain ⟨a2, a3⟩ := Bool.and_eq_true_iff.mp a2
      have a1 := of_decide_eq_true a1
      have a2 := of_decide_eq_true a2
      have a3 := of_decide_eq_true a3
      have hn0 : n = 0 := by omega
      subst hn0
      have h48 : cs[f]? = some 48 := by rw [← a2]; exact hc
      rw [if_neg (by omega), if_pos h48, if_pos a3] at hk
      exact wrong_ret hk rfl ((E3.trans e4).trans e5) (ev_var rfl)
    refine s_asg (v := .int ((f + (n + 1) : Nat) : Int)) (ev_is (ev_op (ev_var rfl) ev_c rv_I0) (by rw [show ((f + (n + 1) : Nat) : Int) = ((f + n : Nat) : Int) + 1 by omega])) fun H6 e6 => ?_
    refine ⟨n + 1, rfl, ((E3.trans e4).trans e5).trans e6, hn1, by omega, fun _ h48 hpf => ?_, fun h2 h48 => ?_, rfl⟩
    · by_cases h0 : n = 0
      · subst h0
        have : c = 48 := by
          have z : cs[f]? = some c := hc
          rw [h48] at z
          exact (Option.some.inj z).symm
        rw [decide_eq_true (by omega), decide_eq_true this, decide_eq_true hpf] at q5
        cases q5
      · exact i1 (by omega) h48 hpf
    · by_cases h1 : n = 1
      · exact k4 h1 h48
      · exact i2 (by omega) h48
  · have E3 := ex.trans e3
    have hend : n = run cs f ∨ n = 30 := by
      by_cases h30 : n = 30
      · exact .inr h30
      · left
        refine run_end hn ?_
        cases hc : cs[f + n]? with
        | none => exact .inl rfl
        | some c =>
          have hl := (List.getElem?_eq_some_iff.mp hc).1
          rw [hc, decide_eq_true (show f + n < z.length by omega), decide_eq_true (show n < 30 by omega), Bool.and_true, Bool.true_and] at q
          exact .inr ⟨c, rfl, q⟩
    refine q_when (b := decide (f + n = f)) (et_is (et_test (ev_op (ev_var rfl) (ev_var rfl) (rv_eq rfl))) (Ht.dI _ _)) (fun q2 H4 e4 => ?_) (fun q2 H4 e4 => ?_)
    · have q2 := of_decide_eq_true q2
      rw [if_pos (by omega)] at hk
      exact wrong_ret hk (by congr 1; omega) (E3.trans e4) (ev_var rfl)
    have q2 := of_decide_eq_false q2
    rw [if_neg (by omega)] at hk
    obtain ⟨j1, j2⟩ := int_cut (z := z) hcs (p := p) (n := n) (by omega) (by rw [hf]; omega) (by omega)
    rw [hf] at j1 j2
    have hev : ∀ {H5 : Hp}, Ev (tInt (tSl rSlS (tVar 0) (tPart (tVar 2)) (tPart (tVar 1)))) [some (V.str z), some (.int ((f + n : Nat) : Int)), some (.int (p : Int)), some (.int (f : Int))] H5 (.int (intAt cs p n)) :=
      ev_int (ev_slS (ev_var rfl) (eo_some (ev_var rfl)) (eo_some (ev_var rfl)) hz1) j1 j2
    by_cases h48 : cs[f]? = some 48
    · have hn1 : n = 1 := by
        by_cases h2 : 2 ≤ n
        · exact absurd h48 (i2 h2)
        · omega
      have npf := i1 (by omega) h48
      rw [if_pos h48, if_neg npf] at hk
      subst hn1
      refine right_ret hk rfl (E3.trans e4) hev ?_ (ev_var rfl)
      rw [one0 (by rw [hf]; exact h48) (by omega)]
      exact .int 0
    · rw [if_neg h48] at hk
      by_cases hgt : 30 < run cs f
      · rw [if_pos hgt] at hk
        have h30 : n = 30 := by omega
        subst h30
        exact right_ret hk rfl (E3.trans e4) hev (.int _) (ev_var rfl)
      · rw [if_neg hgt] at hk
        have hr : n = run cs f := by omega
        rw [← hr] at hk
        exact right_ret hk rfl (E3.trans e4) hev (.int _) (ev_var rfl)
end
end Ht
/-! the law's readers of things and tuples; _law_unpacked -/
namespace Ht
open PySem PySem.Spec PyProof.Rows L2 Hu Evl
def rdTupL (cs : List Nat) (k p : Nat) : R := if cs[p]? = some 41 then .ok (.tup []) (p + 1) else rdItems cs (rdThing cs (riL cs) k) cs.length p []
theorem s44 : ("," : Str) = sg 44 := by decide +kernel
section
variable {σ : L2.St} {H : Hp} {te to ti : TE} {ta : TA} {K : PySem.W.Frag} {D : Ends} {g : TG} {sp : Sp} {dvs vs : List V} {E : XK}
theorem s_retC (h : EvA ta σ H vs) (k : ∀ H1, Ex H H1 → sp (vs ++ dvs) H1 D.rt E) : tRet (tCall sp dvs E ta) D σ H := h H (Ex.refl H) _ fun H1 e => k H1 e
theorem q_asgC {tz : TS} (h : EvA ta σ H vs) (k : ∀ H1, Ex H H1 → sp (vs ++ dvs) H1 (fun x H2 => g x σ H2 (tz D)) E) : tSeq (tAsg (tCall sp dvs E ta) g) tz D σ H := h H (Ex.refl H) _ fun H1 e => k H1 e
theorem s_retTrip {xs : List V} {i : Int} {b : Bool} (h : EvU te σ H xs) (hi : ∀ H1, Ex H H1 → Ev ti σ H1 (.int i)) (k : ∀ p t H1, Ex H H1 → H1 p = some (.tup xs) → H1 t = some (.tup [.ref p, .int i, .bl b]) → D.rt (.ref t) H1) : tRet (tTup (tCons te (tCons ti (tCons (tC (.bl b)) tNil)))) D σ H :=
  h H (Ex.refl H) _ fun p H1 hp e h1 => hi H1 e H1 (Ex.refl H1) _ fun H2 e2 => ⟨sz_of (show (3 : Nat) ≤ 100000 by decide), fun t ht => k p t _ ((e.trans e2).trans (Ex.new ht)) (by rw [upd_ne (ne_of_none (e2 _ _ h1) ht)]; exact e2 _ _ h1) upd_same⟩
theorem q_asgAny {tz : TS} {i : Nat} {te : TE} (h : te σ H fun x H2 => tz D (σ.set i (some x)) H2) : tSeq (tAsg te (gName i)) tz D σ H := h
end
section
variable {P : Program} {w : World} {K : PySem.W.Frag} {mg : Str → Option Value} {base : Heap}
def spLT (k : Nat) : Sp := fun vs H Q _ => ∃ (z : Str) (p d : Nat), vs = [.str z, .int (p : Int), .int (d : Int)] ∧ d + k = 30 ∧ z.length ≤ 90000 ∧ p ≤ z.length ∧ ToldL (rdThing (TL.tl z) (riL (TL.tl z)) k p) H Q
def spLTu (k : Nat) : Sp := fun vs H Q _ => ∃ (z : Str) (p d : Nat), vs = [.str z, .int (p : Int), .int (d : Int)] ∧ d + k = 30 ∧ z.length ≤ 90000 ∧ 1 ≤ p ∧ p ≤ z.length ∧ ToldL (rdTupL (TL.tl z) k p) H Q
def spLTuP : Nat → Sp
  | 0 => fun _ _ _ _ => False
  | k + 1 => spLTu k
theorem scLT : FnScope ["text", "at", "deep", "sign"] ["text", "at", "deep"] (defScope lFirst) := ⟨rfl, rfl, rfl, by decide +kernel, rfl, by decide +kernel, by decide +kernel⟩
theorem scLTu : FnScope ["text", "at", "deep", "found", "thing", "wrong"] ["text", "at", "deep"] (defScope lReadTup) := ⟨rfl, rfl, rfl, by decide +kernel, rfl, by decide +kernel, by decide +kernel⟩
theorem ok_LT {f fT fS fN : Addr} {fd dT dS dN : FuncData} (F : Fun K "_law_first_wrong" "_law_first_wrong" lFirst f fd) (B : Bt mg) (DT : Df K mg "_law_read_tuple" lReadTup ["text", "at", "deep"] fT dT) (DS : Df K mg "_law_read_string" lReadStr ["text", "at"] fS dS)
    (DN : Df K mg "_law_read_integer" lReadInt ["text", "at"] fN dN) (k : Nat) (G : FnOk P w K mg base CX0 (1 + 2 * k) fT dT ["text", "at", "deep"] (spLTuP k)) : FnOk P w K mg base CX0 (1 + 2 * k + 1) f fd ["text", "at", "deep"] (spLT k) := by
  have GS : FnOk P w K mg base CX0 1 fS dS ["text", "at"] spLS := ok_LS DS.F B
  have GN : FnOk P w K mg base CX0 1 fN dN ["text", "at"] spLI := ok_LI DN.F B
  refine F.ok scLT (fun vs H Q E h => ?_) (fun cdv A outer s H vs Q E hr h => ?_)
  · obtain ⟨z, p, d, rfl, _⟩ := h
    rfl
  obtain ⟨z, p, d, rfl, hdk, hz, hp, hk⟩ := h
  have hr1 : Room 1 (A.deeper (envOfC "_law_first_wrong" (defScope lFirst) s.heap.objs.size f cdv)) := hr.mono (by omega)
  refine ⟨_, pss_cons (ps_if (pt_cmpR op_ge (pv 1) (pe_callB call_len_str (by rfl) B.len PySem.boot_len (pa_cons (pv 0) pa_nil)) (nomark _)) (pss_one (ps_ret (pe_tup (pa_cons pe_non (pa_cons (pv 1) (pa_cons pe_bl pa_nil)))))) pss_nil)
    (pss_cons (ps_set (i := 3) scLT.nd rfl (.inl rfl) (pe_ix ix_str (pv 0) (pv 1) (fun _ _ => rfl)))
    (pss_cons (ps_if (pt_cmpR op_eq (pv 3) pe_str (nomark _)) (pss_one (ps_ret (pe_tup (pa_cons pe_non (pa_cons (pe_op op_add (pv 1) pe_int) (pa_cons pe_bl pa_nil)))))) pss_nil)
    (pss_cons (ps_if (pt_cmpR op_eq (pv 3) pe_str (nomark _))
      (pss_one (ps_ret (pe_call GS hr1 (by rfl) DS.g DS.F.kp DS.b .nil pass0 (pa_cons (pv 0) (pa_cons (pe_op op_add (pv 1) pe_int) pa_nil))))) pss_nil)
    (pss_cons (ps_if (pt_cmpR op_eq (pv 3) pe_str (nomark _))
      (pss_one (ps_ret (pe_ifExp (pt_cmpR op_lt (pv 2) pe_int (nomark _)) (pe_call G hr (by rfl) DT.g DT.F.kp DT.b .nil pass0 (pa_cons (pv 0) (pa_cons (pe_op op_add (pv 1) pe_int) (pa_cons (pe_op op_add (pv 2) pe_int) pa_nil)))) (pe_tup (pa_cons pe_non (pa_cons (pv 1) (pa_cons pe_bl pa_nil))))))) pss_nil)
    (pss_one (ps_ret (pe_call GN hr1 (by rfl) DN.g DN.F.kp DN.b .nil pass0 (pa_cons (pv 0) (pa_cons (pv 1) pa_nil))))))))), ?_⟩
  have hz1 : z.length ≤ 100000 := by omega
  have hlz := TL.len_tl z
  refine q_when (b := decide (z.length ≤ p)) (et_is (et_test (ev_op (ev_var rfl) (ev_lenS (ev_var rfl) hz1) rv_I0)) (by
    refine decide_eq_decide.mpr ?_
    omega)) (fun q H1 e1 => ?_) (fun q H1 e1 => ?_)
  · have q := of_decide_eq_true q
    have hc : (TL.tl z)[p]? = none := List.getElem?_eq_none_iff.mpr (by omega)
    have e : rdThing (TL.tl z) (riL (TL.tl z)) k p = .bad p := by
      unfold rdThing
      rw [hc]
    exact wrong_ret hk e e1 (ev_var rfl)
  have q := of_decide_eq_false q
  obtain ⟨c, hc⟩ : ∃ c, (TL.tl z)[p]? = some c := ⟨_, List.getElem?_eq_getElem (by omega)⟩
  refine q_asg (v := .str ⟨#[c]⟩) (ev_ixS (ev_var rfl) (ev_var rfl) hz1 hc) fun H0 e0 => ?_
  have E0 := e1.trans e0
  refine q_when (b := decide (c = 46)) (et_is (et_test (ev_op (ev_var rfl) ev_c (rv_eq rfl))) (Ht.dS c s46)) (fun q2 H2 e2 => ?_) (fun q2 H2 e2 => ?_)
  · have q2 := of_decide_eq_true q2
    have e : rdThing (TL.tl z) (riL (TL.tl z)) k p = .ok .non (p + 1) := by
      unfold rdThing
      rw [hc]
      dsimp only
      rw [if_pos q2]
    exact right_ret hk e (E0.trans e2) ev_c .non (ev_is (ev_op (ev_var rfl) ev_c rv_I0) (by rw [show ((p + 1 : Nat) : Int) = (p : Int) + 1 by omega]))
  have q2 := of_decide_eq_false q2
  refine q_when (b := decide (c = 39)) (et_is (et_test (ev_op (ev_var rfl) ev_c (rv_eq rfl))) (Ht.dS c s39)) (fun q3 H3 e3 => ?_) (fun q3 H3 e3 => ?_)
  · have q3 := of_decide_eq_true q3
    have e : rdThing (TL.tl z) (riL (TL.tl z)) k p = rdStr (TL.tl z) (TL.tl z).length (p + 1) [] := by
      unfold rdThing
      rw [hc]
      dsimp only
      rw [if_neg q2, if_pos q3]
    rw [e] at hk
    refine s_retC (sp := spLS) (dvs := []) (vs := [.str z, .int ((p + 1 : Nat) : Int)]) (ea_cons (ev_var rfl) (ea_cons (ev_is (ev_op (ev_var rfl) ev_c rv_I0) (by rw [show ((p + 1 : Nat) : Int) = (p : Int) + 1 by omega])) ea_nil)) fun H4 e4 => ?_
    exact ⟨z, p + 1, rfl, hz, by omega, by omega, hk.ex (((E0.trans e2).trans e3).trans e4)⟩
  have q3 := of_decide_eq_false q3
  refine q_when (b := decide (c = 40)) (et_is (et_test (ev_op (ev_var rfl) ev_c (rv_eq rfl))) (Ht.dS c s40)) (fun q4 H4 e4 => ?_) (fun q4 H4 e4 => ?_)
  · have y4 := of_decide_eq_true q4
    have E4 := ((E0.trans e2).trans e3).trans e4
    refine s_retIf (b := decide (d < 30)) (et_is (et_test (ev_op (ev_var rfl) ev_c rv_I0)) (dL d 30)) (fun q5 H5 e5 => ?_) (fun q5 H5 e5 => ?_)
    · have q5 := of_decide_eq_true q5
      obtain ⟨k', rfl⟩ : ∃ k', k = k' + 1 := ⟨k - 1, by omega⟩
      have e : rdThing (TL.tl z) (riL (TL.tl z)) (k' + 1) p = rdTupL (TL.tl z) k' (p + 1) := by
        unfold rdThing
        rw [hc]
        dsimp only
        rw [if_neg q2, if_neg q3, if_pos y4]
        rfl
      rw [e] at hk
      refine s_retC (sp := spLTu k') (dvs := []) (vs := [.str z, .int ((p + 1 : Nat) : Int), .int ((d + 1 : Nat) : Int)]) (ea_cons (ev_var rfl) (ea_cons (ev_is (ev_op (ev_var rfl) ev_c rv_I0) (by rw [show ((p + 1 : Nat) : Int) = (p : Int) + 1 by omega])) (ea_cons (ev_is (ev_op (ev_var rfl) ev_c rv_I0) (by rw [show ((d + 1 : Nat) : Int) = (d : Int) + 1 by omega])) ea_nil))) fun H6 e6 => ?_
      exact ⟨z, p + 1, d + 1, rfl, by omega, hz, by omega, by omega, hk.ex ((E4.trans e5).trans e6)⟩
    · have q5 := of_decide_eq_false q5
      have hk0 : k = 0 := by omega
      subst hk0
      have e : rdThing (TL.tl z) (riL (TL.tl z)) 0 p = .bad p := by
        unfold rdThing
        rw [hc]
        dsimp only
        rw [if_neg q2, if_neg q3, if_pos y4]
      exact wrong_ret hk e (E4.trans e5) (ev_var rfl)
  · have n4 := of_decide_eq_false q4
    have e : rdThing (TL.tl z) (riL (TL.tl z)) k p = riL (TL.tl z) p := by
      unfold rdThing
      rw [hc]
      dsimp only
      rw [if_neg q2, if_neg q3, if_neg n4]
    rw [e] at hk
    refine s_retC (sp := spLI) (dvs := []) (vs := [.str z, .int (p : Int)]) (ea_cons (ev_var rfl) (ea_cons (ev_var rfl) ea_nil)) fun H5 e5 => ?_
    exact ⟨z, p, rfl, hz, by omega, hk.ex ((((E0.trans e2).trans e3).trans e4).trans e5)⟩
/-- found + (thing,) -/
theorem cat_one {σ : L2.St} {H : Hp} {K : PySem.W.Frag} {ta tb : TE} {a : Addr} {vs : List V} {v : V} {Q : VK} (h : Ev ta σ H (.ref a)) (ha : H a = some (.tup vs)) (hv : Ev tb σ H v) (hz : vs.length ≤ 95000) (k : ∀ p H1, Ex H H1 → H1 p = some (.tup (vs ++ [v])) → Q (.ref p) H1) :
    tOp (rCatA K) ta (tTup (tCons tb tNil)) σ H Q := h H (Ex.refl H) _ fun H1 e1 => eu_tup (ea_cons hv ea_nil) (by show (1 : Nat) ≤ 100000; decide) H1 e1 _ fun b H2 hb e2 h2 => by
  have E := e1.trans e2
  refine ⟨a, b, vs, [v], rfl, rfl, st_of (E _ _ ha), st_of h2, sz_of (by show vs.length + 1 ≤ 100000; omega), fun e => ?_, fun _ e => absurd e (List.cons_ne_nil _ _), fun _ _ p hp => ?_⟩
  · subst e
    exact k b H2 E h2
  · exact k p _ (E.trans (Ex.new hp)) upd_same
theorem ok_LTu {f fT : Addr} {fd dT : FuncData} (F : Fun K "_law_read_tuple" "_law_read_tuple" lReadTup f fd) (B : Bt mg) (DT : Df K mg "_law_first_wrong" lFirst ["text", "at", "deep"] fT dT) (k : Nat) (G : FnOk P w K mg base CX0 (1 + 2 * k + 1) fT dT ["text", "at", "deep"] (spLT k)) :
    FnOk P w K mg base CX0 (1 + 2 * k + 1 + 1) f fd ["text", "at", "deep"] (spLTu k) := by
  refine F.ok scLTu (fun vs H Q E h => ?_) (fun cdv A outer s H vs Q E hr h => ?_)
  · obtain ⟨z, p, d, rfl, _⟩ := h
    rfl
  obtain ⟨z, p0, d, rfl, hdk, hz, hp1, hp2, hk⟩ := h
  refine ⟨_, pss_cons (ps_set (i := 3) scLTu.nd rfl (.inl rfl) (pe_tup pa_nil))
    (pss_cons (ps_if (PW.pt (pw_and (pt_cmpR op_lt (pv 1) (pe_callB call_len_str (by rfl) B.len PySem.boot_len (pa_cons (pv 0) pa_nil)) (nomark _)) (pw_and1 (pt_cmpR op_eq (pe_ix ix_str (pv 0) (pv 1) (fun _ _ => rfl)) pe_str (nomark _)))))
      (pss_one (ps_ret (pe_tup (pa_cons (pe_tup pa_nil) (pa_cons (pe_op op_add (pv 1) pe_int) (pa_cons pe_bl pa_nil)))))) pss_nil)
    (pss_one (ps_while PassesOwn.never (pt_val pe_bl)
      (pss_cons (ps_asg (pe_call G hr (by rfl) DT.g DT.F.kp DT.b .nil pass0 (pa_cons (pv 0) (pa_cons (pv 1) (pa_cons (pv 2) pa_nil)))) (pg_tup rfl (pgs_cons (pg_name (i := 4) scLTu.nd rfl (.inl rfl)) (pgs_cons (pg_name (i := 1) scLTu.nd rfl (.inl rfl)) (pgs_cons (pg_name (i := 5) scLTu.nd rfl (.inl rfl)) pgs_nil)))))
      (pss_cons (ps_if (pt_val (pv 5)) (pss_one (ps_ret (pe_tup (pa_cons pe_non (pa_cons (pv 1) (pa_cons pe_bl pa_nil)))))) pss_nil)
      (pss_cons (ps_set (i := 3) scLTu.nd rfl (.inl rfl) (pe_op op_catA (pv 3) (pe_tup (pa_cons (pv 4) pa_nil))))
      (pss_cons (ps_if (PW.pt (pw_and (pt_cmpR op_lt (pv 1) (pe_callB call_len_str (by rfl) B.len PySem.boot_len (pa_cons (pv 0) pa_nil)) (nomark _)) (pw_and1 (pt_cmpR op_eq (pe_ix ix_str (pv 0) (pv 1) (fun _ _ => rfl)) pe_str (nomark _)))))
        (pss_one (ps_ret (pe_tup (pa_cons (pv 3) (pa_cons (pe_op op_add (pv 1) pe_int) (pa_cons pe_bl pa_nil)))))) pss_nil)
      (pss_cons (ps_if (PW.pt (pw_or (pt_cmpR op_eq (pv 1) (pe_callB call_len_str (by rfl) B.len PySem.boot_len (pa_cons (pv 0) pa_nil)) (nomark _)) (pw_or1 (pt_cmpR op_ne (pe_ix ix_str (pv 0) (pv 1) (fun _ _ => rfl)) pe_str (nomark _)))))
        (pss_one (ps_ret (pe_tup (pa_cons pe_non (pa_cons (pv 1) (pa_cons pe_bl pa_nil)))))) pss_nil)
      (pss_one (ps_set (i := 1) scLTu.nd rfl (.inl rfl) (pe_op op_add (pv 1) pe_int)))))))))))
    , ?_⟩
  have hz1 : z.length ≤ 100000 := by omega
  have hlz := TL.len_tl z
  obtain ⟨cs, hcs⟩ : ∃ cs, TL.tl z = cs := ⟨_, rfl⟩
  rw [hcs] at hk hlz
  refine q_asgU (eu_tup ea_nil (by show (0 : Nat) ≤ 100000; decide)) fun a0 H0 ha0 e0 h0 => ?_
  refine q_when (b := decide (p0 < z.length) && (match cs[p0]? with | some c => decide (c = 41) | none => true)) (et_and (et_lt (ev_var rfl) (ev_var rfl) hz1) (fun q => ?_)) (fun q H1 e1 => ?_) (fun q H1 e1 => ?_)
  · have q1 := of_decide_eq_true q
    cases hc : cs[p0]? with
    | none => exact absurd (ge_len hc) (by omega)
    | some c => exact et_sign (ev_var rfl) (ev_var rfl) hz1 (by rw [hcs]; exact hc) s41
  · obtain ⟨q1, q2⟩ := Bool.and_eq_true_iff.mp q
    have q1 := of_decide_eq_true q1
    obtain ⟨c, hc⟩ : ∃ c, cs[p0]? = some c := ⟨_, List.getElem?_eq_getElem (by omega)⟩
    rw [hc] at q2
    have q2 := of_decide_eq_true q2
    have e : rdTupL cs k p0 = .ok (.tup []) (p0 + 1) := by
      unfold rdTupL
      rw [if_pos (by rw [hc, q2])]
    refine s_retTrip (eu_tup ea_nil (by show (0 : Nat) ≤ 100000; decide)) (fun H2 e2 => ev_op (ev_var rfl) ev_c rv_I0) fun p t H2 e2 h2 h3 => ?_
    refine hk.ok e (.ref p) t H2 ((e0.trans e1).trans e2) (.tup h2 .nil) ?_
    rw [h3, show ((p0 + 1 : Nat) : Int) = (p0 : Int) + 1 by omega]
  have hR : rdTupL cs k p0 = rdItems cs (rdThing cs (riL cs) k) cs.length p0 [] := by
    unfold rdTupL
    refine if_neg fun z => ?_
    have := (List.getElem?_eq_some_iff.mp z).1
    rw [z, decide_eq_true (by omega)] at q
    cases q
  rw [hR] at hk
  clear hR q
  generalize hR : rdItems cs (rdThing cs (riL cs) k) cs.length p0 [] = R0 at hk
  refine s_while (fun m σ' H' => ∃ (p : Nat) (a : Addr) (vs : List V) (us : List U) (x4 x5 : Option V), σ' = [some (.str z), some (.int (p : Int)), some (.int (d : Int)), some (.ref a), x4, x5] ∧ Ex H H' ∧ H' a = some (.tup vs) ∧ OdL H' vs us ∧ p ≤ cs.length ∧ cs.length + 1 ≤ p + m ∧ us.length ≤ p ∧ rdItems cs (rdThing cs (riL cs) k) m p us = R0) cs.length
    ⟨p0, a0, [], [], none, none, rfl, e0.trans e1, e1 _ _ h0, .nil, by omega, by omega, by simp, hR⟩ ?_
  rintro m σ' H' ⟨p, a, vs, us, x4, x5, rfl, ex, hl, hod, hp, hm, hu, hr0⟩
  refine ⟨true, et_B ev_c, fun _ H3 e3 => ?_, fun q => by cases q⟩
  obtain ⟨m', rfl⟩ : ∃ m', m = m' + 1 := ⟨m - 1, by omega⟩
  unfold rdItems at hr0
  refine ⟨_, fun σ2 H4 hN => ⟨m', by omega, hN⟩, ?_⟩
  refine q_asgC (sp := spLT k) (dvs := []) (vs := [.str z, .int (p : Int), .int (d : Int)]) (ea_cons (ev_var rfl) (ea_cons (ev_var rfl) (ea_cons (ev_var rfl) ea_nil))) fun H4 e4 => ?_
  refine ⟨z, p, d, rfl, hdk, hz, by omega, ?_⟩
  rw [hcs]
  have E4 := (ex.trans e3).trans e4
  cases hrd : rdThing cs (riL cs) k p with
  | bad e =>
    rw [hrd] at hr0
    intro t H5 s5 h5
    refine ⟨t, _, rfl, st_of h5, rfl, .non, _, rfl, .int (e : Int), _, rfl, .bl true, [], rfl, rfl, ?_⟩
    show tSeq _ _ _ [some (.str z), some (.int (e : Int)), some (.int (d : Int)), some (.ref a), some .non, some (.bl true)] H5
    refine q_when (b := true) (et_B (ev_var rfl)) (fun _ H6 e6 => ?_) (fun q => by cases q)
    exact wrong_ret hk hr0.symm ((E4.trans s5).trans e6) (ev_var rfl)
  | ok u q =>
    rw [hrd] at hr0
    dsimp only at hr0
    obtain ⟨b1, b2, b3⟩ := rdThing_ok (cs := cs) (ri := riL cs) (fun p u q h => riL_ok h) k p u q hrd
    intro v t H5 s5 o5 h5
    refine ⟨t, _, rfl, st_of h5, rfl, v, _, rfl, .int (q : Int), _, rfl, .bl false, [], rfl, rfl, ?_⟩
    show tSeq _ _ _ [some (.str z), some (.int (q : Int)), some (.int (d : Int)), some (.ref a), some v, some (.bl false)] H5
    have hl5 : H5 a = some (.tup vs) := s5 _ _ (e4 _ _ (e3 _ _ hl))
    have hlen := OdL.length hod
    refine q_when (b := false) (et_B (ev_var rfl)) (fun q => by cases q) (fun _ H6 e6 => ?_)
    refine q_asgAny (cat_one (K := K) (ev_var rfl) (e6 _ _ hl5) (ev_var rfl) (by omega) fun a2 H7 e7 h7 => ?_)
    have E7 := ((E4.trans s5).trans e6).trans e7
    have od7 : OdL H7 (vs ++ [v]) (us ++ [u]) := OdL.append (hod.ex ((((e3.trans e4).trans s5).trans e6).trans e7)) (.cons (o5.ex (e6.trans e7)) .nil)
    show tSeq _ _ _ [some (.str z), some (.int (q : Int)), some (.int (d : Int)), some (.ref a2), some v, some (.bl false)] H7
    cases hc : cs[q]? with
    | none =>
      have hlen := ge_len hc
      rw [hc, if_neg (by intro z; cases z), if_neg (by intro z; cases z)] at hr0
      refine q_when (b := false && true) (et_and (a := false) (b := true) (et_is (et_lt (ev_var rfl) (ev_var rfl) hz1) (decide_eq_false (by omega))) (fun q => by cases q)) (fun q => by cases q) (fun _ H8 e8 => ?_)
      refine q_when (b := true) (et_or (a := true) (b := true) (et_is (et_end (ev_var rfl) (ev_var rfl) hz1) (decide_eq_true (by omega))) (fun q => by cases q)) (fun _ H9 e9 => ?_) (fun q => by cases q)
      exact wrong_ret hk hr0.symm ((E7.trans e8).trans e9) (ev_var rfl)
    | some c =>
      have hlq := (List.getElem?_eq_some_iff.mp hc).1
      have hcz : (TL.tl z)[q]? = some c := by rw [hcs]; exact hc
      rw [hc] at hr0
      refine q_when (b := true && decide (c = 41)) (et_and (a := true) (et_is (et_lt (ev_var rfl) (ev_var rfl) hz1) (decide_eq_true (by omega))) (fun _ => et_sign (ev_var rfl) (ev_var rfl) hz1 hcz s41)) (fun q5 H8 e8 => ?_) (fun q5 H8 e8 => ?_)
      · have q5 : c = 41 := of_decide_eq_true q5
        rw [if_pos (by rw [q5])] at hr0
        exact right_ret hk hr0.symm (E7.trans e8) (ev_var rfl) (.tup (e8 _ _ h7) (od7.ex e8)) (ev_is (ev_op (ev_var rfl) ev_c rv_I0) (by rw [show ((q + 1 : Nat) : Int) = (q : Int) + 1 by omega]))
      · have q5 : c ≠ 41 := of_decide_eq_false q5
        rw [if_neg (fun z => q5 (Option.some.inj z))] at hr0
        refine q_when (b := false || !decide (c = 44)) (et_or (a := false) (et_is (et_end (ev_var rfl) (ev_var rfl) hz1) (decide_eq_false (by omega))) (fun _ => et_nsign (ev_var rfl) (ev_var rfl) hz1 hcz s44)) (fun q6 H9 e9 => ?_) (fun q6 H9 e9 => ?_)
        · have n44 : c ≠ 44 := fun e => by rw [decide_eq_true e] at q6; cases q6
          rw [if_neg (fun z => n44 (Option.some.inj z))] at hr0
          exact wrong_ret hk hr0.symm ((E7.trans e8).trans e9) (ev_var rfl)
        · have y44 : c = 44 := by
            by_cases z : c = 44
            · exact z
            · rw [decide_eq_false z] at q6
              cases q6
          rw [if_pos (by rw [y44])] at hr0
          refine s_asg (v := .int ((q + 1 : Nat) : Int)) (ev_is (ev_op (ev_var rfl) ev_c rv_I0) (by rw [show ((q + 1 : Nat) : Int) = (q : Int) + 1 by omega])) fun H10 e10 => ?_
          have e11 := (e8.trans e9).trans e10
          exact ⟨q + 1, a2, vs ++ [v], us ++ [u], some v, some (.bl false), rfl, E7.trans e11, e11 _ _ h7, od7.ex e11, by omega, by omega, by rw [List.length_append, List.length_singleton]; omega, hr0⟩
theorem ok_LTs {f fT fS fN : Addr} {fd dT dS dN : FuncData} (D : Df K mg "_law_first_wrong" lFirst ["text", "at", "deep"] f fd) (B : Bt mg) (DT : Df K mg "_law_read_tuple" lReadTup ["text", "at", "deep"] fT dT) (DS : Df K mg "_law_read_string" lReadStr ["text", "at"] fS dS)
    (DN : Df K mg "_law_read_integer" lReadInt ["text", "at"] fN dN) : ∀ k : Nat, FnOk P w K mg base CX0 (1 + 2 * k + 1) f fd ["text", "at", "deep"] (spLT k)
  | 0 => ok_LT D.F B DT DS DN 0 ⟨fun _ _ _ _ h => h.elim, fun _ _ _ _ _ _ _ _ _ _ _ _ _ h => h.elim⟩
  | k + 1 => ok_LT D.F B DT DS DN (k + 1) (by
      have h := ok_LTu (P := P) (w := w) (base := base) DT.F B D k (ok_LTs D B DT DS DN k)
      exact h)
/-- where the law's readers stand -/
structure Lr (K : PySem.W.Frag) (mg : Str → Option Value) : Prop where
  B : Bt mg
  T : ∃ f d, Df K mg "_law_first_wrong" lFirst ["text", "at", "deep"] f d
  U : ∃ f d, Df K mg "_law_read_tuple" lReadTup ["text", "at", "deep"] f d
  S : ∃ f d, Df K mg "_law_read_string" lReadStr ["text", "at"] f d
  I : ∃ f d, Df K mg "_law_read_integer" lReadInt ["text", "at"] f d
def spLU : Sp := fun vs H Q _ => ∃ (z : Str), vs = [.str z] ∧ z.length ≤ 90000 ∧ ∀ (t : Addr) (H' : Hp), Same H H' → Od H' (.ref t) (toU (unU (.str z))) → Q (.ref t) H'
theorem unU_str (z : Str) : unU (.str z) = match whole (TL.tl z) (rdThing (TL.tl z) (riL (TL.tl z)) 30 0) with | .inl u => .inl u | .inr e => .inr (e : Int) := by
  rw [← whole_alike]
  rfl
end
end Ht
/-! s[::-1] of a text; _law_changed -/
namespace Ht
open PySem PySem.Spec PyProof.Rows L2 Hu Evl
def revZ (z : Str) : Str := ⟨((Builtin.Str.strSliceIndices none none (-1) z.length).filterMap (z.cps[·]?)).toArray⟩
theorem revZ_len (z : Str) : (revZ z).length ≤ z.length := by
  show (((Builtin.Str.strSliceIndices none none (-1) z.length).filterMap (z.cps[·]?)).toArray).size ≤ _
  rw [List.size_toArray]
  exact Nat.le_trans (List.length_filterMap_le _ _) (sliceIndicesBy_le none none (-1) (by decide) z.length)
def tRevS (te : TE) : TE := fun σ H Q => te σ H fun x H1 => ∃ z, x = .str z ∧ z.length ≤ sizeLine ∧ Q (.str (revZ z)) H1
section
variable {X : Cx}
theorem pe_revS {e : Expr} {te : TE} {k : Nat} {p1 p2 p3 pos : Pos} (he : PE X e te) : PE X (.Subscript e (.Slice none none (some (.UnaryOp .USub (.Constant (.int 1) k p1) p2)) p3) pos) (tRevS te) := by
  refine ⟨fun pins s σ H Q I h => ?_⟩
  refine Subscript_ (thn (he.run pins s σ H _ I h) fun v s1 ⟨x, H1, I1, r1, q1⟩ => ?_)
  obtain ⟨z, ex, hz, q⟩ := q1
  subst ex
  obtain ⟨t, rfl⟩ := r1
  have hst : PO X (some (.UnaryOp .USub (.Constant (.int 1) k p1) p2)) (tPart (tUn (rU fun i => .int (-i)) (tC (.int 1)))) := po_some (pe_un un_neg pe_int)
  refine wpAny_Slice (thn (po_none.run pins s1 σ H1 (fun o H2 => o = none ∧ H2 = H1) I1 ⟨rfl, rfl⟩) fun vl s2 ⟨l, H2, I2, pl, el, e2⟩ => ?_)
  subst el e2
  refine thn (po_none.run pins s2 σ H2 (fun o H3 => o = none ∧ H3 = H2) I2 ⟨rfl, rfl⟩) fun vu s3 ⟨u, H3, I3, pu, eu, e3⟩ => ?_
  subst eu e3
  refine thn (hst.run pins s3 σ H3 (fun o H4 => o = some (-1) ∧ H4 = H3) I3 ⟨1, rfl, -1, rfl, rfl, rfl⟩) fun vs s4 ⟨o, H4, I4, ps, eo, e4⟩ => ?_
  subst eo e4
  have I5 : Inv X pins σ H4 { s4 with heap := s4.heap.push { cls := .type "slice", data := .fields #[vl, vu, vs] } } := I4.kept (t' := s4.toks) fun b ob q => Heap.get?_push_of_some _ q
  obtain ⟨l, rfl, hl⟩ := IsPart.raw pl
  obtain ⟨u, rfl, hu⟩ := IsPart.raw pu
  obtain ⟨st, rfl, hs⟩ := IsPart.raw ps
  show wpAny (model X.prog X.w) X.A (subscriptTail e (.Slice none none (some (.UnaryOp .USub (.Constant (.int 1) k p1) p2)) p3) (.str z t) (.ref s4.heap.objs.size)) (EP X pins σ Q) X.xe { s4 with heap := s4.heap.push { cls := .type "slice", data := .fields #[partValue l, partValue u, partValue st] } }
  refine tail_any (ops := [.str z t, .ref s4.heap.objs.size]) (typeIs_str _ _ _) F.slot_str_getitem.lookup ?_ (by with_unfolding_all rfl)
  refine wpAny_getItem_str_slice (l := l) (u := u) (st := st) ⟨_, Heap.get?_push_size _ rfl, rfl, rfl⟩ (by rw [hs]; rfl) ?_
  unfold sliceMade slicePicked
  rw [hs, hl, hu]
  rw [if_neg (by simp)]
  exact ⟨Nat.le_trans (revZ_len z) hz, .str _, H4, I5.tok _, ⟨_, rfl⟩, q⟩
end
section
variable {σ : L2.St} {H : Hp} {te : TE}
theorem ev_revS {z : Str} (h : Ev te σ H (.str z)) (hz : z.length ≤ 100000) : Ev (tRevS te) σ H (.str (revZ z)) := fun H1 e Q q => h H1 e _ fun H2 e2 => ⟨z, rfl, sz_of hz, q H2 e2⟩
theorem ev_addS {ta tb : TE} {a b : Str} (ha : Ev ta σ H (.str a)) (hb : Ev tb σ H (.str b)) (h : a.length + b.length ≤ 3000000) : Ev (tOp rAddZ ta tb) σ H (.str (a ++ b)) := ev_op ha hb (rv_addZ h)
end
theorem app_len (a b : Str) : (a ++ b).length = a.length + b.length := by rw [TL.len_tl, TL.tl_append, List.length_append, ← TL.len_tl, ← TL.len_tl]
theorem app_mem {a b : Str} {x : Nat} (h : x ∈ TL.tl (a ++ b)) : x ∈ TL.tl a ∨ x ∈ TL.tl b := by
  rw [TL.tl_append] at h
  exact List.mem_append.mp h
theorem cut_mem {z : Str} {lo hi : Option Int} {x : Nat} (h : x ∈ TL.tl (cutS z lo hi)) : x ∈ TL.tl z := by
  have h : x ∈ ((z.cps.toList.drop (HT.sIx z.length 0 lo)).take (HT.sIx z.length z.length hi - HT.sIx z.length 0 lo)) := h
  exact List.mem_of_mem_drop (List.mem_of_mem_take h)
theorem rev_mem {z : Str} {x : Nat} (h : x ∈ TL.tl (revZ z)) : x ∈ TL.tl z := by
  have h : x ∈ ((Builtin.Str.strSliceIndices none none (-1) z.length).filterMap (z.cps[·]?)).toArray.toList := h
  rw [List.toList_toArray] at h
  obtain ⟨i, _, hi⟩ := List.mem_filterMap.mp h
  have hi2 : z.cps.toList[i]? = some x := by rw [Array.getElem?_toList]; exact hi
  exact List.mem_of_getElem? hi2
section
variable {P : Program} {w : World} {K : PySem.W.Frag} {mg : Str → Option Value} {base : Heap} {fD : Addr} {dD : FuncData}
end
end Ht
/-! enumerate(text, start=k) -/
namespace En
open PySem PySem.Spec PyProof.Rows L2
open Sem (wp)
/-- the signs of a text, each in a new pair with its place, from k on -/
def Itn (x : Str) (k : Int) : It :=
  ⟨fun i _ => i < x.cps.size, fun i H v H' => ∃ T c, v = .ref T ∧ H T = none ∧ H' = upd H T (.tup [.int (k + (i : Int)), .str ⟨#[c]⟩]) ∧ x.cps[i]? = some c, fun i _ => x.cps.size = i⟩
theorem turn_enumS {P : Program} {w : World} {K : PySem.W.Frag} {elts : List Expr} {kk : Nat} {tpos : Pos} (x : Str) (t : Tok) (k : Int) (e it : Addr) :
    Turn P w K (.Tuple elts kk tpos) (Itn x k) [e, it] e (fun i h => (∃ old, IsEnum h e it (k + (i : Int)) old) ∧ h.IsStrIter it (strIterType x) x t i ∧ e ≠ it) where
  mem := by simp
  obj := fun i h st b hb => by
    obtain ⟨⟨old, he⟩, ⟨o, ho, hc, hd⟩, _⟩ := st
    have e' : b = e ∨ b = it := by simpa using hb
    rcases e' with z | z
    · rw [z]; exact ⟨_, he, fun v q => nomatch q⟩
    · rw [z]; exact ⟨o, ho, fun v q => by rw [hd] at q; cases q⟩
  keep := fun i h h' st k => let ⟨⟨old, he⟩, hi, hne⟩ := st; ⟨⟨old, k e (by simp) _ he⟩, (let ⟨o, ho, r⟩ := hi; ⟨o, k it (by simp) o ho, r⟩), hne⟩
  item := by
    intro X hP hw hK hc i pins s σ H E I hf st hg
    subst hP hw hK
    obtain ⟨⟨old, he⟩, hit, hne⟩ := st
    have hel : e < s.heap.objs.size := Heap.lt_size he
    have hil : it < s.heap.objs.size := by obtain ⟨_, q, _⟩ := hit; exact Heap.lt_size q
    refine wpAny_pyNext_enum_itemC (Draws.text (A := X.A.in1) (by exact I.ok.hd hc) it x t) he hit hg hne (by simpa using hne) fun u h' tk hu ho hit' hT hsz hk => ?_
    obtain ⟨c, u2, hcx, rfl⟩ := hu
    refine ⟨_, rfl, wpAny_letOwnedTupleGo_enum (s := { s with heap := h', toks := tk + 1 }) ho fun h'' he' sb => ?_⟩
    have hT2 : h''.get? s.heap.objs.size = some { cls := .type "tuple", data := .seq #[.int (k + (i : Int)) tk, .str ⟨#[c]⟩ u2] } := (sb.2 _ (Nat.ne_of_gt hel)).trans hT
    have new : ObjOk X.prog X.w (upd H s.heap.objs.size (.tup [.int (k + (i : Int)), .str ⟨#[c]⟩])) h'' s.heap.objs.size (.tup [.int (k + (i : Int)), .str ⟨#[c]⟩]) :=
      ⟨by show 2 ≤ sizeLine; decide, [.int (k + (i : Int)) tk, .str ⟨#[c]⟩ u2], .cons ⟨_, rfl⟩ (.cons ⟨_, rfl⟩ .nil), ⟨_, hT2, rfl, _, rfl⟩⟩
    have I1 : Inv X pins σ (upd H s.heap.objs.size (.tup [.int (k + (i : Int)), .str ⟨#[c]⟩])) { s with heap := h'', toks := tk + 1 } :=
      I.turnedNew (ch := [e, it]) (fun b ob hb q => (sb.2 b (fun z => hb (by simp [z]))).trans (hk b ob (fun z => hb (by simp [z])) (fun z => hb (by simp [z])) q)) hf (Nat.le_refl _) new
    refine ⟨.ref s.heap.objs.size, _, I1, rfl, ⟨_, c, rfl, I.hok.fresh (Nat.le_refl _), rfl, hcx⟩, ⟨⟨.str ⟨#[c]⟩ u2, ?_⟩, (let ⟨o, q, r⟩ := hit'; ⟨o, (sb.2 it (Ne.symm hne)).trans q, r⟩), hne⟩, fun b hb => ?_⟩
    · have e1 : k + ((i + 1 : Nat) : Int) = k + (i : Int) + 1 := by omega
      rw [e1]; exact he'
    · have hb' : b < s.heap.objs.size := by
        have e' : b = e ∨ b = it := by simpa using hb
        rcases e' with z | z
        · rw [z]; exact hel
        · rw [z]; exact hil
      rw [upd_ne (Nat.ne_of_lt hb')]
      exact (hf b hb).1
  done := by
    intro X hP hw hK hc i pins s σ H E I hf st hg
    subst hP hw hK
    obtain ⟨⟨old, he⟩, hit, hne⟩ := st
    obtain ⟨f0, f1, f2, f3, f4, f5⟩ := hf it (by simp)
    have hg' : x.cps.size = i := hg
    subst hg'
    exact wpAny_pyNext_enum_endD (Draws.text (A := X.A.in1) (by exact I.ok.hd hc) it x t) he hit fun h' eb => ⟨rfl, I.turned (t' := s.toks) (fun b o hb q => eb b o hb q) f0 f1 f3 f4 f5⟩
  self := fun A i s Q E st h => let ⟨⟨_, he⟩, _⟩ := st; wpAny_pyIter_enum he h
def iEnumS (ta tk : TA) : TI := fun σ H R => ta σ H fun vs H1 => tk σ H1 fun zs H2 => ∃ x k, vs = [.str x] ∧ zs = [.int k] ∧ 0 ≤ k ∧ k ≤ 1000000 ∧ R (Itn x k) H2
theorem pi_enumS {X : Cx} {e e2 : Expr} {ta : TA} {te2 : TE} {p pos tpos kp : Pos} {elts : List Expr} {kk : Nat} (hg : Gl X "enumerate") (hm : X.mg "enumerate" = none) (ha : PA X [e] ta) (hk : PE X e2 te2)
    (he : starEach [e] X.env = (false, eval e X.env) :: starEach [] X.env := by rfl) (hpl : ((backTo pos (starEach [e] X.env)).any (·.1) || (backToKw pos (keywordEach [⟨some "start", e2, kp⟩] X.env)).any (·.1.isNone)) = false := by rfl)
    (hall : (backToKw pos (keywordEach [⟨some "start", e2, kp⟩] X.env)).all (·.1.isSome) = true := by rfl) (hks : (backToKw pos (keywordEach [⟨some "start", e2, kp⟩] X.env)).filterMap (·.1) = [Str.ofString "start"] := by rfl) :
    PI X (.Tuple elts kk tpos) (.Call (.Name "enumerate" p) [e] [⟨some "start", e2, kp⟩] pos) (iEnumS ta (tCons te2 tNil)) := by
  refine ⟨fun pins s σ H R I h => ?_⟩
  refine wpAny_Call_Name_kw (ld_blt I hg hm boot_enumerate ?_ (by decide) (by decide))
  refine PySem.W.callWith_of (P := fun _ => True) hpl (fun h _ => ⟨Keeper.machine, .inr (.inl rfl), (show PySem.W.Looks _ h (pure Keeper.machine) Keeper.machine from .now)⟩) ?_
  refine evalArgs_kw2 hall (thn (ha.run pos pins s σ H _ I h) fun us s1 ⟨vs, H1, I1, r1, q1⟩ => thn ((pk_cons hk pk_nil).run pos pins s1 σ H1 _ I1 q1) fun ws s2 ⟨zs, H2, I2, r2, x, k, ev, ez, k0, k1, q⟩ => ⟨trivial, ?_⟩) he
  subst ev ez
  cases r1 with
  | cons rv rn =>
    cases rn
    obtain ⟨t, rfl⟩ := rv
    cases r2 with
    | cons rk rn2 =>
      cases rn2
      obtain ⟨t2, rfl⟩ := rk
      rw [hks]
      show wpAny _ _ (call (.type "enumerate") [.str x t] [(Str.ofString "start", .int k t2)]) _ _ s2
      refine enum_begins_start (begins_text x t) trivial (by omega) (by omega) fun h' hen hit hsz hkp => wpAny_pyIter_enum hen ?_
      have I3 : Inv X pins σ H2 { s2 with heap := h' } := I2.kept (t' := s2.toks) hkp
      refine ⟨s2.heap.objs.size + 1, [s2.heap.objs.size + 1, s2.heap.objs.size], _, _, H2, rfl, I3, turn_enumS x t k (s2.heap.objs.size + 1) s2.heap.objs.size, ⟨⟨.none, by rw [show k + ((0 : Nat) : Int) = k by omega]; exact hen⟩, ⟨_, hit, rfl, rfl⟩, Nat.succ_ne_self _⟩, fun b hb => ?_, q⟩
      have e' : b = s2.heap.objs.size + 1 ∨ b = s2.heap.objs.size := by simpa using hb
      have hle : s2.heap.objs.size ≤ b := by
        rcases e' with z | z
        · rw [z]; exact Nat.le_add_right _ _
        · rw [z]; exact Nat.le_refl _
      exact I2.fpOk hle (I2.hok.fresh hle)
end En
/-! k31: what is read is the text of what was told -/
namespace Ht
open PySem Hu L2
theorem drop_some {cs : List Nat} {p c : Nat} (h : cs[p]? = some c) : cs.drop p = c :: cs.drop (p + 1) := by
  obtain ⟨h1, h2⟩ := List.getElem?_eq_some_iff.mp h
  rw [List.drop_eq_getElem_cons h1, h2]
theorem rdStr_tx {cs : List Nat} : ∀ {n p : Nat} {acc : List Nat} {u : U} {q : Nat}, rdStr cs n p acc = .ok u q → ∃ l, u = .str (mkS (acc ++ l)) ∧ cs.drop p = escP l ++ 39 :: cs.drop q ∧ l.all okW = true
  | 0, p, acc, u, q, h => by
    unfold rdStr at h
    cases h
  | n + 1, p, acc, u, q, h => by
    unfold rdStr at h
    cases hc : cs[p]? with
    | none =>
      rw [hc] at h
      cases h
    | some c =>
      rw [hc] at h
      dsimp only at h
      have d1 := drop_some hc
      split at h
      · rename_i e
        cases h
        refine ⟨[], by rw [List.append_nil], ?_, rfl⟩
        rw [d1, e]
        rfl
      · rename_i n39
        split at h
        · rename_i e
          cases hd : cs[p + 1]? with
          | none =>
            rw [hd] at h
            cases h
          | some d =>
            rw [hd] at h
            dsimp only at h
            have d2 := drop_some hd
            split at h
            · rename_i hd2
              obtain ⟨l, e1, e2, e3⟩ := rdStr_tx h
              refine ⟨d :: l, by rw [e1, List.append_assoc]; rfl, ?_, ?_⟩
              · rw [d1, d2, e2, e, esc_cons, if_pos hd2]
                rfl
              · rw [List.all_cons, e3, Bool.and_true]
                rcases hd2 with rfl | rfl <;> rfl
            · cases h
        · rename_i n126
          split at h
          · rename_i hd2
            obtain ⟨l, e1, e2, e3⟩ := rdStr_tx h
            refine ⟨c :: l, by rw [e1, List.append_assoc]; rfl, ?_, ?_⟩
            · rw [d1, e2, esc_cons, if_neg (by omega)]
              rfl
            · rw [List.all_cons, e3, Bool.and_true]
              unfold okW
              rw [decide_eq_true hd2.1, decide_eq_true hd2.2]
              rfl
          · cases h
theorem valD_app (l : List Nat) (c : Nat) : valD (l ++ [c]) = valD l * 10 + (c - 48) := by
  unfold valD
  rw [List.foldl_append]
  rfl
theorem isD_iff {c : Nat} (h : isD c = true) : 48 ≤ c ∧ c ≤ 57 := by
  unfold isD at h
  have := Bool.and_eq_true_iff.mp h
  exact ⟨of_decide_eq_true this.1, of_decide_eq_true this.2⟩
theorem snoc_of {n : Nat} {l : List Nat} (h : l.length = n + 1) : ∃ l' c, l = l' ++ [c] ∧ l'.length = n := by
  have hne : l ≠ [] := fun e => by rw [e] at h; cases h
  refine ⟨l.dropLast, l.getLast hne, (List.dropLast_concat_getLast hne).symm, ?_⟩
  rw [List.length_dropLast, h]
  rfl
theorem valD_lt : ∀ (n : Nat) (l : List Nat), l.length = n → (∀ c ∈ l, isD c = true) → valD l < 10 ^ n
  | 0, l, h, _ => by
    rw [List.length_eq_zero_iff.mp h]
    decide
  | n + 1, l, h, hd => by
    obtain ⟨l', c, rfl, hl⟩ := snoc_of h
    have ih := valD_lt n l' hl fun d q => hd d (List.mem_append_left _ q)
    have hc := isD_iff (hd c (List.mem_append_right _ (List.mem_singleton.mpr rfl)))
    rw [valD_app, Nat.pow_succ]
    omega
theorem numL_dig : ∀ (n : Nat) (l : List Nat), l.length = n + 1 → (∀ c ∈ l, isD c = true) → (1 ≤ n → l.head? ≠ some 48) → TL.numL (valD l) = l
  | 0, l, h, hd, _ => by
    obtain ⟨l', c, rfl, hl⟩ := snoc_of h
    have hc := isD_iff (hd c (List.mem_append_right _ (List.mem_singleton.mpr rfl)))
    rw [List.length_eq_zero_iff.mp hl]
    have e : valD ([] ++ [c]) = c - 48 := by
      rw [valD_app]
      show 0 * 10 + (c - 48) = _
      omega
    rw [e, TL.numL_lt (by omega), show 48 + (c - 48) = c by omega]
    rfl
  | n + 1, l, h, hd, h0 => by
    obtain ⟨l', c, rfl, hl⟩ := snoc_of h
    have hc := isD_iff (hd c (List.mem_append_right _ (List.mem_singleton.mpr rfl)))
    have hh : l'.head? ≠ some 48 := by
      have := h0 (by omega)
      cases l' with
      | nil => cases hl
      | cons a r => exact this
    have ih := numL_dig n l' hl (fun d q => hd d (List.mem_append_left _ q)) fun _ => hh
    have v0 : valD l' ≠ 0 := fun e => by
      rw [e, TL.numL_lt (by decide)] at ih
      rw [← ih] at hh
      exact hh rfl
    rw [valD_app, TL.numL_step (by omega)]
    have e1 : (valD l' * 10 + (c - 48)) / 10 = valD l' := by omega
    have e2 : 48 + (valD l' * 10 + (c - 48)) % 10 = c := by omega
    rw [e1, e2, ih]
theorem run_take (cs : List Nat) (f : Nat) : cs.drop f = (cs.drop f).take (run cs f) ++ cs.drop (f + run cs f) ∧ ((cs.drop f).take (run cs f)).length = run cs f ∧ ∀ c ∈ (cs.drop f).take (run cs f), isD c = true := by
  have hle := run_le cs f
  refine ⟨?_, ?_, ?_⟩
  · rw [← List.drop_drop, List.take_append_drop]
  · rw [List.length_take, List.length_drop]
    omega
  · intro c hc
    obtain ⟨i, hi, e⟩ := List.mem_iff_getElem.mp hc
    rw [List.length_take] at hi
    obtain ⟨d, h1, h2⟩ := run_digit (cs := cs) (f := f) (n := i) (by omega)
    rw [List.getElem_take, List.getElem_drop] at e
    obtain ⟨h3, h4⟩ := List.getElem?_eq_some_iff.mp h1
    rw [← e, h4]
    exact h2
theorem tx_nat (n : Nat) : tx (.int (n : Int)) = TL.numL n := by
  simp only [tx]
  exact TL.tl_num n
theorem tx_neg {n : Nat} (h : 0 < n) : tx (.int (-(n : Int))) = 45 :: TL.numL n := by
  obtain ⟨m, em, hc⟩ := tx_int (-(n : Int))
  rcases hc with ⟨e, _⟩ | ⟨_, _, e⟩
  · omega
  · rw [e]
    congr 2
    omega
theorem riP_tx {cs : List Nat} {p : Nat} {u : U} {q : Nat} (h : riP cs p = .ok u q) : cs.drop p = tx u ++ cs.drop q ∧ pl u ∧ (∃ i, u = .int i) := by
  unfold riP at h
  dsimp only at h
  obtain ⟨t1, t2, t3⟩ := run_take cs (begins cs p)
  have hb := begins_ge cs p
  split at h
  · cases h
  rename_i r0
  split at h
  · rename_i h48
    split at h
    · cases h
    · rename_i hlt
      cases h
      have e : begins cs p = p := by omega
      rw [e] at h48 ⊢
      have := tx_nat 0
      rw [TL.numL_lt (by decide)] at this
      refine ⟨?_, by simp [pl], _, rfl⟩
      rw [drop_some h48]
      exact (congrArg (· ++ cs.drop (p + 1)) this).symm
  rename_i n48
  split at h
  · cases h
  rename_i r30
  cases h
  generalize hl : (cs.drop (begins cs p)).take (run cs (begins cs p)) = l at t1 t2 t3
  have hh : l.head? ≠ some 48 := by
    intro e
    cases hlc : l with
    | nil => rw [hlc] at e; cases e
    | cons a r =>
      rw [hlc] at e t1
      cases e
      apply n48
      have : (cs.drop (begins cs p))[0]? = some 48 := by rw [t1]; rfl
      rw [List.getElem?_drop] at this
      exact this
  have hn := numL_dig (run cs (begins cs p) - 1) l (by omega) t3 fun _ => hh
  have hv := valD_lt _ l rfl t3
  have hv2 : valD l < 10 ^ 30 := Nat.lt_of_lt_of_le hv (Nat.pow_le_pow_right (by decide) (by omega))
  have v0 : 0 < valD l := by
    refine Nat.pos_of_ne_zero fun e => ?_
    rw [e, TL.numL_lt (by decide)] at hn
    rw [← hn] at hh
    exact hh rfl
  unfold intAt
  rw [hl]
  by_cases h45 : cs[p]? = some 45
  · rw [if_pos h45]
    have e : begins cs p = p + 1 := by
      unfold begins
      rw [if_pos h45]
    refine ⟨?_, by simp only [pl]; omega, _, rfl⟩
    rw [tx_neg v0, hn, drop_some h45]
    show _ = 45 :: (l ++ _)
    rw [← t1, e]
  · rw [if_neg h45]
    have e : begins cs p = p := by
      unfold begins
      rw [if_neg h45]
    refine ⟨?_, by simp only [pl]; omega, _, rfl⟩
    rw [tx_nat, hn, ← t1, e]
theorem rdItems_tx {cs : List Nat} {rd : Nat → R} (hr : ∀ p u q, rd p = .ok u q → cs.drop p = tx u ++ cs.drop q ∧ pl u) : ∀ {n p : Nat} {acc : List U} {u : U} {q : Nat}, rdItems cs rd n p acc = .ok u q → ∃ u0 us, u = .tup (acc ++ u0 :: us) ∧ cs.drop p = TL.joinL [44] (txs (u0 :: us)) ++ 41 :: cs.drop q ∧ plL (u0 :: us)
  | 0, _, _, _, _, h => by
    unfold rdItems at h
    cases h
  | n + 1, p, acc, u, q, h => by
    unfold rdItems at h
    cases hc : rd p with
    | bad e =>
      rw [hc] at h
      cases h
    | ok u0 q0 =>
      rw [hc] at h
      obtain ⟨a, b⟩ := hr p u0 q0 hc
      dsimp only at h
      split at h
      · rename_i h1
        cases h
        refine ⟨u0, [], rfl, ?_, b, trivial⟩
        rw [a, drop_some h1]
        rfl
      · split at h
        · rename_i h1
          obtain ⟨u1, us, e1, e2, e3⟩ := rdItems_tx hr h
          refine ⟨u0, u1 :: us, by rw [e1, List.append_assoc]; rfl, ?_, b, e3⟩
          rw [a, drop_some h1, e2]
          show _ = (tx u0 ++ (44 :: TL.joinL [44] (txs (u1 :: us)))) ++ _
          simp
        · cases h
theorem rdThing_tx {cs : List Nat} : ∀ (k p : Nat) (u : U) (q : Nat), rdThing cs (riP cs) k p = .ok u q → cs.drop p = tx u ++ cs.drop q ∧ pl u := by
  have str : ∀ {c p u q}, cs[p]? = some c → c = 39 → rdStr cs cs.length (p + 1) [] = .ok u q → cs.drop p = tx u ++ cs.drop q ∧ pl u := by
    intro c p u q hc e h
    obtain ⟨l, e1, e2, e3⟩ := rdStr_tx h
    rw [e1, List.nil_append]
    refine ⟨?_, by simp only [pl]; exact e3⟩
    rw [drop_some hc, e2, e]
    simp only [tx]
    show _ = 39 :: (escP l ++ [39]) ++ _
    simp
  intro k
  induction k with
  | zero =>
    intro p u q h
    unfold rdThing at h
    cases hc : cs[p]? with
    | none =>
      rw [hc] at h
      cases h
    | some c =>
      rw [hc] at h
      dsimp only at h
      split at h
      · rename_i e
        cases h
        refine ⟨?_, by simp only [pl]⟩
        rw [drop_some hc, e]
        simp only [tx]
        rfl
      split at h
      · rename_i e
        exact str hc e h
      split at h
      · cases h
      · exact ⟨(riP_tx h).1, (riP_tx h).2.1⟩
  | succ k ih =>
    intro p u q h
    unfold rdThing at h
    cases hc : cs[p]? with
    | none =>
      rw [hc] at h
      cases h
    | some c =>
      rw [hc] at h
      dsimp only at h
      split at h
      · rename_i e
        cases h
        refine ⟨?_, by simp only [pl]⟩
        rw [drop_some hc, e]
        simp only [tx]
        rfl
      split at h
      · rename_i e
        exact str hc e h
      split at h
      · rename_i e
        split at h
        · rename_i h1
          cases h
          refine ⟨?_, by simp only [pl, plL]⟩
          rw [drop_some hc, drop_some h1, e]
          simp only [tx]
          rfl
        · obtain ⟨u0, us, e1, e2, e3⟩ := rdItems_tx ih h
          rw [e1, List.nil_append]
          refine ⟨?_, by simp only [pl]; exact e3⟩
          rw [drop_some hc, e2, e]
          simp only [tx]
          simp
      · exact ⟨(riP_tx h).1, (riP_tx h).2.1⟩
theorem whole_tx {cs : List Nat} {u : U} (h : whole cs (rdThing cs (riP cs) 30 0) = .inl u) : cs = tx u ∧ pl u ∧ dpt u ≤ 30 := by
  cases hr : rdThing cs (riP cs) 30 0 with
  | bad e =>
    rw [hr] at h
    cases h
  | ok u' q =>
    rw [hr] at h
    unfold whole at h
    dsimp only at h
    split at h
    · rename_i hq
      cases h
      obtain ⟨a, b⟩ := rdThing_tx 30 0 u q hr
      refine ⟨?_, b, rdThing_dpt (fun p u q h => riP_dpt h) 30 0 u q hr⟩
      rw [List.drop_zero, hq, List.drop_length, List.append_nil] at a
      exact a
    · cases h
end Ht
/-! k31: checks, and the texts that bear them -/
namespace Ht
open PySem Hu L2
def wt (c : Nat) : Nat := if c = 10 then 0 else c - 31
def ckS : List Nat → Nat → Nat
  | [], _ => 0
  | c :: l, p => wt c * p + ckS l (p + 1)
def ck (l : List Nat) : Nat := ckS l 1 % 99991
theorem ckS_app : ∀ (a b : List Nat) (p : Nat), ckS (a ++ b) p = ckS a p + ckS b (p + a.length)
  | [], b, p => by simp [ckS]
  | c :: a, b, p => by
    simp only [List.cons_append, ckS, ckS_app a b (p + 1), List.length_cons]
    rw [show p + 1 + a.length = p + (a.length + 1) by omega]
    omega
/-- printable signs -/
def pr (l : List Nat) : Prop := ∀ c ∈ l, 32 ≤ c ∧ c ≤ 126
theorem pr_app {a b : List Nat} (ha : pr a) (hb : pr b) : pr (a ++ b) := fun c hc => (List.mem_append.mp hc).elim (ha c) (hb c)
theorem pr_okW {l : List Nat} (h : l.all okW = true) : pr l := fun c hc => by
  have := List.all_eq_true.mp h c hc
  unfold okW at this
  have h2 := Bool.and_eq_true_iff.mp this
  exact ⟨of_decide_eq_true h2.1, of_decide_eq_true h2.2⟩
theorem pr_esc {l : List Nat} (h : pr l) : pr (escP l) := by
  induction l with
  | nil => exact fun c hc => absurd hc (List.not_mem_nil)
  | cons a l ih =>
    rw [esc_cons]
    refine pr_app ?_ (ih fun c hc => h c (List.mem_cons_of_mem _ hc))
    have ha := h a (List.mem_cons_self ..)
    intro c hc
    split at hc
    · simp only [List.mem_cons, List.not_mem_nil, or_false] at hc
      rcases hc with rfl | rfl
      · omega
      · exact ha
    · simp only [List.mem_cons, List.not_mem_nil, or_false] at hc
      rw [hc]
      exact ha
theorem pr_num (n : Nat) : pr (TL.numL n) := fun c hc => by
  have := TL.numL_digits n c hc
  omega
mutual
theorem pr_tx : ∀ u : U, pl u → pr (tx u)
  | .non, _ => by
    simp only [tx]
    intro c hc
    simp only [List.mem_cons, List.not_mem_nil, or_false] at hc
    omega
  | .int i, _ => by
    obtain ⟨n, en, hc⟩ := tx_int i
    rcases hc with ⟨_, e⟩ | ⟨_, _, e⟩
    · rw [e]; exact pr_num n
    · rw [e]
      intro c hc
      rcases List.mem_cons.mp hc with rfl | hc
      · omega
      · exact pr_num n c hc
  | .str z, h => by
    have hz : (TL.tl z).all okW = true := by simpa only [pl] using h
    have q := pr_esc (pr_okW hz)
    simp only [tx]
    intro c hc
    simp only [List.mem_cons, List.mem_append, List.not_mem_nil, or_false] at hc
    rcases hc with rfl | hc | rfl
    · omega
    · exact q c hc
    · omega
  | .tup us, h => by
    have q := pr_txs us (by simpa only [pl] using h)
    simp only [tx]
    intro c hc
    simp only [List.mem_cons, List.mem_append, List.not_mem_nil, or_false] at hc
    rcases hc with rfl | hc | rfl
    · omega
    · exact q c hc
    · omega
  | .bl _, h => by simp only [pl] at h
  | .lst _, h => by simp only [pl] at h
  | .dct _, h => by simp only [pl] at h
  | .exc, h => by simp only [pl] at h
theorem pr_txs : ∀ us : List U, plL us → pr (TL.joinL [44] (txs us))
  | [], _ => fun c hc => absurd hc (List.not_mem_nil)
  | [u], h => pr_tx u h.1
  | u :: u1 :: us, h => by
    have h1 := pr_tx u h.1
    have h2 := pr_txs (u1 :: us) h.2
    have e : TL.joinL [44] (txs (u :: u1 :: us)) = tx u ++ (44 :: TL.joinL [44] (txs (u1 :: us))) := rfl
    rw [e]
    refine pr_app h1 fun c hc => ?_
    rcases List.mem_cons.mp hc with rfl | hc
    · omega
    · exact h2 c hc
end
theorem num_inj {a b : Nat} (h : TL.numL a = TL.numL b) : a = b := by
  rw [← TL.numL_val a, h, TL.numL_val b]
theorem cop : ∀ d : Nat, d < 96 → 1 ≤ d → Nat.Coprime d 99991 := by
  intro d h1 h2
  have : ∀ d : Fin 96, 1 ≤ d.val → Nat.gcd d.val 99991 = 1 := by decide +kernel
  exact this ⟨d, h1⟩ h2
theorem no_dvd {d P : Nat} (h1 : 1 ≤ d) (h2 : d < 96) (h3 : 1 ≤ P) (h4 : P < 99991) : ¬ 99991 ∣ d * P := fun h => by
  have h5 : 99991 ∣ P := ((cop d h2 h1).symm).dvd_of_dvd_mul_left h
  exact absurd (Nat.le_of_dvd (by omega) h5) (by omega)
theorem mod_ne {A x y P : Nat} (hne : x ≠ y) (hx : x < 96) (hy : y < 96) (h3 : 1 ≤ P) (h4 : P < 99991) : (A + x * P) % 99991 ≠ (A + y * P) % 99991 := by
  intro h
  rcases Nat.lt_or_gt_of_ne hne with q | q
  · have hle : x * P ≤ y * P := Nat.mul_le_mul_right _ (Nat.le_of_lt q)
    refine no_dvd (d := y - x) (P := P) (by omega) (by omega) h3 h4 ?_
    rw [Nat.sub_mul]
    refine ⟨(A + y * P) / 99991 - (A + x * P) / 99991, ?_⟩
    omega
  · have hle : y * P ≤ x * P := Nat.mul_le_mul_right _ (Nat.le_of_lt q)
    refine no_dvd (d := x - y) (P := P) (by omega) (by omega) h3 h4 ?_
    rw [Nat.sub_mul]
    refine ⟨(A + x * P) / 99991 - (A + y * P) / 99991, ?_⟩
    omega
theorem ck_one {a r : List Nat} {x y : Nat} (hne : x ≠ y) (hx : 32 ≤ x ∧ x ≤ 126) (hy : 32 ≤ y ∧ y ≤ 126) (hl : a.length < 90000) : ck (a ++ x :: r) ≠ ck (a ++ y :: r) := by
  unfold ck
  rw [ckS_app, ckS_app]
  simp only [ckS]
  have ex : wt x = x - 31 := if_neg (by omega)
  have ey : wt y = y - 31 := if_neg (by omega)
  rw [ex, ey]
  have := mod_ne (A := ckS a 1 + ckS r (1 + a.length + 1)) (x := x - 31) (y := y - 31) (P := 1 + a.length) (by omega) (by omega) (by omega) (by omega) (by omega)
  intro h
  apply this
  rw [show ckS a 1 + ckS r (1 + a.length + 1) + (x - 31) * (1 + a.length) = ckS a 1 + ((x - 31) * (1 + a.length) + ckS r (1 + a.length + 1)) by omega, h]
  congr 1
  omega
theorem ck_swap {a r : List Nat} {x y : Nat} (hne : x ≠ y) (hx : 32 ≤ x ∧ x ≤ 126) (hy : 32 ≤ y ∧ y ≤ 126) : ck (a ++ x :: y :: r) ≠ ck (a ++ y :: x :: r) := by
  unfold ck
  rw [ckS_app, ckS_app]
  simp only [ckS]
  have ex : wt x = x - 31 := if_neg (by omega)
  have ey : wt y = y - 31 := if_neg (by omega)
  rw [ex, ey]
  generalize ckS r (1 + a.length + 1 + 1) = B
  generalize ckS a 1 = A
  rw [Nat.mul_add (x - 31) (1 + a.length) 1, Nat.mul_add (y - 31) (1 + a.length) 1]
  generalize (x - 31) * (1 + a.length) = M
  generalize (y - 31) * (1 + a.length) = N
  omega
/-- sealed: the text of a thing with its check -/
def Sl (u : U) : List Nat := tx u ++ 35 :: TL.numL (ck (tx u))
theorem no35 (n : Nat) : 35 ∉ TL.numL n := fun h => by
  have := TL.numL_digits n 35 h
  omega
/-- the last # stands at one place -/
theorem split35 {a b e d : List Nat} (h : a ++ 35 :: e = b ++ 35 :: d) (he : 35 ∉ e) (hd : 35 ∉ d) : a = b ∧ e = d := by
  rcases List.append_eq_append_iff.mp h with ⟨c, h1, h2⟩ | ⟨c, h1, h2⟩
  · cases c with
    | nil =>
      simp only [List.nil_append, List.cons.injEq, true_and, List.append_nil] at h1 h2
      exact ⟨h1.symm, h2⟩
    | cons x c =>
      simp only [List.cons_append, List.cons.injEq] at h2
      exact absurd (by rw [h2.2]; simp) he
  · cases c with
    | nil =>
      simp only [List.nil_append, List.cons.injEq, true_and, List.append_nil] at h1 h2
      exact ⟨h1, h2.symm⟩
    | cons x c =>
      simp only [List.cons_append, List.cons.injEq] at h2
      exact absurd (by rw [h2.2]; simp) hd
/-- a thing's text is no other one's with a sign behind that is no digit -/
theorem tx_pre {u v : U} {c : Nat} {r : List Nat} (hu : pl u) (hv : pl v) (du : dpt u ≤ 30) (dv : dpt v ≤ 30) (hc : isD c = false) : tx u ≠ tx v ++ c :: r := fun h => by
  have r1 := rdThing_back (cs := tx u) 30 u [] [] hu du (by simp) (fun c hc => by cases hc)
  have r2 := rdThing_back (cs := tx u) 30 v [] (c :: r) hv dv (by rw [h]; rfl) (fun d hd => by cases hd; exact hc)
  rw [r1] at r2
  have hl := congrArg List.length h
  rw [List.length_append, List.length_cons] at hl
  injection r2 with _ q
  omega
end Ht
/-! k31: no two sealed texts differ by a slip -/
namespace Ht
open PySem Hu L2
theorem int_last {v : U} {l : List Nat} {y : Nat} (hv : pl v) (h : tx v = l ++ [y]) (hy : isD y = true) : ∃ j, v = .int j := by
  have hd := isD_iff hy
  have hg : (tx v).getLast? = some y := by rw [h, List.getLast?_append]; rfl
  cases v with
  | int j => exact ⟨j, rfl⟩
  | non =>
    simp only [tx] at hg
    have e : 46 = y := Option.some.inj hg
    omega
  | str z =>
    simp only [tx] at hg
    rw [show (39 :: (escP (TL.tl z) ++ [39])) = (39 :: escP (TL.tl z)) ++ [39] from rfl, List.getLast?_concat] at hg
    have e : 39 = y := Option.some.inj hg
    omega
  | tup us =>
    simp only [tx] at hg
    rw [show (40 :: (TL.joinL [44] (txs us) ++ [41])) = (40 :: TL.joinL [44] (txs us)) ++ [41] from rfl, List.getLast?_concat] at hg
    have e : 41 = y := Option.some.inj hg
    omega
  | bl _ => simp only [pl] at hv
  | lst _ => simp only [pl] at hv
  | dct _ => simp only [pl] at hv
  | exc => simp only [pl] at hv
theorem int_signs {i : Int} {c : Nat} (h : c ∈ tx (.int i)) : c = 45 ∨ (48 ≤ c ∧ c ≤ 57) := by
  obtain ⟨n, en, hc⟩ := tx_int i
  rcases hc with ⟨_, e⟩ | ⟨_, _, e⟩
  · rw [e] at h
    exact .inr (by have := TL.numL_digits n c h; omega)
  · rw [e] at h
    rcases List.mem_cons.mp h with rfl | h
    · exact .inl rfl
    · exact .inr (by have := TL.numL_digits n c h; omega)
theorem int_first {u : U} {j : Int} {r : List Nat} (hu : pl u) (h : tx (.int j) = tx u ++ r) : ∃ i, u = .int i := by
  have hm : ∀ c r', tx u = c :: r' → c = 45 ∨ (48 ≤ c ∧ c ≤ 57) := fun c r' e => int_signs (i := j) (by rw [h, e]; simp)
  cases u with
  | int i => exact ⟨i, rfl⟩
  | non => have := hm 46 [] (by simp only [tx]); omega
  | str z => have := hm 39 (escP (TL.tl z) ++ [39]) (by simp only [tx]); omega
  | tup us => have := hm 40 (TL.joinL [44] (txs us) ++ [41]) (by simp only [tx]); omega
  | bl _ => simp only [pl] at hu
  | lst _ => simp only [pl] at hu
  | dct _ => simp only [pl] at hu
  | exc => simp only [pl] at hu
theorem ckS_le : ∀ (l : List Nat) (p : Nat), (∀ c ∈ l, wt c ≤ 26) → ckS l p ≤ 26 * (l.length * (p + l.length))
  | [], p, _ => by simp [ckS]
  | c :: l, p, h => by
    have ih := ckS_le l (p + 1) fun d q => h d (List.mem_cons_of_mem _ q)
    have hc := h c (List.mem_cons_self ..)
    have h1 : wt c * p ≤ 26 * p := Nat.mul_le_mul_right _ hc
    simp only [ckS, List.length_cons]
    rw [show p + 1 + l.length = p + (l.length + 1) by omega] at ih
    rw [Nat.add_mul l.length 1 (p + (l.length + 1)), Nat.one_mul]
    generalize l.length * (p + (l.length + 1)) = M at *
    omega
theorem ck_small {i : Int} (h : i.natAbs < 10 ^ 30) : ck (tx (.int i)) = ckS (tx (.int i)) 1 := by
  have hl : (tx (.int i)).length ≤ 31 := by
    obtain ⟨n, en, hc⟩ := tx_int i
    have := TL.numL_len (n := n) (k := 30) (by decide) (by rw [en]; exact h)
    rcases hc with ⟨_, e⟩ | ⟨_, _, e⟩
    · rw [e]; omega
    · rw [e, List.length_cons]; omega
  have hw : ∀ c ∈ tx (.int i), wt c ≤ 26 := fun c hc => by
    have := int_signs hc
    unfold wt
    split <;> omega
  have := ckS_le (tx (.int i)) 1 hw
  have h2 : (tx (.int i)).length * (1 + (tx (.int i)).length) ≤ 31 * 32 := Nat.mul_le_mul hl (by omega)
  exact Nat.mod_eq_of_lt (by omega)
theorem ck_more {u v : U} {y : Nat} (hu : pl u) (hv : pl v) (hy : isD y = true) (h : tx v = tx u ++ [y]) : ck (tx u) < ck (tx v) := by
  obtain ⟨j, rfl⟩ := int_last hv h hy
  obtain ⟨i, rfl⟩ := int_first hu h
  have hi : i.natAbs < 10 ^ 30 := by simpa only [pl] using hu
  have hj : j.natAbs < 10 ^ 30 := by simpa only [pl] using hv
  rw [ck_small hi, ck_small hj, h, ckS_app]
  simp only [ckS]
  have := isD_iff hy
  have ey : wt y = y - 31 := if_neg (by omega)
  rw [ey]
  have : 1 ≤ (y - 31) * (1 + (tx (.int i)).length) := Nat.mul_pos (by omega) (by omega)
  omega
theorem val_ge {y : Nat} (hy : 49 ≤ y) : ∀ (n : Nat) (l : List Nat), l.length = n → 10 ^ n ≤ valD (y :: l)
  | 0, l, h => by
    rw [List.length_eq_zero_iff.mp h]
    show 1 ≤ 0 * 10 + (y - 48)
    omega
  | n + 1, l, h => by
    obtain ⟨l', c, rfl, hl⟩ := snoc_of h
    have ih := val_ge hy n l' hl
    rw [show y :: (l' ++ [c]) = (y :: l') ++ [c] from rfl, valD_app, Nat.pow_succ]
    omega
theorem num_more {m n y : Nat} (h : TL.numL m = y :: TL.numL n) : n < m := by
  have m0 : 0 < m := by
    refine Nat.pos_of_ne_zero fun e => ?_
    rw [e, TL.numL_lt (by decide)] at h
    injection h with _ h2
    exact TL.numL_ne n h2.symm
  obtain ⟨c, r, e, hc⟩ := numL_head m m0
  rw [e] at h
  injection h with h1 h2
  subst h1
  have v1 := valD_num m
  have v2 := valD_num n
  have g := val_ge hc _ r rfl
  have l := valD_lt _ r rfl (by rw [h2]; exact numL_isD n)
  rw [e] at v1
  rw [h2] at g l v1
  omega
/-- one sign exchanged -/
theorem fact1 {u v : U} {a' r' : List Nat} {x s : Nat} (hu : pl u) (hv : pl v) (du : dpt u ≤ 30) (dv : dpt v ≤ 30) (lu : (tx u).length < 90000) (hne : x ≠ s) (h1 : Sl u = a' ++ x :: r') (h2 : Sl v = a' ++ s :: r') : False := by
  unfold Sl at h1 h2
  have ne := no35 (ck (tx u))
  have nd := no35 (ck (tx v))
  have hash : tx u = a' → x = 35 → r' = TL.numL (ck (tx u)) → False := fun ea ex er => by
    rw [← ea, er] at h2
    rcases List.append_eq_append_iff.mp h2 with ⟨c, q1, q2⟩ | ⟨c, q1, q2⟩
    · cases c with
      | nil =>
        simp only [List.nil_append, List.cons.injEq] at q2
        omega
      | cons z c =>
        simp only [List.cons_append, List.cons.injEq] at q2
        rw [← q2.1] at q1
        exact tx_pre hu hv du dv (by decide) q1
    · cases c with
      | nil =>
        simp only [List.nil_append, List.cons.injEq] at q2
        omega
      | cons z c =>
        simp only [List.cons_append, List.cons.injEq] at q2
        exact ne (by rw [q2.2]; simp)
  rcases List.append_eq_append_iff.mp h1 with ⟨c, q1, q2⟩ | ⟨c, q1, q2⟩
  · cases c with
    | nil =>
      simp only [List.nil_append, List.cons.injEq, List.append_nil] at q1 q2
      exact hash q1.symm q2.1.symm q2.2.symm
    | cons z c =>
      simp only [List.cons_append, List.cons.injEq] at q2
      obtain ⟨rfl, qe⟩ := q2
      by_cases hs : s = 35
      · rw [q1, hs, List.append_assoc] at h2
        have h3 : tx v ++ 35 :: TL.numL (ck (tx v)) = (tx u ++ 35 :: c) ++ 35 :: r' := by rw [h2]; simp
        have n3 : 35 ∉ r' := fun q => ne (by rw [qe]; simp [q])
        exact tx_pre hv hu dv du (by decide) (split35 h3 nd n3).1
      · have h3 : tx v ++ 35 :: TL.numL (ck (tx v)) = tx u ++ 35 :: (c ++ s :: r') := by rw [h2, q1]; simp
        have n3 : 35 ∉ c ++ s :: r' := fun q => by
          rcases List.mem_append.mp q with q | q
          · exact ne (by rw [qe]; simp [q])
          · rcases List.mem_cons.mp q with q | q
            · exact hs q.symm
            · exact ne (by rw [qe]; simp [q])
        obtain ⟨k1, k2⟩ := split35 h3 nd n3
        rw [k1, qe] at k2
        have := List.append_cancel_left k2
        injection this with k3 _
        exact hne k3
  · cases c with
    | nil =>
      simp only [List.nil_append, List.cons.injEq, List.append_nil] at q1 q2
      exact hash q1 q2.1 q2.2
    | cons z c =>
      simp only [List.cons_append, List.cons.injEq] at q2
      obtain ⟨rfl, qe⟩ := q2
      have h3 : tx v ++ 35 :: TL.numL (ck (tx v)) = (a' ++ s :: c) ++ 35 :: TL.numL (ck (tx u)) := by rw [h2, qe]; simp
      obtain ⟨k1, k2⟩ := split35 h3 nd ne
      have k3 := num_inj k2
      rw [k1, q1] at k3
      have p1 := pr_tx u hu x (by rw [q1]; simp)
      have p2 := pr_tx v hv s (by rw [k1]; simp)
      have hl : a'.length < 90000 := by
        rw [q1, List.length_append] at lu
        omega
      exact ck_one (Ne.symm hne) p2 p1 hl k3
/-- the last sign left out -/
theorem fact2 {u v : U} {c : Nat} (h : Sl u = Sl v ++ [c]) : False := by
  unfold Sl at h
  have ne := no35 (ck (tx u))
  have h3 : tx u ++ 35 :: TL.numL (ck (tx u)) = tx v ++ 35 :: (TL.numL (ck (tx v)) ++ [c]) := by rw [h]; simp
  by_cases hc : c = 35
  · rw [hc] at h3
    have h4 : tx u ++ 35 :: TL.numL (ck (tx u)) = (tx v ++ 35 :: TL.numL (ck (tx v))) ++ 35 :: [] := by rw [h3]; simp
    exact TL.numL_ne _ (split35 h4 ne List.not_mem_nil).2
  · have n3 : 35 ∉ TL.numL (ck (tx v)) ++ [c] := fun q => by
      rcases List.mem_append.mp q with q | q
      · exact no35 _ q
      · exact hc (List.mem_singleton.mp q).symm
    obtain ⟨k1, k2⟩ := split35 h3 ne n3
    rw [k1] at k2
    have := congrArg List.length k2
    rw [List.length_append] at this
    simp at this
/-- two unlike neighbours exchanged -/
theorem fact3 {u v : U} {a' r' : List Nat} {x y : Nat} (hu : pl u) (hv : pl v) (hne : x ≠ y) (h1 : Sl u = a' ++ x :: y :: r') (h2 : Sl v = a' ++ y :: x :: r') : False := by
  unfold Sl at h1 h2
  have ne := no35 (ck (tx u))
  have nd := no35 (ck (tx v))
  have hash : tx u = a' → x = 35 → y :: r' = TL.numL (ck (tx u)) → False := fun ea ex er => by
    have n3 : 35 ∉ r' := fun q => ne (by rw [← er]; simp [q])
    have h3 : tx v ++ 35 :: TL.numL (ck (tx v)) = (tx u ++ [y]) ++ 35 :: r' := by rw [h2, ex, ea]; simp
    obtain ⟨k1, k2⟩ := split35 h3 nd n3
    have hy : isD y = true := numL_isD (ck (tx u)) y (by rw [← er]; simp)
    have g1 := ck_more hu hv hy k1
    have g2 : ck (tx v) < ck (tx u) := num_more (y := y) (by rw [← er, k2])
    omega
  rcases List.append_eq_append_iff.mp h1 with ⟨c, q1, q2⟩ | ⟨c, q1, q2⟩
  · cases c with
    | nil =>
      simp only [List.nil_append, List.cons.injEq, List.append_nil] at q1 q2
      exact hash q1.symm q2.1.symm q2.2.symm
    | cons z c =>
      simp only [List.cons_append, List.cons.injEq] at q2
      obtain ⟨rfl, qe⟩ := q2
      have h3 : tx v ++ 35 :: TL.numL (ck (tx v)) = tx u ++ 35 :: (c ++ y :: x :: r') := by rw [h2, q1]; simp
      have n3 : 35 ∉ c ++ y :: x :: r' := fun q => ne (by
        rw [qe]
        simp only [List.mem_append, List.mem_cons] at q ⊢
        rcases q with q | q | q | q
        · exact .inl q
        · exact .inr (.inr (.inl q))
        · exact .inr (.inl q)
        · exact .inr (.inr (.inr q)))
      obtain ⟨k1, k2⟩ := split35 h3 nd n3
      rw [k1, qe] at k2
      have := List.append_cancel_left k2
      injection this with k3 _
      exact hne k3
  · cases c with
    | nil =>
      simp only [List.nil_append, List.cons.injEq, List.append_nil] at q1 q2
      exact hash q1 q2.1 q2.2
    | cons z c =>
      simp only [List.cons_append, List.cons.injEq] at q2
      obtain ⟨rfl, qe⟩ := q2
      cases c with
      | nil =>
        simp only [List.nil_append, List.cons.injEq] at qe
        obtain ⟨rfl, qr⟩ := qe
        have n3 : 35 ∉ x :: r' := fun q => by
          rcases List.mem_cons.mp q with q | q
          · exact hne q.symm
          · exact ne (by rw [← qr]; exact q)
        obtain ⟨k1, k2⟩ := split35 h2 nd n3
        have hx : isD x = true := numL_isD (ck (tx v)) x (by rw [k2]; simp)
        have g1 := ck_more hv hu hx (by rw [q1, k1])
        have g2 : ck (tx u) < ck (tx v) := num_more (y := x) (by rw [k2, qr])
        omega
      | cons z2 c =>
        simp only [List.cons_append, List.cons.injEq] at qe
        obtain ⟨rfl, qr⟩ := qe
        have h3 : tx v ++ 35 :: TL.numL (ck (tx v)) = (a' ++ y :: x :: c) ++ 35 :: TL.numL (ck (tx u)) := by rw [h2, qr]; simp
        obtain ⟨k1, k2⟩ := split35 h3 nd ne
        have k3 := num_inj k2
        rw [k1, q1] at k3
        have p1 := pr_tx u hu x (by rw [q1]; simp)
        have p2 := pr_tx u hu y (by rw [q1]; simp)
        exact ck_swap (Ne.symm hne) p2 p1 k3
/-! ### what unsealed tells -/
def lastS : List Nat → Option (List Nat × List Nat)
  | [] => none
  | c :: l => match lastS l with
    | some (b, d) => some (c :: b, d)
    | none => if c = 35 then some ([], l) else none
theorem lastS_some : ∀ {l b d : List Nat}, lastS l = some (b, d) → l = b ++ 35 :: d ∧ 35 ∉ d
  | [], _, _, h => by cases h
  | c :: l, b, d, h => by
    unfold lastS at h
    cases hl : lastS l with
    | none =>
      rw [hl] at h
      dsimp only at h
      split at h
      · rename_i hc
        cases h
        refine ⟨by rw [hc]; rfl, fun q => ?_⟩
        exact (lastS_none hl) q
      · cases h
    | some bd =>
      obtain ⟨b', d'⟩ := bd
      rw [hl] at h
      cases h
      obtain ⟨h1, h2⟩ := lastS_some hl
      exact ⟨by rw [h1]; rfl, h2⟩
where
  lastS_none : ∀ {l : List Nat}, lastS l = none → 35 ∉ l
    | [], _ => List.not_mem_nil
    | c :: l, h => by
      unfold lastS at h
      cases hl : lastS l with
      | none =>
        rw [hl] at h
        dsimp only at h
        split at h
        · cases h
        · rename_i hc
          intro q
          rcases List.mem_cons.mp q with q | q
          · exact hc q.symm
          · exact lastS_none hl q
      | some bd =>
        rw [hl] at h
        cases h
theorem lastS_no {l : List Nat} (h : 35 ∉ l) : lastS l = none := by
  cases hl : lastS l with
  | none => rfl
  | some bd =>
    obtain ⟨b, d⟩ := bd
    exact absurd (by rw [(lastS_some hl).1]; simp) h
theorem lastS_of {l b d : List Nat} (h : l = b ++ 35 :: d) (hd : 35 ∉ d) : lastS l = some (b, d) := by
  cases hl : lastS l with
  | none => exact absurd (by rw [h]; simp) (lastS_some.lastS_none hl)
  | some bd =>
    obtain ⟨b', d'⟩ := bd
    obtain ⟨h1, h2⟩ := lastS_some hl
    rw [h] at h1
    obtain ⟨k1, k2⟩ := split35 h1 hd h2
    rw [k1, k2]
def bodyT (b d : List Nat) : List U := match whole b (rdThing b (riP b) 30 0) with
  | .inl u => if d = TL.numL (ck b) then [u] else []
  | .inr _ => []
def unT (cs : List Nat) : List U := match lastS cs with
  | none => []
  | some (b, d) => bodyT b d
theorem bodyT_cases (b d : List Nat) : bodyT b d = [] ∨ ∃ u, bodyT b d = [u] ∧ b = tx u ∧ d = TL.numL (ck (tx u)) ∧ pl u ∧ dpt u ≤ 30 := by
  unfold bodyT
  cases hw : whole b (rdThing b (riP b) 30 0) with
  | inr e => exact .inl rfl
  | inl u =>
    obtain ⟨e1, e2, e3⟩ := whole_tx hw
    dsimp only
    split
    · rename_i hd
      exact .inr ⟨u, rfl, e1, by rw [← e1]; exact hd, e2, e3⟩
    · exact .inl rfl
theorem unT_cases (cs : List Nat) : unT cs = [] ∨ ∃ u, unT cs = [u] ∧ cs = Sl u ∧ pl u ∧ dpt u ≤ 30 := by
  unfold unT
  cases hl : lastS cs with
  | none => exact .inl rfl
  | some bd =>
    obtain ⟨b, d⟩ := bd
    dsimp only
    rcases bodyT_cases b d with h | ⟨u, h1, h2, h3, h4, h5⟩
    · exact .inl h
    · exact .inr ⟨u, h1, by rw [(lastS_some hl).1, h2, h3]; rfl, h4, h5⟩
theorem unT_back {u : U} (hu : pl u) (du : dpt u ≤ 30) : unT (Sl u) = [u] := by
  unfold unT Sl
  rw [lastS_of (b := tx u) (d := TL.numL (ck (tx u))) rfl (no35 _)]
  dsimp only
  unfold bodyT
  rw [whole_back hu du]
  dsimp only
  rw [if_pos rfl]
theorem unT_sm (cs : List Nat) : smL (unT cs) ∧ dptL (unT cs) ≤ 30 := by
  rcases unT_cases cs with h | ⟨u, h, _, h4, h5⟩
  · rw [h]; exact ⟨trivial, by simp [dptL]⟩
  · rw [h]
    exact ⟨⟨sm_pl u h4, trivial⟩, by simp only [dptL]; omega⟩
theorem un_one {u : U} {a' r' : List Nat} {x s : Nat} (hu : pl u) (du : dpt u ≤ 30) (lu : (tx u).length < 90000) (hne : x ≠ s) (h1 : Sl u = a' ++ x :: r') : unT (a' ++ s :: r') = [] := by
  rcases unT_cases (a' ++ s :: r') with h | ⟨v, h, h2, h4, h5⟩
  · exact h
  · exact (fact1 hu h4 du h5 lu hne h1 h2.symm).elim
theorem un_last {u : U} {l : List Nat} {c : Nat} (h1 : Sl u = l ++ [c]) : unT l = [] := by
  rcases unT_cases l with h | ⟨v, h, h2, h4, h5⟩
  · exact h
  · exact (fact2 (u := u) (v := v) (c := c) (by rw [h1, h2])).elim
theorem un_swap {u : U} {a' r' : List Nat} {x y : Nat} (hu : pl u) (hne : x ≠ y) (h1 : Sl u = a' ++ x :: y :: r') : unT (a' ++ y :: x :: r') = [] := by
  rcases unT_cases (a' ++ y :: x :: r') with h | ⟨v, h, h2, h4, h5⟩
  · exact h
  · exact (fact3 hu h4 hne h1 h2.symm).elim
end Ht
/-! k31: is_lined; rules -/
namespace Ht
open PySem PySem.Spec PyProof.Rows L2 Hu Evl
section
variable {X : Cx} {CX : CXT} {k : Nat} {f C : Addr} {fd : FuncData} {ps : List Str} {sp : Sp} {dvs : List V} {ds : List Value} {E : XK} {x m : Str} {p pos apos : Pos} {e o a b : Expr} {es rest : List Expr} {ta tb : TE} {t : TA}
theorem pet_one {op : BoolOp} {t : TE} (h : PET X a t) : PET X (.BoolOp op [a] pos) t := fun pins s σ H Q h0 I hw => BoolOp_one (h pins s σ H Q h0 I hw)
theorem pet_and (ha : PE X a ta) (hb : PET X (.BoolOp .And (b :: rest) pos) tb) : PET X (.BoolOp .And (a :: b :: rest) pos) (tAndV ta tb) := by
  intro pins s σ H Q h0 I h
  refine BoolOp_and (wpAny_mono (PySem.wpAny_toks (ha.run pins s σ H _ I h)) (fun v s1 q => ?_) fun _ _ z => z.2)
  obtain ⟨hk, x, H1, I1, r1, q1⟩ := q
  obtain ⟨c, rfl, q1⟩ := q1
  cases r1
  refine wpAny_truthy_bool ?_
  cases c with
  | true => exact hb pins s1 σ H1 Q (Nat.le_trans h0 hk) I1 q1
  | false => exact ⟨.bl false, H1, I1, rfl, q1⟩
theorem pet_call (F : FnOk X.prog X.w X.K X.mg X.base CX k f fd ps sp) (hr : Room k X.A) (hg : Gl X x) (hm : X.mg x = some (.ref f)) (hk : PySem.W.keepIn X.K (.ref f) = true) (hb : Binds X.K fd ps ds) (hd : Vals dvs ds) (hx : Passes CX X E)
    (ha : PAT X (e :: es) t) (hdb : (x == ("__debug__" : Str)) = false := by decide) (he : starEach (e :: es) X.env = (false, eval e X.env) :: starEach es X.env := by rfl) (hpl : (backTo pos (starEach es X.env)).any (·.1) = false := by rfl) :
    PET X (.Call (.Name x p) (e :: es) [] pos) (tCall sp dvs E t) := by
  intro pins s σ H Q h0 I h
  refine wpAny_Call_Name_kw (ld_glob I hg hm ?_ hdb)
  refine PySem.W.callWith_K (h₀ := X.base) I.ok.mod.kin hk (thn (ha pos pins s σ H _ h0 I h) fun us s1 ⟨vs, H1, I1, r, q⟩ => ⟨I1.kIn, ?_⟩) he hpl
  exact run_fn F hr hb hd hx I1 r q
/-- x.rpartition(sep) -/
theorem mt_rpart : MtR X "str.rpartition" (fun x xs H Q => ∃ a b, x = .str a ∧ xs = [.str b] ∧ (b.length == 0) = false ∧ a.length ≤ sizeLine ∧
    ∀ p, H p = none → Q (.ref p) (upd H p (.tup [.str (Txt.rpartition a b).1, .str (Txt.rpartition a b).2.1, .str (Txt.rpartition a b).2.2]))) := by
  intro pins s σ H x xs v us Q I rx rs h
  obtain ⟨a, b, rfl, rfl, hb, hz, h⟩ := h
  obtain ⟨t, rfl⟩ := rx
  cases rs with
  | cons r1 rs =>
    cases rs
    obtain ⟨u, rfl⟩ := r1
    refine call_meets F.slot_str_rpartition (typeIs_str _ _ _) F.entry_str_rpartition (F.args_str_rpartition_2 _ _) (meets_str_rpartition a b t u hb hz) ?_
    unfold Txt.rpartition at h
    revert h
    cases Builtin.Str.lastOccurrence a b 0 a.length with
    | none => intro h; exact laid_parts I h
    | some i => intro h; exact laid_parts I h
end
theorem sg35 : ("#" : Str) = sg 35 := by decide +kernel
theorem at_sign {z : Str} {c i : Nat} : StrLaws.At z (sg c) z.length i ↔ (TL.tl z)[i]? = some c := StrLaws.subAt_one z c i
theorem mid_of {l : List Nat} {i c : Nat} (h : l[i]? = some c) : l = l.take i ++ c :: l.drop (i + 1) := by
  conv => lhs; rw [← List.take_append_drop i l, drop_some h]
theorem rpart_spec (z : Str) : (35 ∉ TL.tl z ∧ TL.tl (Txt.rpartition z "#").1 = []) ∨ (TL.tl z = TL.tl (Txt.rpartition z "#").1 ++ 35 :: TL.tl (Txt.rpartition z "#").2.2 ∧ 35 ∉ TL.tl (Txt.rpartition z "#").2.2) := by
  rw [sg35]
  unfold Txt.rpartition
  rcases StrLaws.last_spec z (sg 35) with ⟨h0, hn⟩ | ⟨i, h0, hi, hn⟩
  · rw [h0]
    refine .inl ⟨fun q => ?_, rfl⟩
    obtain ⟨i, hi⟩ := List.mem_iff_getElem?.mp q
    exact hn i (at_sign.mpr hi)
  · rw [h0]
    have hi' := at_sign.mp hi
    refine .inr ?_
    dsimp only
    have e1 : TL.tl (Builtin.Str.strSub z 0 i) = (TL.tl z).take i := by rw [TL.tl_strSub, List.drop_zero, Nat.sub_zero]
    have e2 : TL.tl (Builtin.Str.strSub z (i + (sg 35).length) z.length) = (TL.tl z).drop (i + 1) := TL.tl_strSub_end z (i + 1)
    rw [e1, e2]
    refine ⟨mid_of hi', fun q => ?_⟩
    obtain ⟨j, hj⟩ := List.mem_iff_getElem?.mp q
    rw [List.getElem?_drop] at hj
    exact hn (i + 1 + j) (by omega) (at_sign.mpr hj)
theorem repl_nl (z : Str) : TL.tl (Txt.replace z "\n" "") = (TL.tl z).filter (fun c => !(c == 10)) := by
  have l1 : 1 ≤ (("\n" : Str)).length := by decide +kernel
  show (Txt.replace z "\n" "").cps.toList = _
  rw [PySem.StrLaws.replace_list l1, show ("\n" : Str).cps.toList = [10] by decide +kernel, show ("" : Str).cps.toList = [] by decide +kernel, repl1]
  show (TL.tl z).flatMap _ = _
  induction TL.tl z with
  | nil => rfl
  | cons c l ih =>
    rw [List.flatMap_cons, ih, List.filter_cons]
    by_cases h : c = 10
    · rw [if_pos h, h]; rfl
    · rw [if_neg h, if_pos (by simp [h])]; rfl
abbrev sIsLined : Stmt := topS 14
def linU (u : U) : Bool := match u with | .str z => (TL.tl z).all fun c => c == 10 || okW c | _ => false
section
variable {P : Program} {w : World} {K : PySem.W.Frag} {mg : Str → Option Value} {base : Heap}
theorem scLined : FnScope ["thing"] ["thing"] (defScope sIsLined) := ⟨rfl, rfl, rfl, by decide +kernel, rfl, by decide +kernel, by decide +kernel⟩
theorem ok_lined {f f2 : Addr} {fd d2 : FuncData} (DP : Df K mg "is_lined" sIsLined ["thing"] f fd) (B : Bt mg) (D2 : Df K mg "is_signs" sIsSigns ["thing"] f2 d2) : FnOk P w K mg base CX0 2 f fd ["thing"] (spO linU) := by
  have G2 : FnOk P w K mg base CX0 1 f2 d2 ["thing"] (spO sgU) := ok_isSignsO D2.F B
  obtain ⟨oc, od, kV, doc, pm, an, cdv, ct, osl, rfl, lk, hcd⟩ := DP.F.ex
  refine fn_ofT lk hcd scLined (by decide +kernel) (by decide) (fun vs H Q E h => ?_) (fun A outer s H vs Q E hr h => ?_)
  · obtain ⟨v, u, rfl, _⟩ := h
    rfl
  obtain ⟨v, u, rfl, hat, bu, k⟩ := h
  refine ⟨_, CwR.psst_one (CwR.pst_ret (pet_and (pe_callB call_isi (by rfl) B.isi boot_isi' (pa_cons (pv 0) (pa_cons (pe_bltn (by rfl) B.str boot_str' (show RelV (.ty "str") (.type "str") from rfl)) pa_nil)))
    (pet_one (pet_call G2 hr (by rfl) D2.g D2.F.kp D2.b .nil pass0 (pat_cons (CwR.pet_replC (pv 0)) pat_nil))))), ?_⟩
  refine s_ret (ev_andV (b := linU u) (ev_isiO (ev_var rfl) hat (by decide)) fun q => ?_) fun H1 e => ?_
  · cases u with
    | str z =>
      cases hat
      simp only [brd] at bu
      have l1 : ((("" : Str))).length = 0 := by decide +kernel
      refine ev_call (sp := spO sgU) (ea_cons (ev_repl (ev_var rfl) (by rw [l1]; omega)) ea_nil) fun H1 e1 Q q' E => ⟨_, .str (Txt.replace z "\n" ""), rfl, .str _, ?_, ?_⟩
      · simp only [brd]
        rw [TL.len_tl, repl_nl]
        have := List.length_filter_le (fun c => !(c == 10)) (TL.tl z)
        rw [← TL.len_tl] at this
        omega
      · have e2 : sgU (.str (Txt.replace z "\n" "")) = linU (.str z) := by
          simp only [sgU, linU]
          rw [repl_nl, List.all_filter]
          congr 1
          funext c
          simp
        rw [e2]
        exact q'
    | _ => simp [isT, isS, tyU] at q
  · have e2 : (isT u "str" && linU u) = linU u := by cases u <;> simp [isT, isS, tyU, linU]
    rw [e2]
    exact k H1 e
end
end Ht
/-! k31: check_behind, check -/
namespace Ht
open PySem PySem.Spec PyProof.Rows L2 Hu Evl
abbrev sCheck : Stmt := topS 29
abbrev sCheckB : Stmt := topS 30
def wlL : List Nat → Nat → List Int
  | [], _ => []
  | c :: l, p => if c = 10 then wlL l (p + 1) else ((c : Int) - 31) * (p : Int) :: wlL l (p + 1)
theorem wlL_snoc : ∀ (l : List Nat) (c p : Nat), wlL (l ++ [c]) p = wlL l p ++ (if c = 10 then [] else [((c : Int) - 31) * ((p + l.length : Nat) : Int)])
  | [], c, p => by
    show (if c = 10 then wlL [] (p + 1) else _ :: wlL [] (p + 1)) = _
    simp only [wlL, List.nil_append, List.length_nil, Nat.add_zero]
  | d :: l, c, p => by
    have ih := wlL_snoc l c (p + 1)
    simp only [List.cons_append, wlL, ih, List.length_cons]
    rw [show p + 1 + l.length = p + (l.length + 1) by omega]
    split
    · rfl
    · rfl
theorem wlL_len : ∀ (l : List Nat) (p : Nat), (wlL l p).length ≤ l.length
  | [], _ => Nat.le_refl _
  | c :: l, p => by
    have := wlL_len l (p + 1)
    simp only [wlL, List.length_cons]
    split
    · omega
    · simp only [List.length_cons]; omega
/-- signs that a lined text may have -/
def ln' (l : List Nat) : Bool := l.all fun c => c == 10 || okW c
theorem ln'_c {c : Nat} (h : (c == 10 || okW c) = true) : c = 10 ∨ (32 ≤ c ∧ c ≤ 126) := by
  rcases Bool.or_eq_true_iff.mp h with h | h
  · exact .inl (beq_iff_eq.mp h)
  · unfold okW at h
    have h2 := Bool.and_eq_true_iff.mp h
    exact .inr ⟨of_decide_eq_true h2.1, of_decide_eq_true h2.2⟩
theorem wlL_sum : ∀ (l : List Nat) (p : Nat), ln' l = true → (wlL l p).sum = (ckS l p : Int)
  | [], _, _ => rfl
  | c :: l, p, h => by
    unfold ln' at h
    rw [List.all_cons] at h
    obtain ⟨h1, h2⟩ := Bool.and_eq_true_iff.mp h
    have ih := wlL_sum l (p + 1) h2
    simp only [wlL, ckS]
    rcases ln'_c h1 with rfl | hc
    · rw [if_pos rfl, ih]
      unfold wt
      simp
    · rw [if_neg (by omega), List.sum_cons, ih]
      unfold wt
      rw [if_neg (by omega), Int.natCast_add, Int.natCast_mul]
      congr 2
      omega
structure Bt2 (mg : Str → Option Value) : Prop where
  ord : mg "ord" = none
  sum : mg "sum" = none
  enu : mg "enumerate" = none
theorem boot_ord' : bootBuiltins "ord" = some (.builtin "ord") := by decide +kernel
theorem boot_sum' : bootBuiltins "sum" = some (.builtin "sum") := by decide +kernel
theorem s10 : ("\n" : Str) = sg 10 := by decide +kernel
section
variable {σ : L2.St} {H : Hp} {te : TE}
theorem ev_ord {c : Nat} (h : Ev te σ H (.str ⟨#[c]⟩)) : Ev (tCB (fun xs H Q => ∃ x, xs = [V.str x] ∧ x.length = 1 ∧ Q (.int (x.cps.getD 0 0 : Nat)) H) (tCons te tNil)) σ H (.int (c : Int)) := ev_cb (ea_cons h ea_nil) fun H1 _ Q q => ⟨_, rfl, rfl, q H1 (Ex.refl H1)⟩
theorem rv_mul {i j : Int} (h1 : -(2 ^ 64) < i) (h2 : i < 2 ^ 64) : RV (rI CMul fun i j => .int (i * j)) (.int i) (.int j) H (.int (i * j)) := fun H1 _ Q q => ⟨i, j, rfl, rfl, .inl ⟨h1, h2⟩, q H1 (Ex.refl H1)⟩
theorem rv_modN {i j : Int} (h : j ≠ 0) : RV (rI (fun _ j => j ≠ 0) fun i j => .int (i.fmod j)) (.int i) (.int j) H (.int (i.fmod j)) := fun H1 _ Q q => ⟨i, j, rfl, rfl, h, q H1 (Ex.refl H1)⟩
end
section
variable {P : Program} {w : World} {K : PySem.W.Frag} {mg : Str → Option Value} {base : Heap}
/-- the check of a text of so many signs, and of those behind -/
def ckO (n m : Nat) (l : List Nat) : Nat := (n + ckS l (m + 1)) % 99991
theorem ckO_0 (l : List Nat) : ckO 0 0 l = ck l := by
  unfold ckO ck
  rw [Nat.zero_add]
def spCB : Sp := fun vs H Q _ => ∃ (n m : Nat) (z : Str), vs = [.int (n : Int), .int (m : Int), .str z] ∧ m ≤ 200000 ∧ z.length ≤ 90000 ∧ ln' (TL.tl z) = true ∧ ∀ H', Same H H' → Q (.int (ckO n m (TL.tl z) : Int)) H'
theorem scCB : FnScope ["number", "many", "text", "place", "sign", "worths"] ["number", "many", "text"] (defScope sCheckB) := ⟨rfl, rfl, rfl, by decide +kernel, rfl, by decide +kernel, by decide +kernel⟩
theorem walk_enumS {x : Str} {k : Int} : Walk (En.Itn x k) x.cps.size (fun _ => True) (fun i H v H' => ∃ T c, v = .ref T ∧ H T = none ∧ H' = upd H T (.tup [.int (k + (i : Int)), .str ⟨#[c]⟩]) ∧ x.cps[i]? = some c) :=
  ⟨fun _ _ hi _ => hi, fun _ _ => rfl, fun _ _ _ _ _ _ y => y⟩
theorem ie_read {σ : L2.St} {H H0 : Hp} {ta tk : TA} {z : Str} {k : Int} {R : It → Hp → Prop} (h1 : EvA ta σ H [.str z]) (h2 : EvA tk σ H [.int k]) (e : Ex H H0) (k0 : 0 ≤ k) (k1 : k ≤ 1000000) (kk : ∀ H2, Ex H0 H2 → R (En.Itn z k) H2) : En.iEnumS ta tk σ H0 R :=
  h1 H0 e _ fun H1 e1 => h2 H1 (e.trans e1) _ fun H2 e2 => ⟨z, k, rfl, rfl, k0, k1, kk H2 (e1.trans e2)⟩
theorem el_wts {σ : L2.St} {H : Hp} {z : Str} {m : Nat} {a : V} {b : Option V} (hm : m ≤ 200000) (hz : z.length ≤ 90000) (hl : ln' (TL.tl z) = true) (hσ : σ = [some a, some (.int (m : Int)), some (.str z), none, none, b]) :
    EvL (tLc (En.iEnumS (tCons (tVar 2) tNil) (tCons (tOp (rI0 fun i j => .int (i + j)) (tVar 1) (tC (.int 1))) tNil)) (gTup K 2 (gCons (gName 3) (gCons (gName 4) gNil))) (tTest (tOp rNe (tVar 4) (tC (.str "\n"))))
      (tOp (rI CMul fun i j => .int (i * j)) (tOp (rI0 fun i j => .int (i - j)) (tCB (fun xs H Q => ∃ x, xs = [V.str x] ∧ x.length = 1 ∧ Q (.int (x.cps.getD 0 0 : Nat)) H) (tCons (tVar 4) tNil)) (tC (.int 31))) (tVar 3)) [3, 4]) σ H ((wlL (TL.tl z) (m + 1)).map V.int) := fun H0 e Q q => by
  subst hσ
  have hlz := TL.len_tl z
  refine ie_read (z := z) (k := (m : Int) + 1) (ea_cons (ev_var rfl) ea_nil) (ea_cons (ev_op (ev_var rfl) ev_c rv_I0) ea_nil) e (by omega) (by omega) fun H2 e2 Dl hD => ?_
  refine lc_it walk_enumS (fun i H' => Ex H2 H' ∧ H' Dl = some (.lst ((wlL ((TL.tl z).take i) (m + 1)).map V.int))) ⟨Ex.new hD, upd_same⟩ (fun _ _ _ _ => True.intro) (fun i x Hc Hn hi p y => ?_) (fun H' p => q Dl H' (fresh_back e2 (by exact hD)) (e2.trans p.1) (by
    rw [p.2, show z.cps.size = (TL.tl z).length from (TL.len_tl z).symm, List.take_length]))
  obtain ⟨p1, p2⟩ := p
  obtain ⟨T, c, rfl, hT, rfl, hc⟩ := y
  have hc' : (TL.tl z)[i]? = some c := by
    show z.cps.toList[i]? = some c
    rw [Array.getElem?_toList]
    exact hc
  have hlt : i < (TL.tl z).length := (List.getElem?_eq_some_iff.mp hc').1
  have hcc := ln'_c (List.all_eq_true.mp hl c (List.mem_of_getElem? hc'))
  have snoc : wlL ((TL.tl z).take (i + 1)) (m + 1) = wlL ((TL.tl z).take i) (m + 1) ++ (if c = 10 then [] else [((c : Int) - 31) * ((m + 1 + i : Nat) : Int)]) := by
    rw [List.take_add_one, hc']
    show wlL (_ ++ [c]) (m + 1) = _
    rw [wlL_snoc, List.length_take, Nat.min_eq_left (Nat.le_of_lt hlt)]
  have E1 : Ex Hc (upd Hc T (.tup [.int ((m : Int) + 1 + (i : Int)), .str ⟨#[c]⟩])) := Ex.new hT
  refine ⟨T, _, rfl, st_of upd_same, rfl, .int ((m : Int) + 1 + (i : Int)), _, rfl, .str ⟨#[c]⟩, [], rfl, rfl, ?_⟩
  refine ⟨rfl, ?_⟩
  have et : EvT (tTest (tOp rNe (tVar 4) (tC (.str "\n")))) [some a, some (.int (m : Int)), some (.str z), some (.int ((m : Int) + 1 + (i : Int))), some (.str ⟨#[c]⟩), b] (upd Hc T (.tup [.int ((m : Int) + 1 + (i : Int)), .str ⟨#[c]⟩])) (!decide (c = 10)) :=
    et_is (et_test (ev_op (ev_var rfl) ev_c (rv_ne rfl))) (by rw [← dS c s10])
  refine et _ (Ex.refl _) _ fun H3 e3 => ?_
  have h3 := e3 _ _ (E1 _ _ p2)
  have X3 := p1.trans (E1.trans e3)
  by_cases h10 : c = 10
  · rw [decide_eq_true h10]
    show Ex H2 H3 ∧ H3 Dl = _
    refine ⟨X3, ?_⟩
    rw [snoc, if_pos h10, List.append_nil]
    exact h3
  · rw [decide_eq_false h10]
    have hc2 : 32 ≤ c ∧ c ≤ 126 := by omega
    have ev : Ev (tOp (rI CMul fun i j => .int (i * j)) (tOp (rI0 fun i j => .int (i - j)) (tCB (fun xs H Q => ∃ x, xs = [V.str x] ∧ x.length = 1 ∧ Q (.int (x.cps.getD 0 0 : Nat)) H) (tCons (tVar 4) tNil)) (tC (.int 31))) (tVar 3)) [some a, some (.int (m : Int)), some (.str z), some (.int ((m : Int) + 1 + (i : Int))), some (.str ⟨#[c]⟩), b] H3
        (.int (((c : Int) - 31) * ((m : Int) + 1 + (i : Int)))) := ev_op (ev_op (ev_ord (ev_var rfl)) ev_c rv_I0) (ev_var rfl) (rv_mul (by omega) (by omega))
    rw [if_pos (show (!false) = true from rfl)]
    refine ev H3 (Ex.refl _) _ fun H4 e4 => ⟨_, e4 _ _ h3, ?_, fun b2 o hb => ?_, ?_⟩
    · rw [List.length_map]
      have h1 := wlL_len ((TL.tl z).take i) (m + 1)
      rw [List.length_take] at h1
      have := big_line
      omega
    · have hb4 := (X3.trans e4) _ _ hb
      rw [upd_ne (ne_of_none hb hD)]
      exact hb4
    · rw [upd_same, snoc, if_neg h10, List.map_append]
      congr 3
theorem ok_checkB {f : Addr} {fd : FuncData} {t : Tok} (F : Fun K "check_behind" "check_behind" sCheckB f fd) (B : Bt mg) (O : Bt2 mg) (hP : mg "CHECK_PRIME" = some (.int 99991 t)) : FnOk P w K mg base CX0 1 f fd ["number", "many", "text"] spCB := by
  refine F.ok scCB (fun vs H Q E h => ?_) (fun cdv A outer s H vs Q E hr h => ?_)
  · obtain ⟨n, m, z, rfl, _⟩ := h
    rfl
  obtain ⟨n, m, z, rfl, hm, hz, hl, k⟩ := h
  refine ⟨_, pss_cons (ps_setLc (i := 5) (own := [("place", 3), ("sign", 4)]) (g := gTup K 2 (gCons (gName 3) (gCons (gName 4) gNil))) (tt := tTest (tOp rNe (tVar 4) (tC (.str "\n")))) rfl scCB.nd rfl rfl rfl (En.pi_enumS (by rfl) O.enu (pa_cons (pv 2) pa_nil) (pe_op op_add (pv 1) pe_int)) (blkOk_by (N := ["number", "many", "text", "place", "sign", "worths"]) (sc := defScope sCheckB) (by decide +kernel))
      (fun _ _ _ _ _ => pg_tup rfl (pgs_cons (pg_name (i := 3) scCB.nd rfl (Or.inl rfl)) (pgs_cons (pg_name (i := 4) scCB.nd rfl (Or.inl rfl)) pgs_nil)))
      (fun _ _ _ _ _ => pts_one (pt_cmpR op_ne (pv 4) pe_str (nomark _)))
      (fun _ _ _ _ _ => pe_op op_mul (pe_op op_sub (pe_callB call_ord (by rfl) O.ord boot_ord' (pa_cons (pv 4) pa_nil)) pe_int) (pv 3)))
    (pss_one (ps_ret (pe_op op_modN (pe_op op_add (pv 0) (pe_callB (cr_sum rfl) (by rfl) O.sum boot_sum' (pa_cons (pv 5) pa_nil))) (pe_glob (v := .int 99991) rfl hP ⟨_, rfl⟩)))), ?_⟩
  refine q_asgL (el_wts hm hz hl rfl) fun p H1 hp e1 h1 => ?_
  have es : Ev (tCB (rSum K) (tCons (tVar 5) tNil)) [some (.int (n : Int)), some (.int (m : Int)), some (.str z), none, none, some (.ref p)] H1 (.int (wlL (TL.tl z) (m + 1)).sum) := ev_cb (ea_cons (ev_var rfl) ea_nil) fun H2 e2 Q q => ⟨p, _, rfl, SqL.of (e2 _ _ h1), q H2 (Ex.refl H2)⟩
  refine s_ret (ev_is (ev_op (ev_op (ev_var rfl) es rv_I0) ev_c (rv_modN (by decide))) ?_) fun H2 e2 => k H2 (e1.trans e2)
  rw [wlL_sum _ _ hl, Int.fmod_eq_emod_of_nonneg _ (by decide)]
  congr 1
theorem scCheck : FnScope ["text"] ["text"] (defScope sCheck) := ⟨rfl, rfl, rfl, by decide +kernel, rfl, by decide +kernel, by decide +kernel⟩
def spCk : Sp := fun vs H Q _ => ∃ z : Str, vs = [.str z] ∧ z.length ≤ 90000 ∧ ln' (TL.tl z) = true ∧ ∀ H', Same H H' → Q (.int (ck (TL.tl z) : Int)) H'
theorem ok_checkG {f f1 f2 f3 : Addr} {fd d1 d2 d3 : FuncData} {t : Tok} (F : Fun K "check" "check" sCheck f fd) (B : Bt mg) (O : Bt2 mg) (hP : mg "CHECK_PRIME" = some (.int 99991 t)) (D1 : Df K mg "is_lined" sIsLined ["thing"] f1 d1) (D2 : Df K mg "is_signs" sIsSigns ["thing"] f2 d2) (D3 : Df K mg "check_behind" sCheckB ["number", "many", "text"] f3 d3) :
    FnOk P w K mg base CX0 3 f fd ["text"] spCk := by
  have G1 : FnOk P w K mg base CX0 2 f1 d1 ["thing"] (spO linU) := ok_lined D1 B D2
  have G3 : FnOk P w K mg base CX0 1 f3 d3 ["number", "many", "text"] spCB := ok_checkB D3.F B O hP
  refine F.ok scCheck (fun vs H Q E h => ?_) (fun cdv A outer s H vs Q E hr h => ?_)
  · obtain ⟨z, rfl, _⟩ := h
    rfl
  obtain ⟨z, rfl, hz, hl, k⟩ := h
  refine ⟨_, pss_cons (ps_if (pt_not (pt_val (pe_call G1 hr (by rfl) D1.g D1.F.kp D1.b .nil pass0 (pa_cons (pv 0) pa_nil)))) (pss_one ps_never) pss_nil)
    (pss_one (ps_ret (pe_call G3 (hr.mono (by decide)) (by rfl) D3.g D3.F.kp D3.b .nil pass0 (pa_cons pe_int (pa_cons pe_int (pa_cons (pv 0) pa_nil)))))), ?_⟩
  refine q_when (b := !(linU (.str z))) (et_not (et_B (ev_call (sp := spO linU) (ea_cons (ev_var rfl) ea_nil) fun H1 e1 Q q E => ⟨.str z, .str z, rfl, .str z, by simp only [brd]; exact hz, q⟩))) (fun q H1 e1 => ?_) fun q H1 e1 => ?_
  · have hl' : linU (.str z) = true := hl
    rw [hl'] at q
    cases q
  exact s_ret (ev_call (sp := spCB) (ea_cons ev_c (ea_cons ev_c (ea_cons (ev_var rfl) ea_nil))) fun H2 e2 Q q E => ⟨0, 0, z, rfl, by decide, hz, hl, by rw [ckO_0]; exact q⟩) fun H2 e2 => k H2 (e1.trans e2)
def spCkX (CN : Addr) : Sp := fun vs H Q E => ∃ (v : V) (u : U), vs = [v] ∧ Od H v u ∧ brd u ∧ linU u = false ∧ ∀ H', Same H H' → E (.ref CN) none H'
theorem ok_checkX {f f1 f2 CN : Addr} {fd d1 d2 : FuncData} (F : Fun K "check" "check" sCheck f fd) (B : Bt mg) (D1 : Df K mg "is_lined" sIsLined ["thing"] f1 d1) (D2 : Df K mg "is_signs" sIsSigns ["thing"] f2 d2) (EC : Ec K mg "NoText" CN) :
    FnOk P w K mg base (L2.CX P w) 3 f fd ["text"] (spCkX CN) := by
  have G1 : FnOk P w K mg base CX0 2 f1 d1 ["thing"] (spO linU) := ok_lined D1 B D2
  refine F.okX scCheck (fun vs H Q E h => ?_) (fun cdv A outer s H vs Q E hr h => ?_)
  · obtain ⟨v, u, rfl, _⟩ := h
    rfl
  obtain ⟨v, u, rfl, hat, bu, hn, k⟩ := h
  refine ⟨_, pss_cons (ps_if (pt_not (pt_val (pe_call G1 hr (by rfl) D1.g D1.F.kp D1.b .nil pass0 (pa_cons (pv 0) pa_nil))))
      (pss_one (ps_raise rfl (takes_of rfl rfl rfl rfl) (pmk_own0 PySem.F.excBase_ValueError EC.x EC.g EC.k (raises_own EC.b EC.t) rfl))) pss_nil)
    (pss_one ps_never), ?_⟩
  refine q_when (b := !(linU u)) (et_not (et_B (ev_call (sp := spO linU) (ea_cons (ev_var rfl) ea_nil) fun H1 e1 Q q E => ⟨v, u, rfl, hat.ex e1, bu, q⟩))) (fun q H1 e1 => ?_) fun q H1 e1 => by rw [hn] at q; cases q
  exact k H1 e1
end
end Ht
/-! k31: sealed, unsealed -/
namespace Ht
open PySem PySem.Spec PyProof.Rows L2 Hu Evl
abbrev sUnsealed : Stmt := topS 32
def stx (u : U) : Str := mkS (Sl u)
theorem okW_of {c : Nat} (h : 32 ≤ c ∧ c ≤ 126) : okW c = true := by
  unfold okW
  rw [decide_eq_true h.1, decide_eq_true h.2]
  rfl
theorem ln_pr {l : List Nat} (h : pr l) : ln' l = true := List.all_eq_true.mpr fun c hc => by rw [okW_of (h c hc), Bool.or_true]
theorem num_tl (n : Nat) : TL.tl (toString (n : Int) : Str) = TL.numL n := TL.tl_num n
theorem stx_eq (u : U) : txt u ++ ("#" : Str) ++ (toString ((ck (tx u) : Nat) : Int) : Str) = stx u := by
  apply TL.ext_tl
  rw [TL.tl_append, TL.tl_append, num_tl, show TL.tl ("#" : Str) = [35] by decide +kernel]
  show tx u ++ [35] ++ _ = tx u ++ 35 :: _
  simp
theorem ck_lt (l : List Nat) : ck l < 99991 := Nat.mod_lt _ (by decide)
theorem num_len (l : List Nat) : (TL.numL (ck l)).length ≤ 5 := TL.numL_len (by decide) (Nat.lt_trans (ck_lt l) (by decide))
theorem txt_tl (u : U) : TL.tl (txt u) = tx u := rfl
theorem txt_len (u : U) : (txt u).length = (tx u).length := by rw [TL.len_tl]; rfl
theorem str_len (n : Nat) : ((toString (n : Int) : Str)).length = (TL.numL n).length := by rw [TL.len_tl, num_tl]
theorem Sl_len (u : U) : (Sl u).length ≤ (tx u).length + 6 := by
  have := num_len (tx u)
  unfold Sl
  rw [List.length_append, List.length_cons]
  omega
theorem stx_len (u : U) : (stx u).length = (Sl u).length := by rw [TL.len_tl]; rfl
section
variable {σ : L2.St} {H : Hp} {te : TE}
theorem ev_strN {n : Nat} (h : Ev te σ H (.int (n : Int))) (hn : n < 100000) : Ev (tCB (fun xs H Q => ∃ i : Int, xs = [V.int i] ∧ i.natAbs.log2 < 1920 ∧ Q (.str (toString i)) H) (tCons te tNil)) σ H (.str (toString (n : Int))) := ev_cb (ea_cons h ea_nil) fun H1 e Q q =>
  ⟨n, rfl, Nat.lt_of_lt_of_le (PySem.Flt.log2_lt_of (k := 100) (by decide) (Nat.lt_of_lt_of_le (show (n : Int).natAbs < 100000 from hn) (by decide))) (by decide), q H1 (Ex.refl H1)⟩
end
/-- where the program's check stands -/
structure Kd (K : PySem.W.Frag) (mg : Str → Option Value) : Prop where
  B : Bt mg
  O : Bt2 mg
  P : ∃ t, mg "CHECK_PRIME" = some (.int 99991 t)
  L : ∃ f d, Df K mg "is_lined" sIsLined ["thing"] f d
  S : ∃ f d, Df K mg "is_signs" sIsSigns ["thing"] f d
  H : ∃ f d, Df K mg "check_behind" sCheckB ["number", "many", "text"] f d
section
variable {P : Program} {w : World} {K : PySem.W.Frag} {mg : Str → Option Value} {base : Heap} {C : Addr}
theorem ok_checkK {f : Addr} {fd : FuncData} (F : Fun K "check" "check" sCheck f fd) (R : Kd K mg) : FnOk P w K mg base CX0 3 f fd ["text"] spCk := by
  obtain ⟨B, O, ⟨t, hP⟩, ⟨f1, d1, D1⟩, ⟨f2, d2, D2⟩, ⟨f3, d3, D3⟩⟩ := R
  exact ok_checkG F B O hP D1 D2 D3
/-! ### unsealed -/
def unV (u : U) : List U := match u with | .str z => unT (TL.tl z) | _ => []
theorem un_bad {z : Str} {e : Int} (h : unU (.str (Txt.rpartition z "#").1) = .inr e) : unT (TL.tl z) = [] := by
  rcases rpart_spec z with ⟨h1, _⟩ | ⟨h1, h2⟩
  · unfold unT
    rw [lastS_no h1]
  · unfold unT
    rw [lastS_of h1 h2]
    dsimp only
    unfold bodyT
    have h' : (match whole (TL.tl (Txt.rpartition z "#").1) (rdThing (TL.tl (Txt.rpartition z "#").1) (riP (TL.tl (Txt.rpartition z "#").1)) 30 0) with | .inl u => (.inl u : U ⊕ Int) | .inr e => .inr (e : Int)) = .inr e := h
    cases hw : whole (TL.tl (Txt.rpartition z "#").1) (rdThing (TL.tl (Txt.rpartition z "#").1) (riP (TL.tl (Txt.rpartition z "#").1)) 30 0) with
    | inl u => rw [hw] at h'; cases h'
    | inr e => rfl
theorem un_good {z : Str} {u : U} (h : unU (.str (Txt.rpartition z "#").1) = .inl u) : TL.tl (Txt.rpartition z "#").1 = tx u ∧ pl u ∧ unT (TL.tl z) = if TL.tl (Txt.rpartition z "#").2.2 = TL.numL (ck (tx u)) then [u] else [] := by
  have h' : (match whole (TL.tl (Txt.rpartition z "#").1) (rdThing (TL.tl (Txt.rpartition z "#").1) (riP (TL.tl (Txt.rpartition z "#").1)) 30 0) with | .inl u => (.inl u : U ⊕ Int) | .inr e => .inr (e : Int)) = .inl u := h
  cases hw : whole (TL.tl (Txt.rpartition z "#").1) (rdThing (TL.tl (Txt.rpartition z "#").1) (riP (TL.tl (Txt.rpartition z "#").1)) 30 0) with
  | inr e => rw [hw] at h'; cases h'
  | inl u' =>
    rw [hw] at h'
    cases h'
    obtain ⟨e1, e2, e3⟩ := whole_tx hw
    refine ⟨e1, e2, ?_⟩
    rcases rpart_spec z with ⟨h1, h2⟩ | ⟨h1, h2⟩
    · obtain ⟨c, r, ec, _⟩ := tx_head u e2
      rw [h2, ec] at e1
      cases e1
    · unfold unT
      rw [lastS_of h1 h2]
      dsimp only
      unfold bodyT
      rw [hw, e1]
theorem brdS {z : Str} (h : z.length ≤ 90000) : brd (.str z) := by simp only [brd]; exact h
theorem rpart_len (z : Str) : (Txt.rpartition z "#").1.length ≤ z.length := (PyProof.Rows.fact_rpartition z "#").1
def spUS : Sp := fun vs H Q _ => ∃ (v : V) (u : U), vs = [v] ∧ Od H v u ∧ brd u ∧ ∀ (t : Addr) (H' : Hp), Same H H' → Od H' (.ref t) (.tup (unV u)) → Q (.ref t) H'
theorem scUS : FnScope ["text", "body", "_", "digits", "thing"] ["text"] (defScope sUnsealed) := ⟨rfl, rfl, rfl, by decide +kernel, rfl, by decide +kernel, by decide +kernel⟩
theorem ok_unsealed {f fU fC CB : Addr} {fd dU dC : FuncData} (F : Fun K "unsealed" "unsealed" sUnsealed f fd) (R : Rd K mg CB) (R2 : Kd K mg) (DU : Df K mg "unpacked" sUnpacked ["text"] fU dU) (DC : Df K mg "check" sCheck ["text"] fC dC) : FnOk P w K mg base CX0 66 f fd ["text"] spUS := by
  have GU : FnOk P w K mg base (L2.CX P w) 65 fU dU ["text"] (spUn CB) := ok_unpacked DU.F R
  have GC : FnOk P w K mg base CX0 3 fC dC ["text"] spCk := ok_checkK DC.F R2
  obtain ⟨B, N, ⟨fI, dI', EB⟩, _⟩ := R
  refine F.ok scUS (fun vs H Q E h => ?_) (fun cdv A outer s H vs Q E hr h => ?_)
  · obtain ⟨v, u, rfl, _⟩ := h
    rfl
  obtain ⟨v, u, rfl, hat, bu, hk⟩ := h
  refine ⟨_, pss_cons (ps_if (pt_not (pt_val (pe_callB call_isi (by rfl) B.isi boot_isi' (pa_cons (pv 0) (pa_cons (pe_bltn (by rfl) B.str boot_str' (show RelV (.ty "str") (.type "str") from rfl)) pa_nil))))) (pss_one (ps_ret (pe_tup pa_nil))) pss_nil)
    (pss_cons (ps_asg (pe_m1 PySem.F.slot_str_rpartition PySem.F.type_str_rpartition mt_rpart (pv 0) pe_str) (pg_tup rfl (pgs_cons (pg_name (i := 1) scUS.nd rfl (.inl rfl)) (pgs_cons (pg_name (i := 2) scUS.nd rfl (.inl rfl)) (pgs_cons (pg_name (i := 3) scUS.nd rfl (.inl rfl)) pgs_nil)))))
    (pss_cons (ps_try_only (tb := fun W => tAsg (tCallS (spUn CB) (WE W) (tCons (tVar 1) tNil)) (gName 4)) (Wout := fun _ _ _ _ => False) rfl rfl ⟨rfl, by decide, .inl EB.g⟩ takes0
      (fun W pn xe tk _ => pss_one (ps_set (i := 4) scUS.nd rfl (.inl rfl) (pe_callS GU hr rfl DU.g DU.F.kp DU.b (fun σ => passAt tk σ) (pa_cons (pv 1) pa_nil))))
      (fun a oe cls d pn hz hf => pss_one (ps_ret (pe_tup pa_nil))))
    (pss_cons (ps_if (pt_cmpR op_ne (pv 3) (pe_callTy call_str_int (by rfl) B.str boot_str' (pa_cons (pe_call GC (hr.mono (by decide)) (by rfl) DC.g DC.F.kp DC.b .nil pass0 (pa_cons (pv 1) pa_nil)) pa_nil)) (nomark _)) (pss_one (ps_ret (pe_tup pa_nil))) pss_nil)
    (pss_one (ps_ret (pe_tup (pa_cons (pv 4) pa_nil))))))), ?_⟩
  refine q_when (b := !(isT u "str")) (et_not (et_B (ev_isiO (ev_var rfl) hat (by decide)))) (fun q H1 e1 => ?_) (fun q H1 e1 => ?_)
  · have e : unV u = [] := by
      cases u with
      | str z => simp [isT, isS, tyU] at q
      | _ => rfl
    rw [e] at hk
    exact s_retU (eu_tup ea_nil (by show (0 : Nat) ≤ 100000; decide)) fun t H7 ht e7 h7 => hk t H7 (e1.trans e7) (.tup h7 .nil)
  obtain ⟨z, rfl⟩ : ∃ z, u = .str z := by
    cases u with
    | str z => exact ⟨z, rfl⟩
    | _ => simp [isT, isS, tyU] at q
  cases hat
  have hz : z.length ≤ 90000 := by simpa only [brd] using bu
  have hb := rpart_len z
  have hk : ∀ (t : Addr) (H' : Hp), Same H H' → Od H' (.ref t) (.tup (unT (TL.tl z))) → Q (.ref t) H' := hk
  refine ⟨_, rfl, ⟨z, rfl⟩, z, "#", rfl, rfl, by decide +kernel, sz_of (by omega), fun p hp => ?_⟩
  have e2 : Ex H1 (upd H1 p (.tup [.str (Txt.rpartition z "#").1, .str (Txt.rpartition z "#").2.1, .str (Txt.rpartition z "#").2.2])) := Ex.new hp
  refine ⟨p, _, rfl, st_of upd_same, rfl, .str (Txt.rpartition z "#").1, _, rfl, .str (Txt.rpartition z "#").2.1, _, rfl, .str (Txt.rpartition z "#").2.2, [], rfl, rfl, ?_⟩
  refine ⟨.str (Txt.rpartition z "#").1, rfl, .str (Txt.rpartition z "#").1, .str (Txt.rpartition z "#").1, rfl, .str _, brdS (by omega), ?_⟩
  have E2 := e1.trans e2
  cases hu : unU (.str (Txt.rpartition z "#").1) with
  | inr e =>
    intro d H3 s3 h3
    rw [un_bad hu] at hk
    refine ⟨true, EB.e, fun _ a ha => ?_, fun q => Bool.noConfusion q⟩
    exact s_retU (eu_tup ea_nil (by show (0 : Nat) ≤ 100000; decide)) fun t H7 ht e7 h7 => hk t H7 ((E2.trans s3).trans e7) (.tup h7 .nil)
  | inl u' =>
    intro v' H3 s3 o3
    obtain ⟨g1, g2, g3⟩ := un_good hu
    rw [g3] at hk
    have E3 := E2.trans s3
    show tSeq _ _ _ [some (.str z), some (.str (Txt.rpartition z "#").1), some (.str (Txt.rpartition z "#").2.1), some (.str (Txt.rpartition z "#").2.2), some v'] H3
    refine q_when (b := !decide (TL.tl (Txt.rpartition z "#").2.2 = TL.numL (ck (tx u')))) (et_is (et_test (ev_op (ev_var rfl) (ev_strN (n := ck (tx u')) (ev_call (sp := spCk) (ea_cons (ev_var rfl) ea_nil) fun H4 e4 Q q E => ⟨_, rfl, by omega, by rw [g1]; exact ln_pr (pr_tx u' g2), by rw [g1]; exact q⟩) (Nat.lt_trans (ck_lt _) (by decide))) (rv_ne rfl))) (by
      congr 1
      refine decide_eq_decide.mpr ⟨fun h => ?_, fun h => ?_⟩
      · injection h with h
        rw [h, num_tl]
      · rw [TL.ext_tl (h.trans (num_tl _).symm)])) (fun q4 H4 e4 => ?_) (fun q4 H4 e4 => ?_)
    · rw [if_neg (of_decide_eq_false (by simpa using q4))] at hk
      exact s_retU (eu_tup ea_nil (by show (0 : Nat) ≤ 100000; decide)) fun t H7 ht e7 h7 => hk t H7 ((E3.trans e4).trans e7) (.tup h7 .nil)
    · rw [if_pos (of_decide_eq_true (by simpa using q4))] at hk
      exact s_retU (eu_tup (ea_cons (ev_var rfl) ea_nil) (by show (1 : Nat) ≤ 100000; decide)) fun t H7 ht e7 h7 => hk t H7 ((E3.trans e4).trans e7) (.tup h7 (.cons (o3.ex (e4.trans e7)) .nil))
end
end Ht
/-! k31: _law_check, _law_sealed -/
namespace Ht
open PySem PySem.Spec PyProof.Rows L2 Hu Evl
theorem ck_snoc (l : List Nat) (c : Nat) : ck (l ++ [c]) = (ck l + (l.length + 1) * wt c) % 99991 := by
  unfold ck
  rw [ckS_app]
  simp only [ckS, Nat.add_zero]
  rw [Nat.mod_add_mod, Nat.mul_comm (wt c), Nat.add_comm 1 l.length]
theorem boot_int2 : bootBuiltins "int" = some (.type "int") := by decide +kernel
section
variable {σ : L2.St} {H : Hp} {te : TE}
theorem ev_int1 {i : Int} (h : Ev te σ H (.int i)) : Ev (tCB (fun xs H Q => (∃ i, xs = [V.int i] ∧ Q (.int i) H) ∨ ∃ k, xs = [V.bl k] ∧ Q (.int (if k then 1 else 0)) H) (tCons te tNil)) σ H (.int i) := ev_cb (ea_cons h ea_nil) fun H1 _ Q q => .inl ⟨i, rfl, q H1 (Ex.refl H1)⟩
end
section
variable {P : Program} {w : World} {K : PySem.W.Frag} {mg : Str → Option Value} {base : Heap} {C : Addr}
end
mutual
theorem at_od {w C : Addr} {H : Hp} (hw : ∀ xs, H w ≠ some (.tup xs)) : ∀ {u : U} {v : V}, Od H v u → pl u → At w C H v u
  | _, _, .non, _ => .non
  | _, _, .bl b, _ => .bl b
  | _, _, .int i, _ => .int i
  | _, _, .str z, _ => .str z
  | _, _, .tup h l, s => .tup h (fun e => by rw [e] at h; exact hw _ h) (atl_od hw l (by simpa only [pl] using s))
  | _, _, .lst h, s => by simp only [pl] at s
  | _, _, .dct h, s => by simp only [pl] at s
theorem atl_od {w C : Addr} {H : Hp} (hw : ∀ xs, H w ≠ some (.tup xs)) : ∀ {us : List U} {vs : List V}, OdL H vs us → plL us → AtL w C H vs us
  | _, _, .nil, _ => .nil
  | _, _, .cons x l, s => .cons (at_od hw x s.1) (atl_od hw l s.2)
end
mutual
/-- a thing's bound by its text's length -/
theorem ln_tx : ∀ u : U, pl u → ln u ≤ 17 * (tx u).length + 16
  | .non, _ => by simp [ln]
  | .int i, _ => by
    have : 1 ≤ (tx (.int i)).length := by
      obtain ⟨n, en, hc⟩ := tx_int i
      have h0 : (TL.numL n).length ≠ 0 := fun e => TL.numL_ne n (List.length_eq_zero_iff.mp e)
      rcases hc with ⟨_, e⟩ | ⟨_, _, e⟩
      · rw [e]; omega
      · rw [e, List.length_cons]; omega
    simp only [ln]
    omega
  | .str z, _ => by
    have h := escP_ge (TL.tl z)
    have hz := TL.len_tl z
    simp only [ln, tx, List.length_cons, List.length_append, List.length_nil]
    omega
  | .tup us, h => by
    have q := lnL_tx us (by simpa only [pl] using h)
    simp only [ln, tx, List.length_cons, List.length_append, List.length_nil]
    omega
  | .bl _, h => by simp only [pl] at h
  | .lst _, h => by simp only [pl] at h
  | .dct _, h => by simp only [pl] at h
  | .exc, h => by simp only [pl] at h
theorem lnL_tx : ∀ us : List U, plL us → lnL us ≤ 17 * (TL.joinL [44] (txs us)).length + 17
  | [], _ => by simp [lnL]
  | [u], h => by
    have := ln_tx u h.1
    have e : TL.joinL [44] (txs [u]) = tx u := rfl
    simp only [lnL]
    rw [e]
    omega
  | u :: u1 :: us, h => by
    have h1 := ln_tx u h.1
    have h2 := lnL_tx (u1 :: us) h.2
    have e : TL.joinL [44] (txs (u :: u1 :: us)) = tx u ++ (44 :: TL.joinL [44] (txs (u1 :: us))) := rfl
    have e2 : lnL (u :: u1 :: us) = ln u + 1 + lnL (u1 :: us) := rfl
    rw [e, e2, List.length_append, List.length_cons]
    omega
end
end Ht
/-! k31: _law_due -/
namespace Ht
open PySem PySem.Spec PyProof.Rows L2 Hu Evl
theorem rev_tl (z : Str) : TL.tl (revZ z) = (TL.tl z).reverse := by
  have hl := TL.len_tl z
  show ((Builtin.Str.strSliceIndices none none (-1) z.length).filterMap (z.cps[·]?)).toArray.toList = _
  rw [picked_rev, List.toList_toArray]
  refine List.ext_getElem? fun k => ?_
  have e : ((List.range z.length).map fun k => z.length - 1 - k).filterMap (z.cps[·]?) = (List.range z.length).map fun k => z.cps.getD (z.length - 1 - k) 0 := by
    rw [filterMap_get, List.map_map]
    · rfl
    · intro i hi
      obtain ⟨k, hk, rfl⟩ := List.mem_map.mp hi
      have hk' : k < z.length := List.mem_range.mp hk
      show z.length - 1 - k < z.length
      omega
  rw [e, List.getElem?_map]
  by_cases hk : k < z.length
  · rw [List.getElem?_range hk, List.getElem?_reverse (by omega), ← hl]
    show some (z.cps.getD (z.length - 1 - k) 0) = (TL.tl z)[z.length - 1 - k]?
    have h2 : z.length - 1 - k < (TL.tl z).length := by omega
    rw [List.getElem?_eq_getElem h2]
    congr 1
    show z.cps.getD (z.length - 1 - k) 0 = z.cps.toList[z.length - 1 - k]
    have h3 : z.length - 1 - k < z.cps.size := by
      show z.length - 1 - k < z.length
      omega
    rw [Array.getElem_toList]
    simp [Array.getD, h3]
  · rw [List.getElem?_eq_none (by rw [List.length_range]; omega), List.getElem?_eq_none (by rw [List.length_reverse]; omega)]
    rfl
/-- the first # of the text turned round -/
theorem rev_index {z : Str} (h : 35 ∈ TL.tl z) : ∃ i r, Builtin.Str.occurrences (revZ z) "#" 0 (revZ z).length 1 = i :: r ∧ i < z.length ∧ TL.tl z = (TL.tl z).take (z.length - 1 - i) ++ 35 :: (TL.tl z).drop (z.length - 1 - i + 1) ∧ 35 ∉ (TL.tl z).drop (z.length - 1 - i + 1) := by
  have hl := TL.len_tl z
  rw [sg35]
  rcases StrLaws.occ_head (revZ z) (sg 35) 1 (Nat.le_refl _) with ⟨_, hn⟩ | ⟨i, r, h0, hi, hn⟩
  · exfalso
    have h2 : 35 ∈ TL.tl (revZ z) := by rw [rev_tl]; exact List.mem_reverse.mpr h
    obtain ⟨j, hj⟩ := List.mem_iff_getElem?.mp h2
    exact hn j (at_sign.mpr hj)
  · have hi' := at_sign.mp hi
    rw [rev_tl] at hi'
    have hlt := (List.getElem?_eq_some_iff.mp hi').1
    rw [List.length_reverse] at hlt
    rw [List.getElem?_reverse hlt, ← hl] at hi'
    refine ⟨i, r, h0, by omega, mid_of hi', fun q => ?_⟩
    obtain ⟨j, hj⟩ := List.mem_iff_getElem?.mp q
    rw [List.getElem?_drop] at hj
    have hj1 := (List.getElem?_eq_some_iff.mp hj).1
    refine hn (z.length - 1 - (z.length - 1 - i + 1 + j)) (by omega) (at_sign.mpr ?_)
    rw [rev_tl, List.getElem?_reverse (by omega), ← hl, show z.length - 1 - (z.length - 1 - (z.length - 1 - i + 1 + j)) = z.length - 1 - i + 1 + j by omega]
    exact hj
theorem cut_tlN {z : Str} {b : Nat} (hb : b ≤ z.length) : TL.tl (cutS z none (some (b : Int))) = (TL.tl z).take b := by
  show ((z.cps.toList.drop (HT.sIx z.length 0 none)).take (HT.sIx z.length z.length (some (b : Int)) - HT.sIx z.length 0 none)) = _
  rw [HT.sIx_nat, Nat.min_eq_left hb]
  rfl
theorem body_bad {b : Str} {e : Int} {d : List Nat} (h : unU (.str b) = .inr e) : bodyT (TL.tl b) d = [] := by
  have h' : (match whole (TL.tl b) (rdThing (TL.tl b) (riP (TL.tl b)) 30 0) with | .inl u => (.inl u : U ⊕ Int) | .inr e => .inr (e : Int)) = .inr e := h
  unfold bodyT
  cases hw : whole (TL.tl b) (rdThing (TL.tl b) (riP (TL.tl b)) 30 0) with
  | inl u => rw [hw] at h'; cases h'
  | inr e => rfl
theorem body_good {b : Str} {u : U} {d : List Nat} (h : unU (.str b) = .inl u) : TL.tl b = tx u ∧ pl u ∧ dpt u ≤ 30 ∧ bodyT (TL.tl b) d = if d = TL.numL (ck (tx u)) then [u] else [] := by
  have h' : (match whole (TL.tl b) (rdThing (TL.tl b) (riP (TL.tl b)) 30 0) with | .inl u => (.inl u : U ⊕ Int) | .inr e => .inr (e : Int)) = .inl u := h
  unfold bodyT
  cases hw : whole (TL.tl b) (rdThing (TL.tl b) (riP (TL.tl b)) 30 0) with
  | inr e => rw [hw] at h'; cases h'
  | inl u' =>
    rw [hw] at h'
    cases h'
    obtain ⟨e1, e2, e3⟩ := whole_tx hw
    exact ⟨e1, e2, e3, by rw [e1]⟩
theorem unT_split {l b d : List Nat} (h : l = b ++ 35 :: d) (hd : 35 ∉ d) : unT l = bodyT b d := by
  unfold unT
  rw [lastS_of h hd]
end Ht
/-! things compared; the law's steps -/
namespace Ht
open PySem PySem.Spec PyProof.Rows L2 Hu Evl
mutual
def pyd : U → PyData
  | .bl b => .bool b
  | .int i => .int i
  | .str z => .str z
  | .tup us => .tuple (pyds us)
  | _ => .none
def pyds : List U → List PyData
  | [] => []
  | u :: us => pyd u :: pyds us
end
mutual
theorem od_dp {K : PySem.W.Frag} {H : Hp} : ∀ {u : U} {v : V}, Od H v u → sm u → Dp K H v (pyd u)
  | _, _, .non, _ => .non
  | _, _, .bl b, _ => .bl b
  | _, _, .int i, _ => .int i
  | _, _, .str z, _ => .str z
  | _, _, .tup h l, s => .tup (st_of h) (odl_dp l (by simpa only [sm] using s))
  | _, _, .lst h, s => by simp only [sm] at s
  | _, _, .dct h, s => by simp only [sm] at s
theorem odl_dp {K : PySem.W.Frag} {H : Hp} : ∀ {us : List U} {vs : List V}, OdL H vs us → smL us → DpAll K H vs (pyds us)
  | _, _, .nil, _ => .nil
  | _, _, .cons x l, s => .cons (od_dp x s.1) (odl_dp l s.2)
end
mutual
theorem pyd_can : ∀ u : U, sm u → (pyd u).canLay0 = true ∧ (pyd u).depth = dpt u
  | .non, _ => by simp [pyd, PyData.canLay0, PyData.depth, dpt]
  | .bl _, h => by simp only [sm] at h
  | .int _, _ => by simp [pyd, PyData.canLay0, PyData.depth, dpt]
  | .str z, h => by
    have hz : (TL.tl z).all okW = true := by simpa only [sm] using h
    simp only [pyd, PyData.canLay0, PyData.depth, dpt, and_true]
    unfold PyData.strOk
    rw [← Array.all_toList, List.all_eq_true]
    intro c hc
    have := List.all_eq_true.mp hz c hc
    unfold okW at this
    have h2 := of_decide_eq_true (Bool.and_eq_true_iff.mp this).2
    exact decide_eq_true (by omega)
  | .tup us, h => by
    obtain ⟨a, b⟩ := pyds_can us (by simpa only [sm] using h)
    simp only [pyd, PyData.canLay0, PyData.depth, dpt, a, b, and_self]
  | .lst _, h => by simp only [sm] at h
  | .dct _, h => by simp only [sm] at h
  | .exc, h => by simp only [sm] at h
theorem pyds_can : ∀ us : List U, smL us → PyData.canLayAll0 (pyds us) = true ∧ PyData.depthAll (pyds us) = dptL us
  | [], _ => by simp [pyds, PyData.canLayAll0, PyData.depthAll, dptL]
  | u :: us, h => by
    obtain ⟨a, b⟩ := pyd_can u h.1
    obtain ⟨c, d⟩ := pyds_can us h.2
    simp only [pyds, PyData.canLayAll0, PyData.depthAll, dptL, a, b, c, d, Bool.and_self, and_self]
end
theorem pyd_shaped {u : U} (h : sm u) (hd : dpt u ≤ 40) : SeqAt.shaped (pyd u) = true := by
  obtain ⟨a, b⟩ := pyd_can u h
  unfold SeqAt.shaped
  rw [a, b, decide_eq_true (by omega)]
  rfl
mutual
theorem pyd_refl : ∀ u : U, PyData.eqv (pyd u) (pyd u) = true
  | .non => by simp [pyd, PyData.eqv]
  | .bl _ => by simp [pyd, PyData.eqv]
  | .int _ => by simp [pyd, PyData.eqv]
  | .str z => by simp [pyd, PyData.eqv]
  | .tup us => by simp only [pyd, PyData.eqv]; exact pyds_refl us
  | .lst _ => by simp [pyd, PyData.eqv]
  | .dct _ => by simp [pyd, PyData.eqv]
  | .exc => by simp [pyd, PyData.eqv]
theorem pyds_refl : ∀ us : List U, PyData.eqvAll (pyds us) (pyds us) = true
  | [] => by simp [pyds, PyData.eqvAll]
  | u :: us => by simp only [pyds, PyData.eqvAll, pyd_refl u, pyds_refl us, Bool.and_self]
end
theorem unU_sm {z : Str} {u : U} (h : unU (.str z) = .inl u) : sm u ∧ dpt u ≤ 30 := by
  have h' : (match whole (TL.tl z) (rdThing (TL.tl z) (riP (TL.tl z)) 30 0) with | .inl u => (.inl u : U ⊕ Int) | .inr e => .inr (e : Int)) = .inl u := h
  cases hr : rdThing (TL.tl z) (riP (TL.tl z)) 30 0 with
  | bad e =>
    rw [hr] at h'
    cases h'
  | ok u' q =>
    rw [hr] at h'
    unfold whole at h'
    dsimp only at h'
    by_cases hq : q = (TL.tl z).length
    · rw [if_pos hq] at h'
      cases h'
      exact ⟨(rdThing_ok (fun p u q h => riP_ok h) 30 0 u q hr).2.2, rdThing_dpt (fun p u q h => riP_dpt h) 30 0 u q hr⟩
    · rw [if_neg hq] at h'
      cases h'
theorem toU_sm (u0 : U) : sm (toU (unU u0)) ∧ dpt (toU (unU u0)) ≤ 40 := by
  cases h : unU u0 with
  | inr e =>
    simp only [toU, sm, smL, dpt, dptL]
    exact ⟨⟨by decide +kernel, trivial, trivial⟩, by omega⟩
  | inl u =>
    have hu : sm u ∧ dpt u ≤ 30 := by
      cases u0 with
      | str z => exact unU_sm h
      | _ => cases h
    simp only [toU, sm, smL, dpt, dptL]
    exact ⟨⟨by decide +kernel, hu.1, trivial⟩, by omega⟩
/-- evaluates to such a thing -/
def EvD (te : TE) (σ : L2.St) (H : Hp) (u : U) : Prop := ∀ H1, Ex H H1 → ∀ Q : VK, (∀ v H2, Ex H1 H2 → Od H2 v u → Q v H2) → te σ H1 Q
section
variable {σ : L2.St} {H : Hp} {te t1 t2 : TE} {ta : TA} {K : PySem.W.Frag} {sp : Sp} {E : XK} {vs : List V} {u u1 u2 : U}
theorem ed_call (h : EvA ta σ H vs) (k : ∀ H1, Ex H H1 → ∀ Q : VK, (∀ v H2, Ex H1 H2 → Od H2 v u → Q v H2) → sp (vs ++ []) H1 Q E) : EvD (tCall sp [] E ta) σ H u := fun H1 e Q q =>
  h H1 e _ fun H2 e2 => k H2 (e.trans e2) Q fun v H3 e3 o => q v H3 (e2.trans e3) o
theorem ed_pair {a : Str} {v : V} (h1 : Ev t1 σ H (.str a)) (h2 : Ev t2 σ H v) (o : Od H v u) : EvD (tTup (tCons t1 (tCons t2 tNil))) σ H (.tup [.str a, u]) := fun H1 e Q q =>
  eu_tup (ea_cons h1 (ea_cons h2 ea_nil)) (by show (2 : Nat) ≤ 100000; decide) H1 e _ fun p H2 _ e2 hp => q _ H2 e2 (.tup hp (.cons (.str a) (.cons (o.ex (e.trans e2)) .nil)))
theorem et_neD (h1 : EvD t1 σ H u1) (h2 : EvD t2 σ H u2) (s1 : sm u1) (s2 : sm u2) (d1 : dpt u1 ≤ 40) (d2 : dpt u2 ≤ 40) : EvT (tTest (tOp (rNeD K) t1 t2)) σ H (!PyData.eqv (pyd u1) (pyd u2)) :=
  et_test fun H1 e Q q => h1 H1 e _ fun v1 H2 e2 o1 => h2 H2 (e.trans e2) _ fun v2 H3 e3 o2 => ⟨pyd u1, pyd u2, od_dp (o1.ex e3) s1, od_dp o2 s2, pyd_shaped s1 d1, pyd_shaped s2 d2, q H3 (e2.trans e3)⟩
theorem ev_eqD (h1 : EvD t1 σ H u1) (h2 : EvD t2 σ H u2) (s1 : sm u1) (s2 : sm u2) (d1 : dpt u1 ≤ 40) (d2 : dpt u2 ≤ 40) : Ev (tOp (rEqD K) t1 t2) σ H (.bl (PyData.eqv (pyd u1) (pyd u2))) :=
  fun H1 e Q q => h1 H1 e _ fun v1 H2 e2 o1 => h2 H2 (e.trans e2) _ fun v2 H3 e3 o2 => ⟨pyd u1, pyd u2, od_dp (o1.ex e3) s1, od_dp o2 s2, pyd_shaped s1 d1, pyd_shaped s2 d2, q H3 (e2.trans e3)⟩
theorem et_same (h : EvT (tTest (tOp (rNeD K) t1 t2)) σ H (!PyData.eqv (pyd u) (pyd u))) : EvT (tTest (tOp (rNeD K) t1 t2)) σ H false := et_is h (by rw [pyd_refl]; rfl)
end
end Ht
/-! k32: lines that count: no model in it but texts -/
namespace Ht
open PySem PySem.Spec PyProof.Rows L2 Hu Evl
theorem idx_le {a : Nat} : ∀ {l : List Nat} {k : Nat}, l[k]? = some a → l.idxOf a ≤ k
  | c :: l, k, h => by
    by_cases e : c = a
    · subst e
      simp
    · cases k with
      | zero => exact absurd (Option.some.inj h) e
      | succ k =>
        have := idx_le (l := l) (k := k) h
        have e2 : (c == a) = false := by simpa using e
        rw [List.idxOf_cons, e2]
        show l.idxOf a + 1 ≤ k + 1
        omega
/-- the place of the first line feed from p on -/
def eol (l : List Nat) (p : Nat) : Option Nat := if 10 ∈ l.drop p then some (p + (l.drop p).idxOf 10) else none
theorem eol_some {l : List Nat} {p e : Nat} (h : eol l p = some e) : p ≤ e ∧ e < l.length ∧ l[e]? = some 10 ∧ ∀ k, p ≤ k → k < e → l[k]? ≠ some 10 := by
  unfold eol at h
  by_cases hm : 10 ∈ l.drop p
  · rw [if_pos hm] at h
    have h := Option.some.inj h
    have hlt : (l.drop p).idxOf 10 < (l.drop p).length := List.idxOf_lt_length_of_mem hm
    have hge : (l.drop p)[(l.drop p).idxOf 10]? = some 10 := by
      rw [List.getElem?_eq_getElem hlt]
      congr 1
      exact List.getElem_idxOf hlt
    rw [List.length_drop] at hlt
    rw [List.getElem?_drop] at hge
    subst h
    refine ⟨by omega, by omega, hge, fun k hk1 hk2 hk => ?_⟩
    have hk' : (l.drop p)[k - p]? = some 10 := by
      rw [List.getElem?_drop, show p + (k - p) = k by omega]
      exact hk
    have := idx_le hk'
    omega
  · rw [if_neg hm] at h
    cases h
theorem eol_none {l : List Nat} {p : Nat} (h : eol l p = none) : ∀ k, p ≤ k → l[k]? ≠ some 10 := fun k hk q => by
  unfold eol at h
  by_cases hm : 10 ∈ l.drop p
  · rw [if_pos hm] at h
    cases h
  · refine hm (List.mem_of_getElem? (i := k - p) ?_)
    rw [List.getElem?_drop, show p + (k - p) = k by omega]
    exact q
theorem eol_is {l : List Nat} {p e : Nat} (h1 : p ≤ e) (h2 : l[e]? = some 10) (h3 : ∀ k, p ≤ k → k < e → l[k]? ≠ some 10) : eol l p = some e := by
  cases h : eol l p with
  | none => exact absurd h2 (eol_none h e h1)
  | some e' =>
    obtain ⟨q1, q2, q3, q4⟩ := eol_some h
    congr 1
    rcases Nat.lt_trichotomy e' e with q | q | q
    · exact absurd q3 (h3 e' q1 q)
    · exact q
    · exact absurd h2 (q4 e h1 q)
theorem eol_not {l : List Nat} {p : Nat} (h : ∀ k, p ≤ k → l[k]? ≠ some 10) : eol l p = none := by
  cases q : eol l p with
  | none => rfl
  | some e =>
    obtain ⟨q1, q2, q3, q4⟩ := eol_some q
    exact absurd q3 (h e q1)
theorem from_nat {n p : Nat} : PySem.fromIndex n (p : Int) = p := by
  unfold PySem.fromIndex
  rw [if_neg (by omega)]
  omega
theorem occ_eol {z : Str} {p : Nat} : (∃ e r, eol (TL.tl z) p = some e ∧ Builtin.Str.occurrences z "\n" p z.length 1 = e :: r) ∨ (eol (TL.tl z) p = none ∧ Builtin.Str.occurrences z "\n" p z.length 1 = []) := by
  rw [s10]
  rcases StrLaws.occ_head_from z (sg 10) p 1 (Nat.le_refl _) with ⟨h0, hn⟩ | ⟨i, r, h0, hlo, hi, hn⟩
  · exact .inr ⟨eol_not fun k hk q => hn k hk (at_sign.mpr q), h0⟩
  · exact .inl ⟨i, r, eol_is hlo (at_sign.mp hi) fun k h1 h2 q => hn k h1 h2 (at_sign.mpr q), h0⟩
def eolI (l : List Nat) (p : Nat) : Int := match eol l p with | some e => (e : Int) | none => -1
theorem find_eol (z : Str) (p : Nat) : Txt.find3 z "\n" (p : Int) = eolI (TL.tl z) p := by
  unfold Txt.find3 eolI
  rw [from_nat]
  rcases occ_eol (z := z) (p := p) with ⟨e, r, h1, h2⟩ | ⟨h1, h2⟩
  · rw [h1, h2]
  · rw [h1, h2]
/-- what a line tells: its check and its entry -/
def lnU (l : List Nat) : Option (Int × U) := match unT l with
  | [.tup [.int i, b]] => some (i, b)
  | _ => none
/-- the next line that counts: its entry, the place behind it, the check behind it -/
def nxt (l : List Nat) (p n : Nat) : Option (U × Nat × Nat) := match eol l p with
  | none => none
  | some e => match lnU ((l.drop p).take (e - p)) with
    | none => none
    | some (i, b) => if i = (n : Int) then some (b, e + 1, ckO n p ((l.drop p).take (e - p))) else none
/-- the lines that count, and the place behind them -/
def cnt (l : List Nat) : Nat → Nat → Nat → List U × Nat
  | 0, p, _ => ([], p)
  | f + 1, p, n => match nxt l p n with
    | none => ([], p)
    | some (b, p', n') => (b :: (cnt l f p' n').1, (cnt l f p' n').2)
theorem nxt_lt {l : List Nat} {p n p' n' : Nat} {b : U} (h : nxt l p n = some (b, p', n')) : p < p' ∧ p' ≤ l.length ∧ n' < 99991 := by
  unfold nxt at h
  cases he : eol l p with
  | none => rw [he] at h; cases h
  | some e =>
    rw [he] at h
    dsimp only at h
    obtain ⟨q1, q2, _⟩ := eol_some he
    cases hl : lnU ((l.drop p).take (e - p)) with
    | none => rw [hl] at h; cases h
    | some ib =>
      rw [hl] at h
      obtain ⟨i, b'⟩ := ib
      dsimp only at h
      by_cases hi : i = (n : Int)
      · rw [if_pos hi] at h
        cases h
        exact ⟨by omega, by omega, Nat.mod_lt _ (by decide)⟩
      · rw [if_neg hi] at h
        cases h
/-- more turns than needed change nothing -/
theorem cnt_more {l : List Nat} : ∀ (f p n : Nat), l.length < f + p → cnt l f p n = cnt l (f + 1) p n
  | 0, p, n, h => by
    show ([], p) = _
    have hn : nxt l p n = none := by
      cases q : nxt l p n with
      | none => rfl
      | some r =>
        obtain ⟨b, p', n'⟩ := r
        have := nxt_lt q
        omega
    simp only [cnt, hn]
  | f + 1, p, n, h => by
    rw [cnt, cnt.eq_def l (f + 1 + 1)]
    dsimp only
    cases q : nxt l p n with
    | none => rfl
    | some r =>
      obtain ⟨b, p', n'⟩ := r
      have := nxt_lt q
      dsimp only
      rw [cnt_more f p' n' (by omega)]
theorem cnt_step {l : List Nat} {f p n p' n' : Nat} {b : U} (hf : l.length < f + p) (h : nxt l p n = some (b, p', n')) : cnt l f p n = (b :: (cnt l f p' n').1, (cnt l f p' n').2) := by
  cases f with
  | zero =>
    have := nxt_lt h
    omega
  | succ f =>
    have := nxt_lt h
    rw [cnt]
    rw [h]
    dsimp only
    rw [cnt_more f p' n' (by omega)]
theorem cnt_end {l : List Nat} {f p n : Nat} (h : nxt l p n = none) : cnt l f p n = ([], p) := by
  cases f with
  | zero => rfl
  | succ f => rw [cnt, h]
/-- of a whole text -/
def cntT (l : List Nat) : List U × Nat := cnt l (l.length + 1) 0 0
/-- entries are things, not too deep -/
theorem unT_pl {l : List Nat} {u : U} (h : unT l = [u]) : pl u ∧ dpt u ≤ 30 := by
  unfold unT at h
  revert h
  cases lastS l with
  | none => intro h; cases h
  | some r =>
    obtain ⟨b, d⟩ := r
    dsimp only
    intro h
    rcases bodyT_cases b d with h0 | ⟨u', h1, _, _, h2, h3⟩
    · rw [h0] at h
      cases h
    · rw [h1] at h
      cases h
      exact ⟨h2, h3⟩
end Ht
/-! k32: the class Disk -/
namespace Ht
open PySem PySem.Spec PyProof.Rows L2 Hu Evl
abbrev sDk (j : Nat) : Stmt := inClass (topS 36) j
abbrev sCount : Stmt := topS 11
abbrev sIsArea : Stmt := topS 37
abbrev sIsMost : Stmt := topS 38
/-! ### what an area tells of its generation -/
def cntU (u : U) : Bool := match u with | .int i => decide (0 ≤ i) | _ => false
def wholeU (u : U) : Bool := match u with | .tup [.str z] => z == ("whole" : Str) | _ => false
def isA (a : U) : Bool := match a with | .str z => z == ("area" : Str) | _ => false
def toN (c : U) : Nat := match c with | .int k => k.toNat | _ => 0
def areaOf (u : U) : Option Nat := match u with | .tup [a, c] => if isA a && cntU c then some (toN c) else none | _ => none
/-- the generation by the entries -/
def genU (us : List U) : Option Nat := match us with
  | [] => none
  | b :: us => match areaOf b with
    | none => none
    | some k => if us.any wholeU then some k else none
def oV : Option Nat → V
  | none => .non
  | some k => .int (k : Int)
theorem area_whole {b : U} {k : Nat} (h : areaOf b = some k) : wholeU b = false := by
  cases b with
  | tup us =>
    match us, h with
    | [], h => cases h
    | [a], h => cases h
    | [a, b], h => cases a <;> rfl
    | a :: b :: c :: us, h => cases h
  | _ => rfl
theorem genU_none {b : U} {us : List U} (h : areaOf b = none) : genU (b :: us) = none := by
  unfold genU
  dsimp only
  rw [h]
theorem genU_some {b : U} {us : List U} {k : Nat} (h : areaOf b = some k) : genU (b :: us) = if us.any wholeU then some k else none := by
  unfold genU
  dsimp only
  rw [h]
/-- the generation that a text tells -/
def genT (a : Str) : Option Nat := genU (cntT (TL.tl a)).1
theorem nxt_app {l r : List Nat} {p n : Nat} {x : U × Nat × Nat} (h : nxt l p n = some x) : nxt (l ++ r) p n = some x := by
  cases he : eol l p with
  | none =>
    unfold nxt at h
    rw [he] at h
    cases h
  | some e =>
    obtain ⟨q1, q2, q3, q4⟩ := eol_some he
    have he2 : eol (l ++ r) p = some e := eol_is q1 (by rw [List.getElem?_append_left q2]; exact q3) fun k h1 h2 => by
      rw [List.getElem?_append_left (by omega)]
      exact q4 k h1 h2
    have seg : ((l ++ r).drop p).take (e - p) = (l.drop p).take (e - p) := by
      rw [List.drop_append_of_le_length (by omega), List.take_append_of_le_length (by rw [List.length_drop]; omega)]
    unfold nxt at h ⊢
    rw [he] at h
    rw [he2]
    dsimp only at h ⊢
    rw [seg]
    exact h
/-- what counted still counts when more is written behind it -/
theorem cnt_pre {l r : List Nat} : ∀ (f p n f2 : Nat), (l ++ r).length < f2 + p → ∃ us, (cnt (l ++ r) f2 p n).1 = (cnt l f p n).1 ++ us
  | 0, p, n, f2, _ => ⟨_, rfl⟩
  | f + 1, p, n, f2, h2 => by
    cases hx : nxt l p n with
    | none =>
      rw [cnt_end hx]
      exact ⟨_, rfl⟩
    | some x =>
      obtain ⟨b, p', n'⟩ := x
      obtain ⟨k1, k2, _⟩ := nxt_lt hx
      obtain ⟨us, e⟩ := cnt_pre (l := l) (r := r) f p' n' f2 (by omega)
      refine ⟨us, ?_⟩
      rw [cnt_step h2 (nxt_app hx), e]
      show _ = (cnt l (f + 1) p n).1 ++ us
      rw [cnt, hx]
      rfl
theorem genU_pre {us vs : List U} {g : Nat} (h : genU us = some g) : genU (us ++ vs) = some g := by
  cases us with
  | nil => cases h
  | cons b us =>
    show genU (b :: (us ++ vs)) = some g
    cases ha : areaOf b with
    | none => rw [genU_none ha] at h; cases h
    | some k =>
      rw [genU_some ha] at h
      rw [genU_some ha, List.any_append]
      cases hw : us.any wholeU with
      | false => rw [hw, if_neg (by decide)] at h; cases h
      | true =>
        rw [hw, if_pos rfl] at h
        rw [Bool.true_or, if_pos rfl]
        exact h
theorem genT_app {a w : Str} {g : Nat} (h : genT a = some g) : genT (a ++ w) = some g := by
  unfold genT cntT at h ⊢
  rw [TL.tl_append]
  obtain ⟨us, e⟩ := cnt_pre (l := TL.tl a) (r := TL.tl w) ((TL.tl a).length + 1) 0 0 ((TL.tl a ++ TL.tl w).length + 1) (by omega)
  rw [e]
  exact genU_pre h
/-- what is kept of an area's generation: nothing, or just it -/
def GOk (v : V) (a : Str) : Prop := v = .non ∨ v = oV (genT a)
theorem GOk.app {v : V} {a w : Str} (h : GOk v a) : GOk v (a ++ w) := by
  rcases h with h | h
  · exact .inl h
  · cases q : genT a with
    | none => rw [q] at h; exact .inl h
    | some g => rw [q] at h; exact .inr (by rw [genT_app q]; exact h)
structure GsOk (gs : List V) (ar : List Str) : Prop where
  l : gs.length = 2
  g : ∀ (k : Nat) (v : V) (a : Str), gs[k]? = some v → ar[k]? = some a → GOk v a
theorem GsOk.set {gs : List V} {ar : List Str} (h : GsOk gs ar) {k : Nat} {v : V} {z : Str} (hz : GOk v z) : GsOk (gs.set k v) (ar.set k z) :=
  ⟨by rw [List.length_set]; exact h.l, fun j u a h1 h2 => by
    by_cases e : k = j
    · subst e
      rw [List.getElem?_set] at h1 h2
      rw [if_pos rfl] at h1 h2
      by_cases q1 : k < gs.length
      · by_cases q2 : k < ar.length
        · rw [if_pos q1] at h1
          rw [if_pos q2] at h2
          rw [← Option.some.inj h1, ← Option.some.inj h2]
          exact hz
        · rw [if_neg q2] at h2
          cases h2
      · rw [if_neg q1] at h1
        cases h1
    · rw [List.getElem?_set_ne e] at h1 h2
      exact h.g j u a h1 h2⟩
theorem GsOk.app {gs : List V} {ar : List Str} (h : GsOk gs ar) {k : Nat} {a w : Str} (ha : ar[k]? = some a) : GsOk gs (ar.set k (a ++ w)) :=
  ⟨h.l, fun j u b h1 h2 => by
    by_cases e : k = j
    · subst e
      rw [List.getElem?_set, if_pos rfl] at h2
      by_cases q2 : k < ar.length
      · rw [if_pos q2] at h2
        rw [← Option.some.inj h2]
        exact (h.g k u a h1 ha).app
      · rw [if_neg q2] at h2
        cases h2
    · rw [List.getElem?_set_ne e] at h2
      exact h.g j u b h1 h2⟩
theorem GsOk.put {gs : List V} {ar : List Str} (h : GsOk gs ar) {k : Nat} {a : Str} (ha : ar[k]? = some a) : GsOk (gs.set k (oV (genT a))) ar :=
  ⟨by rw [List.length_set]; exact h.l, fun j u b h1 h2 => by
    by_cases e : k = j
    · subst e
      rw [List.getElem?_set, if_pos rfl] at h1
      by_cases q1 : k < gs.length
      · rw [if_pos q1] at h1
        rw [ha] at h2
        rw [← Option.some.inj h1, ← Option.some.inj h2]
        exact .inr rfl
      · rw [if_neg q1] at h1
        cases h1
    · rw [List.getElem?_set_ne e] at h1
      exact h.g j u b h1 h2⟩
theorem gs0 {ar : List Str} : GsOk [.non, .non] ar := ⟨rfl, fun k v a h _ => by
  match k, h with
  | 0, h => exact .inl (Option.some.inj h).symm
  | 1, h => exact .inl (Option.some.inj h).symm
  | k + 2, h => simp at h⟩
/-- where a disk stands -/
structure DA where
  (p dx al cl gl : Addr)
theorem ca_ : ¬ (("_checks" : Str) = "_areas") := by decide +kernel
theorem ac_ : ¬ (("_areas" : Str) = "_checks") := by decide +kernel
theorem ga_ : ¬ (("_generations" : Str) = "_areas") := by decide +kernel
theorem ag_ : ¬ (("_areas" : Str) = "_generations") := by decide +kernel
theorem cg_ : ¬ (("_checks" : Str) = "_generations") := by decide +kernel
theorem gc_ : ¬ (("_generations" : Str) = "_checks") := by decide +kernel
def dF (al cl gl : Addr) : List (Str × V) := putF "_generations" (.ref gl) (putF "_checks" (.ref cl) (putF "_areas" (.ref al) []))
theorem dF_areas (al cl gl : Addr) : (dF al cl gl).lookup ("_areas" : Str) = some (.ref al) := by
  unfold dF
  rw [lookup_putF, if_neg ag_, lookup_putF, if_neg ac_, lookup_putF, if_pos rfl]
theorem dF_checks (al cl gl : Addr) : (dF al cl gl).lookup ("_checks" : Str) = some (.ref cl) := by
  unfold dF
  rw [lookup_putF, if_neg cg_, lookup_putF, if_pos rfl]
theorem dF_gens (al cl gl : Addr) : (dF al cl gl).lookup ("_generations" : Str) = some (.ref gl) := by
  unfold dF
  rw [lookup_putF, if_pos rfl]
theorem dF_no (al cl gl : Addr) {m : Str} (h1 : ¬ m = "_checks") (h2 : ¬ m = "_areas") (h3 : ¬ m = "_generations") : (dF al cl gl).lookup m = none := by
  unfold dF
  rw [lookup_putF, if_neg h3, lookup_putF, if_neg h1, lookup_putF, if_neg h2]
  rfl
theorem dF_eq (al cl gl : Addr) : dF al cl gl = ([("_areas", V.ref al), ("_checks", V.ref cl), ("_generations", V.ref gl)] : List (Str × V)) := by
  show putF "_generations" (.ref gl) (if ("_areas" : Str) = "_checks" then [(("_areas" : Str), V.ref cl)] else (("_areas" : Str), V.ref al) :: putF "_checks" (V.ref cl) []) = _
  rw [if_neg ac_]
  show (if ("_areas" : Str) = "_generations" then _ else (("_areas" : Str), V.ref al) :: (if ("_checks" : Str) = "_generations" then _ else (("_checks" : Str), V.ref cl) :: putF "_generations" (V.ref gl) [])) = _
  rw [if_neg ag_, if_neg cg_]
  all_goals rfl
theorem dF_put_a (al cl gl m : Addr) : putF "_areas" (.ref m) (dF al cl gl) = dF m cl gl := by
  rw [dF_eq, dF_eq]
  show (if ("_areas" : Str) = "_areas" then (("_areas" : Str), V.ref m) :: [(("_checks" : Str), V.ref cl), ("_generations", V.ref gl)] else _) = ([("_areas", V.ref m), ("_checks", V.ref cl), ("_generations", V.ref gl)] : List (Str × V))
  rw [if_pos rfl]
theorem dF_put_c (al cl gl m : Addr) : putF "_checks" (.ref m) (dF al cl gl) = dF al m gl := by
  rw [dF_eq, dF_eq]
  show (if ("_areas" : Str) = "_checks" then _ else (("_areas" : Str), V.ref al) :: (if ("_checks" : Str) = "_checks" then [(("_checks" : Str), V.ref m), ("_generations", V.ref gl)] else _)) = ([("_areas", V.ref al), ("_checks", V.ref m), ("_generations", V.ref gl)] : List (Str × V))
  rw [if_neg ac_, if_pos rfl]
theorem dF_put_g (al cl gl m : Addr) : putF "_generations" (.ref m) (dF al cl gl) = dF al cl m := by
  rw [dF_eq, dF_eq]
  show (if ("_areas" : Str) = "_generations" then _ else (("_areas" : Str), V.ref al) :: (if ("_checks" : Str) = "_generations" then _ else (("_checks" : Str), V.ref cl) :: (if ("_generations" : Str) = "_generations" then [(("_generations" : Str), V.ref m)] else _))) = ([("_areas", V.ref al), ("_checks", V.ref cl), ("_generations", V.ref m)] : List (Str × V))
  rw [if_neg ag_, if_neg cg_, if_pos rfl]
/-- the check of an area -/
def ckV (a : Str) : V := .int (ckO 0 0 (TL.tl a) : Nat)
structure Ars (ar : List Str) : Prop where
  l : ar.length = 2
  ln : ∀ a ∈ ar, ln' (TL.tl a) = true
  sz : ∀ a ∈ ar, a.length ≤ 90000
/-- a disk with these areas -/
structure DAt (C : Addr) (H : Hp) (d : DA) (ar : List Str) : Prop where
  o : H d.p = some (.ins C d.dx (dF d.al d.cl d.gl))
  a : H d.al = some (.lst (ar.map V.str))
  c : H d.cl = some (.lst (ar.map ckV))
  g : ∃ gs, H d.gl = some (.lst gs) ∧ GsOk gs ar
  n : d.cl ≠ d.gl
  r : Ars ar
theorem DAt.mv {C : Addr} {H H' : Hp} {d : DA} {ar : List Str} (h : DAt C H d ar) (e1 : ∀ o, H d.p = some o → H' d.p = some o) (e2 : ∀ o, H d.al = some o → H' d.al = some o) (e3 : ∀ o, H d.cl = some o → H' d.cl = some o) (e4 : ∀ o, H d.gl = some o → H' d.gl = some o) : DAt C H' d ar :=
  ⟨e1 _ h.o, e2 _ h.a, e3 _ h.c, (let ⟨gs, h1, h2⟩ := h.g; ⟨gs, e4 _ h1, h2⟩), h.n, h.r⟩
theorem DAt.ex {C : Addr} {H H' : Hp} {d : DA} {ar : List Str} (h : DAt C H d ar) (e : Ex H H') : DAt C H' d ar := h.mv (e _) (e _) (e _) (e _)
theorem DAt.ac {C : Addr} {H : Hp} {d : DA} {ar : List Str} (h : DAt C H d ar) : d.al ≠ d.cl := fun e => by
  have h1 := h.a
  rw [e, h.c] at h1
  have h2 := h.r.l
  match ar, h1, h2 with
  | [x, y], h1, _ =>
    have h1 := Option.some.inj h1
    injection h1 with h1
    injection h1 with h1
    cases h1
theorem DAt.ag {C : Addr} {H : Hp} {d : DA} {ar : List Str} (h : DAt C H d ar) : d.al ≠ d.gl := fun e => by
  obtain ⟨gs, hg, q⟩ := h.g
  have h1 := h.a
  rw [e, hg] at h1
  have h2 := h.r.l
  match ar, h1, h2 with
  | [x, y], h1, _ =>
    have h1 := Option.some.inj h1
    injection h1 with h1
    have q0 := q.g 0 (.str x) x (by rw [h1]; rfl) rfl
    rcases q0 with q0 | q0
    · cases q0
    · cases z : genT x <;> rw [z] at q0 <;> cases q0
theorem DAt.pa {C : Addr} {H : Hp} {d : DA} {ar : List Str} (h : DAt C H d ar) : d.p ≠ d.al := fun e => by
  have h1 := h.a
  rw [← e, h.o] at h1
  cases h1
theorem DAt.pc {C : Addr} {H : Hp} {d : DA} {ar : List Str} (h : DAt C H d ar) : d.p ≠ d.cl := fun e => by
  have h1 := h.c
  rw [← e, h.o] at h1
  cases h1
theorem DAt.pg {C : Addr} {H : Hp} {d : DA} {ar : List Str} (h : DAt C H d ar) : d.p ≠ d.gl := fun e => by
  obtain ⟨gs, h1, _⟩ := h.g
  rw [← e, h.o] at h1
  cases h1
/-- only the disk's three lists change -/
def KpD (d : DA) (H H' : Hp) : Prop := ∀ b o, b ≠ d.al → b ≠ d.cl → b ≠ d.gl → H b = some o → H' b = some o
theorem KpD.of_ex {d : DA} {H H' : Hp} (e : Ex H H') : KpD d H H' := fun b o _ _ _ h => e b o h
theorem KpD.trans {d : DA} {H H1 H2 : Hp} (x : KpD d H H1) (y : KpD d H1 H2) : KpD d H H2 := fun b o n1 n2 n3 h => y b o n1 n2 n3 (x b o n1 n2 n3 h)
theorem KpD.upa {d : DA} {H : Hp} {o : HO} : KpD d H (upd H d.al o) := fun b u n _ _ h => by
  rw [upd_ne n]
  exact h
theorem KpD.upc {d : DA} {H : Hp} {o : HO} : KpD d H (upd H d.cl o) := fun b u _ n _ h => by
  rw [upd_ne n]
  exact h
theorem KpD.upg {d : DA} {H : Hp} {o : HO} : KpD d H (upd H d.gl o) := fun b u _ _ n h => by
  rw [upd_ne n]
  exact h
/-- what the text says of the class -/
structure Dk (K : PySem.W.Frag) (mg : Str → Option Value) (C : Addr) : Prop where
  cl : Cls K C
  nA : NoAttr K C "_areas"
  nC : NoAttr K C "_checks"
  nG : NoAttr K C "_generations"
  g : mg "Disk" = some (.ref C)
  ha : PySem.W.findIn K (.ref C) "__class__" = some (some (.builtin "object.__class__"))
  hn : PySem.W.specialIn K (.builtin "object.__class__") "__get__" = some (some (.builtin "getset_descriptor.__get__"))
  htk : PySem.W.takesIn K (.builtin "object.__class__") = some true
  hm : PySem.W.mroIn K C (.type "object") = some true
  kS : PySem.W.kitOne K (.ref C) (.ref C) = some true
  kL : PySem.W.kitOne K (.type "list") (.ref C) = some false
/-- a method -/
structure Me (K : PySem.W.Frag) (C : Addr) (m q : Str) (st : Stmt) (ps : List Str) (f : Addr) (fd : FuncData) : Prop where
  F : Fun K m q st f fd
  b : Binds K fd ps []
  m : Meth K C m f
section
variable {K : PySem.W.Frag} {σ : L2.St} {H : Hp} {te ta tb : TE} {v : V}
theorem ev_fld {C p dx : Addr} {fs : List (Str × V)} {f : Str} (h : Ev ta σ H (.ref p)) (hp : H p = some (.ins C dx fs)) (c : Cls K C) (n : NoAttr K C f) (l : fs.lookup f = some v) : Ev (tFld K ta f) σ H v := fun H1 e Q q =>
  h H1 e _ fun H2 e2 => ⟨p, C, dx, fs, v, rfl, (e.trans e2) _ _ hp, c, n, l, q H2 e2⟩
theorem ckO_app (a w : List Nat) : ckO (ckO 0 0 a) a.length w = ckO 0 0 (a ++ w) := by
  unfold ckO
  simp only [Nat.zero_add, ckS_app, Nat.mod_add_mod, Nat.add_comm a.length 1]
end
theorem map_set {α β : Type} (f : α → β) : ∀ (l : List α) (k : Nat) (x : α), (l.map f).set k (f x) = (l.set k x).map f
  | [], _, _ => rfl
  | _ :: _, 0, _ => rfl
  | a :: l, k + 1, x => by
    show f a :: (l.map f).set k (f x) = f a :: (l.set k x).map f
    rw [map_set f l k x]
theorem Ars.set {ar : List Str} (h : Ars ar) {k : Nat} {z : Str} (hz : ln' (TL.tl z) = true) (hs : z.length ≤ 90000) : Ars (ar.set k z) :=
  ⟨by rw [List.length_set]; exact h.l, fun a ha => (List.mem_or_eq_of_mem_set ha).elim (h.ln a) fun e => e ▸ hz, fun a ha => (List.mem_or_eq_of_mem_set ha).elim (h.sz a) fun e => e ▸ hs⟩
section
variable {P : Program} {w : World} {K : PySem.W.Frag} {mg : Str → Option Value} {base : Heap} {C : Addr}
/-! ### is_count, _is_area, _is_most -/
theorem scCount : FnScope ["thing"] ["thing"] (defScope sCount) := ⟨rfl, rfl, rfl, by decide +kernel, rfl, by decide +kernel, by decide +kernel⟩
theorem lenO {g : U → Bool} {p : Str} : ∀ vs H Q E, spO g vs H Q E → vs.length = [p].length := fun vs H Q E h => by
  obtain ⟨v, u, rfl, _⟩ := h
  rfl
theorem ev_O {g : U → Bool} {H : Hp} {v : V} {u : U} {σ : L2.St} {te : TE} {E : XK} (h : Ev te σ H v) (o : Od H v u) (b : brd u) : Ev (tCall (spO g) [] E (tCons te tNil)) σ H (.bl (g u)) := ev_call (ea_cons h ea_nil) fun H1 e Q q E => ⟨v, u, rfl, o.ex e, b, q⟩
theorem ok_count {f f1 : Addr} {fd d1 : FuncData} (F : Fun K "is_count" "is_count" sCount f fd) (B : Bt mg) (D1 : Df K mg "is_integer" sIsInt ["thing"] f1 d1) : FnOk P w K mg base CX0 2 f fd ["thing"] (spO cntU) := by
  have G1 : FnOk P w K mg base CX0 1 f1 d1 ["thing"] (spO intU) := ok_isIntO D1.F B
  refine F.ok scCount lenO (fun cdv A outer s H vs Q E hr h => ?_)
  obtain ⟨v, u, rfl, hat, bu, k⟩ := h
  refine ⟨_, pss_one (ps_ret (pe_and (pe_call G1 (hr.mono (by decide)) (by rfl) D1.g D1.F.kp D1.b .nil pass0 (pa_cons (pv 0) pa_nil)) (pe_one (pe_cmpR op_ge (pv 0) pe_int (nomark _))))), ?_⟩
  refine s_ret (ev_andV (b := cntU u) (ev_O (ev_var rfl) hat bu) fun q => ?_) fun H1 e => ?_
  · cases u with
    | int i =>
      cases hat
      exact ev_op (ev_var rfl) ev_c rv_I0
    | _ => cases q
  · have e2 : (intU u && cntU u) = cntU u := by cases u <;> rfl
    rw [e2]
    exact k H1 e
theorem scIsArea : FnScope ["thing"] ["thing"] (defScope sIsArea) := ⟨rfl, rfl, rfl, by decide +kernel, rfl, by decide +kernel, by decide +kernel⟩
def spAr : Sp := fun vs H Q _ => ∃ k : Nat, vs = [.int (k : Int)] ∧ k < 2 ∧ ∀ H', Same H H' → Q (.bl true) H'
theorem ok_isArea {f f1 : Addr} {fd d1 : FuncData} (F : Fun K "_is_area" "_is_area" sIsArea f fd) (D1 : Df K mg "is_count" sCount ["thing"] f1 d1) (G1 : FnOk P w K mg base CX0 2 f1 d1 ["thing"] (spO cntU)) : FnOk P w K mg base CX0 3 f fd ["thing"] spAr := by
  refine F.ok scIsArea (fun vs H Q E h => ?_) (fun cdv A outer s H vs Q E hr h => ?_)
  · obtain ⟨k, rfl, _⟩ := h
    rfl
  obtain ⟨j, rfl, hj, k⟩ := h
  refine ⟨_, pss_one (ps_ret (pe_and (pe_call G1 (hr.mono (by decide)) (by rfl) D1.g D1.F.kp D1.b .nil pass0 (pa_cons (pv 0) pa_nil)) (pe_one (pe_cmpR op_le (pv 0) pe_int (nomark _))))), ?_⟩
  exact s_ret (ev_is (ev_andV (ev_O (g := cntU) (u := .int (j : Int)) (ev_var rfl) (.int _) (by simp only [brd])) fun _ => ev_op (ev_var rfl) ev_c rv_I0) (congrArg V.bl (by
    show (decide (0 ≤ (j : Int)) && decide ((j : Int) ≤ 1)) = true
    rw [decide_eq_true (by omega), decide_eq_true (by omega)]
    rfl))) fun H1 e => k H1 e
theorem scIsMost : FnScope ["thing"] ["thing"] (defScope sIsMost) := ⟨rfl, rfl, rfl, by decide +kernel, rfl, by decide +kernel, by decide +kernel⟩
/-- how many signs at most: None, or a number -/
def mst : V → Option Nat → Prop := fun v o => match o with | none => v = .non | some n => v = .int (n : Int)
def spMo : Sp := fun vs H Q _ => ∃ (v : V) (o : Option Nat), vs = [v] ∧ mst v o ∧ ∀ H', Same H H' → Q (.bl true) H'
theorem ok_isMost {f f1 : Addr} {fd d1 : FuncData} (F : Fun K "_is_most" "_is_most" sIsMost f fd) (D1 : Df K mg "is_count" sCount ["thing"] f1 d1) (G1 : FnOk P w K mg base CX0 2 f1 d1 ["thing"] (spO cntU)) : FnOk P w K mg base CX0 3 f fd ["thing"] spMo := by
  refine F.ok scIsMost (fun vs H Q E h => ?_) (fun cdv A outer s H vs Q E hr h => ?_)
  · obtain ⟨k, _, rfl, _⟩ := h
    rfl
  obtain ⟨v, o, rfl, hm, k⟩ := h
  refine ⟨_, pss_one (ps_ret (pe_or (pe_cmpR op_isN1 (pv 0) pe_non (nomark _)) (pe_one (pe_call G1 (hr.mono (by decide)) (by rfl) D1.g D1.F.kp D1.b .nil pass0 (pa_cons (pv 0) pa_nil))))), ?_⟩
  have rn : ∀ {H : Hp}, RV rIsN v .non H (.bl (decide (v = .non))) := fun H1 _ Q q => ⟨rfl, q H1 (Ex.refl H1)⟩
  cases o with
  | none =>
    cases (show v = .non from hm)
    exact s_ret (ev_is (ev_orV (b := true) (ev_op (ev_var rfl) ev_c rn) fun q => by rw [decide_eq_true rfl] at q; cases q) (congrArg V.bl (by rw [decide_eq_true rfl]; rfl))) fun H1 e => k H1 e
  | some n =>
    cases (show v = .int (n : Int) from hm)
    exact s_ret (ev_is (ev_orV (b := cntU (.int (n : Int))) (ev_op (ev_var rfl) ev_c rn) fun _ => ev_O (g := cntU) (u := .int (n : Int)) (ev_var rfl) (.int _) (by simp only [brd])) (congrArg V.bl (by
      show (_ || decide (0 ≤ (n : Int))) = true
      rw [decide_eq_true (show (0 : Int) ≤ n by omega), Bool.or_true]))) fun H1 e => k H1 e
end
end Ht
/-! k32: the methods of Disk -/
namespace Ht
open PySem PySem.Spec PyProof.Rows L2 Hu Evl
theorem ps_dead {X : Cx} {st : Stmt} : PS X st (fun _ _ _ => False) := ⟨fun _ _ _ _ _ _ h => h.elim⟩
/-- what the methods reach -/
structure Dm (P : Program) (w : World) (K : PySem.W.Frag) (mg : Str → Option Value) (base : Heap) (C : Addr) : Prop where
  B : Bt mg
  T : Dk K mg C
  A : ∃ f fd, Df K mg "_is_area" sIsArea ["thing"] f fd ∧ FnOk P w K mg base CX0 3 f fd ["thing"] spAr
  M : ∃ f fd, Df K mg "_is_most" sIsMost ["thing"] f fd ∧ FnOk P w K mg base CX0 3 f fd ["thing"] spMo
  N : ∃ f fd, Df K mg "is_count" sCount ["thing"] f fd ∧ FnOk P w K mg base CX0 2 f fd ["thing"] (spO cntU)
  L : ∃ f fd, Df K mg "is_lined" sIsLined ["thing"] f fd ∧ FnOk P w K mg base CX0 2 f fd ["thing"] (spO linU)
  K : ∃ f fd, Df K mg "check_behind" sCheckB ["number", "many", "text"] f fd ∧ FnOk P w K mg base CX0 1 f fd ["number", "many", "text"] spCB
section
variable {K : PySem.W.Frag} {mg : Str → Option Value} {σ : L2.St} {H : Hp} {te ta tb : TE} {v : V} {C : Addr} {d : DA} {ar : List Str} {E : XK}
theorem ev_areas (T : Dk K mg C) (D : DAt C H d ar) (h : Ev ta σ H (.ref d.p)) : Ev (tFld K ta "_areas") σ H (.ref d.al) := ev_fld h D.o T.cl T.nA (dF_areas _ _ _)
theorem ev_checks (T : Dk K mg C) (D : DAt C H d ar) (h : Ev ta σ H (.ref d.p)) : Ev (tFld K ta "_checks") σ H (.ref d.cl) := ev_fld h D.o T.cl T.nC (dF_checks _ _ _)
theorem ev_gens (T : Dk K mg C) (D : DAt C H d ar) (h : Ev ta σ H (.ref d.p)) : Ev (tFld K ta "_generations") σ H (.ref d.gl) := ev_fld h D.o T.cl T.nG (dF_gens _ _ _)
theorem ar_get {ar : List Str} {k : Nat} {a : Str} (h : ar[k]? = some a) : (ar.map V.str)[k]? = some (.str a) := by
  rw [List.getElem?_map, h]
  rfl
theorem ck_get {ar : List Str} {k : Nat} {a : Str} (h : ar[k]? = some a) : (ar.map ckV)[k]? = some (ckV a) := by
  rw [List.getElem?_map, h]
  rfl
theorem ev_areaK {k : Nat} {a : Str} (T : Dk K mg C) (D : DAt C H d ar) (h : Ev ta σ H (.ref d.p)) (hk : Ev tb σ H (.int (k : Int))) (ha : ar[k]? = some a) : Ev (tOp (rIxL K) (tFld K ta "_areas") tb) σ H (.str a) :=
  ev_op (ev_areas T D h) hk (rv_ixL (sq_of D.a) (atI_nat (ar_get ha)))
theorem ev_checkK {k : Nat} {a : Str} (T : Dk K mg C) (D : DAt C H d ar) (h : Ev ta σ H (.ref d.p)) (hk : Ev tb σ H (.int (k : Int))) (ha : ar[k]? = some a) : Ev (tOp (rIxL K) (tFld K ta "_checks") tb) σ H (ckV a) :=
  ev_op (ev_checks T D h) hk (rv_ixL (sq_of D.c) (atI_nat (ck_get ha)))
theorem et_area {k : Nat} (h : Ev te σ H (.int (k : Int))) (hk : k < 2) : EvT (tNot (tB (tCall spAr [] E (tCons te tNil)))) σ H (!true) := et_not (et_B (ev_call (ea_cons h ea_nil) fun H1 e Q q E => ⟨k, rfl, hk, q⟩))
end
section
variable {P : Program} {w : World} {K : PySem.W.Frag} {mg : Str → Option Value} {base : Heap} {C : Addr}
/-! ### area -/
def spArea (C : Addr) : Sp := fun vs H Q _ => ∃ (d : DA) (ar : List Str) (k : Nat) (a : Str), vs = [.ref d.p, .int (k : Int)] ∧ DAt C H d ar ∧ ar[k]? = some a ∧ ∀ H', Same H H' → Q (.str a) H'
theorem scArea : FnScope ["self", "k"] ["self", "k"] (defScope (sDk 1)) := ⟨rfl, rfl, rfl, by decide +kernel, rfl, by decide +kernel, by decide +kernel⟩
theorem lt2 {ar : List Str} {k : Nat} {a : Str} (h : Ars ar) (hk : ar[k]? = some a) : k < 2 := by
  have := (List.getElem?_eq_some_iff.mp hk).1
  have := h.l
  omega
theorem ok_area {f : Addr} {fd : FuncData} (F : Fun K "area" "Disk.area" (sDk 1) f fd) (R : Dm P w K mg base C) : FnOk P w K mg base CX0 4 f fd ["self", "k"] (spArea C) := by
  obtain ⟨fA, dA, DA', GA⟩ := R.A
  refine F.ok scArea (fun vs H Q E h => ?_) (fun cdv A outer s H vs Q E hr h => ?_)
  · obtain ⟨d, ar, k, a, rfl, _⟩ := h
    rfl
  obtain ⟨d, ar, j, a, rfl, D, ha, k⟩ := h
  refine ⟨_, pss_cons (ps_if (pt_not (pt_val (pe_call GA (hr.mono (by decide)) (by rfl) DA'.g DA'.F.kp DA'.b .nil pass0 (pa_cons (pv 1) pa_nil)))) (pss_one ps_dead) pss_nil)
    (pss_one (ps_ret (pe_ix ix_list (pe_fld (pv 0) rfl) (pv 1) (fun _ _ => rfl)))), ?_⟩
  refine q_when (et_area (ev_var rfl) (lt2 D.r ha)) (fun q => by cases q) (fun q H1 e1 => ?_)
  exact s_ret (ev_areaK R.T (D.ex e1) (ev_var rfl) (ev_var rfl) ha) fun H2 e2 => k H2 (e1.trans e2)
/-! ### _put, clear, shorten, append -/
def spPutD (C : Addr) : Sp := fun vs H Q _ => ∃ (d : DA) (ar : List Str) (k : Nat) (z : Str), vs = [.ref d.p, .int (k : Int), .str z] ∧ DAt C H d ar ∧ k < 2 ∧ ln' (TL.tl z) = true ∧ z.length ≤ 90000 ∧ ∀ H', KpD d H H' → DAt C H' d (ar.set k z) → Q .non H'
theorem scPutD : FnScope ["self", "k", "text"] ["self", "k", "text"] (defScope (sDk 7)) := ⟨rfl, rfl, rfl, by decide +kernel, rfl, by decide +kernel, by decide +kernel⟩
theorem ok_putD {f : Addr} {fd : FuncData} (F : Fun K "_put" "Disk._put" (sDk 7) f fd) (R : Dm P w K mg base C) : FnOk P w K mg base CX0 2 f fd ["self", "k", "text"] (spPutD C) := by
  obtain ⟨fK, dK, DK, GK⟩ := R.K
  refine F.ok scPutD (fun vs H Q E h => ?_) (fun cdv A outer s H vs Q E hr h => ?_)
  · obtain ⟨d, ar, k, a, rfl, _⟩ := h
    rfl
  obtain ⟨d, ar, j, z, rfl, D, hj, hl, hz, k⟩ := h
  refine ⟨_, pss_cons (ps_asg (pv 2) (pg_sub (pe_fld (pv 0) rfl) (pv 1) set_list))
    (pss_cons (ps_asg (pe_call GK (hr.mono (by decide)) (by rfl) DK.g DK.F.kp DK.b .nil pass0 (pa_cons pe_int (pa_cons pe_int (pa_cons (pv 2) pa_nil)))) (pg_sub (pe_fld (pv 0) rfl) (pv 1) set_list))
    (pss_one (ps_asg pe_non (pg_sub (pe_fld (pv 0) rfl) (pv 1) set_list)))), ?_⟩
  have hl2 := D.r.l
  obtain ⟨gs, hg, qg⟩ := D.g
  have hl3 := qg.l
  refine q_setL (j := j) D.a (ev_var rfl) (ev_areas R.T D (ev_var rfl)) (ev_var rfl) (by rw [List.length_map]; omega) fun H1 e1 => ?_
  have D1 := D.ex e1
  have ho : upd H1 d.al (.lst ((ar.map V.str).set j (.str z))) d.p = some (.ins C d.dx (dF d.al d.cl d.gl)) := by
    rw [upd_ne D.pa]
    exact D1.o
  have hc : upd H1 d.al (.lst ((ar.map V.str).set j (.str z))) d.cl = some (.lst (ar.map ckV)) := by
    rw [upd_ne D.ac.symm]
    exact D1.c
  have hg1 : upd H1 d.al (.lst ((ar.map V.str).set j (.str z))) d.gl = some (.lst gs) := by
    rw [upd_ne D.ag.symm]
    exact e1 _ _ hg
  refine q_setL (j := j) hc (ev_call (sp := spCB) (z := ckV z) (ea_cons ev_c (ea_cons ev_c (ea_cons (ev_var rfl) ea_nil))) fun H2 e2 Q q E => ⟨0, 0, z, rfl, by decide, hz, hl, q⟩) (ev_fld (ev_var rfl) ho R.T.cl R.T.nC (dF_checks _ _ _)) (ev_var rfl) (by rw [List.length_map]; omega) fun H2 e2 => ?_
  have ho2 : upd H2 d.cl (.lst ((ar.map ckV).set j (ckV z))) d.p = some (.ins C d.dx (dF d.al d.cl d.gl)) := by
    rw [upd_ne D.pc]
    exact e2 _ _ ho
  have hg2 : upd H2 d.cl (.lst ((ar.map ckV).set j (ckV z))) d.gl = some (.lst gs) := by
    rw [upd_ne D.n.symm]
    exact e2 _ _ hg1
  refine s_setL (j := j) hg2 (v := .non) ev_c (ev_fld (ev_var rfl) ho2 R.T.cl R.T.nG (dF_gens _ _ _)) (ev_var rfl) (by omega) fun H3 e3 => ?_
  refine k _ ((((KpD.of_ex e1).trans .upa).trans ((KpD.of_ex e2).trans .upc)).trans ((KpD.of_ex e3).trans .upg)) ⟨?_, ?_, ?_, ⟨gs.set j .non, upd_same, qg.set (.inl rfl)⟩, D.n, D.r.set hl hz⟩
  · rw [upd_ne D.pg]
    exact e3 _ _ ho2
  · rw [upd_ne D.ag]
    refine e3 _ _ ?_
    rw [upd_ne D.ac]
    refine (e2 _ _ upd_same).trans ?_
    rw [← map_set]
  · rw [upd_ne D.n]
    refine (e3 _ _ upd_same).trans ?_
    rw [← map_set]
def spClear (C : Addr) : Sp := fun vs H Q _ => ∃ (d : DA) (ar : List Str) (k : Nat), vs = [.ref d.p, .int (k : Int)] ∧ DAt C H d ar ∧ k < 2 ∧ ∀ H', KpD d H H' → DAt C H' d (ar.set k "") → Q .non H'
theorem scClear : FnScope ["self", "k"] ["self", "k"] (defScope (sDk 5)) := ⟨rfl, rfl, rfl, by decide +kernel, rfl, by decide +kernel, by decide +kernel⟩
theorem no_put (al cl gl : Addr) : (dF al cl gl).lookup ("_put" : Str) = none := dF_no _ _ _ (by decide +kernel) (by decide +kernel) (by decide +kernel)
theorem ok_clear {f fP : Addr} {fd dP : FuncData} (F : Fun K "clear" "Disk.clear" (sDk 5) f fd) (R : Dm P w K mg base C) (MP : Me K C "_put" "Disk._put" (sDk 7) ["self", "k", "text"] fP dP) : FnOk P w K mg base CX0 4 f fd ["self", "k"] (spClear C) := by
  obtain ⟨fA, dA, DA', GA⟩ := R.A
  have GP : FnOk P w K mg base CX0 2 fP dP ["self", "k", "text"] (spPutD C) := ok_putD MP.F R
  refine F.ok scClear (fun vs H Q E h => ?_) (fun cdv A outer s H vs Q E hr h => ?_)
  · obtain ⟨d, ar, k, rfl, _⟩ := h
    rfl
  obtain ⟨d, ar, j, rfl, D, hj, k⟩ := h
  refine ⟨_, pss_cons (ps_if (pt_not (pt_val (pe_call GA (hr.mono (by decide)) (by rfl) DA'.g DA'.F.kp DA'.b .nil pass0 (pa_cons (pv 1) pa_nil)))) (pss_one ps_dead) pss_nil)
    (pss_one (ps_expr (pe_meth (pv 0) R.T.cl MP.m GP (hr.mono (by decide)) MP.b .nil pass0 (pa_cons (pv 1) (pa_cons pe_str pa_nil))))), ?_⟩
  refine q_when (et_area (ev_var rfl) hj) (fun q => by cases q) (fun q H1 e1 => ?_)
  have D1 := D.ex e1
  exact ⟨_, rfl, d.p, d.dx, _, rfl, D1.o, no_put _ _ _, _, rfl, d, ar, j, "", rfl, D1, hj, rfl, by show (0 : Nat) ≤ 90000; decide, fun H' x D' => k H' ((KpD.of_ex e1).trans x) D'⟩
def spShort (C : Addr) : Sp := fun vs H Q _ => ∃ (d : DA) (ar : List Str) (k n : Nat) (a : Str), vs = [.ref d.p, .int (k : Int), .int (n : Int)] ∧ DAt C H d ar ∧ ar[k]? = some a ∧ n ≤ a.length ∧ ∀ H', KpD d H H' → DAt C H' d (ar.set k (cutS a none (some (n : Int)))) → Q .non H'
theorem scShort : FnScope ["self", "k", "many"] ["self", "k", "many"] (defScope (sDk 6)) := ⟨rfl, rfl, rfl, by decide +kernel, rfl, by decide +kernel, by decide +kernel⟩
theorem cut_ln {z : Str} {lo hi : Option Int} (h : ln' (TL.tl z) = true) : ln' (TL.tl (cutS z lo hi)) = true := List.all_eq_true.mpr fun c hc => List.all_eq_true.mp h c (cut_mem hc)
theorem ok_short {f fP : Addr} {fd dP : FuncData} (F : Fun K "shorten" "Disk.shorten" (sDk 6) f fd) (R : Dm P w K mg base C) (MP : Me K C "_put" "Disk._put" (sDk 7) ["self", "k", "text"] fP dP) : FnOk P w K mg base CX0 4 f fd ["self", "k", "many"] (spShort C) := by
  obtain ⟨fA, dA, DA', GA⟩ := R.A
  obtain ⟨fN, dN, DN, GN⟩ := R.N
  have GP : FnOk P w K mg base CX0 2 fP dP ["self", "k", "text"] (spPutD C) := ok_putD MP.F R
  refine F.ok scShort (fun vs H Q E h => ?_) (fun cdv A outer s H vs Q E hr h => ?_)
  · obtain ⟨d, ar, k, n, a, rfl, _⟩ := h
    rfl
  obtain ⟨d, ar, j, n, a, rfl, D, ha, hn, k⟩ := h
  refine ⟨_, pss_cons (ps_if (pt_not (pt_val (pe_call GA (hr.mono (by decide)) (by rfl) DA'.g DA'.F.kp DA'.b .nil pass0 (pa_cons (pv 1) pa_nil)))) (pss_one ps_dead) pss_nil)
    (pss_cons (ps_if (PW.pt (pw_or (pt_not (pt_val (pe_call GN (hr.mono (by decide)) (by rfl) DN.g DN.F.kp DN.b .nil pass0 (pa_cons (pv 2) pa_nil)))) (pw_or1 (pt_cmpR op_gt (pv 2) (pe_callB call_len_str (by rfl) R.B.len PySem.boot_len (pa_cons (pe_ix ix_list (pe_fld (pv 0) rfl) (pv 1) (fun _ _ => rfl)) pa_nil)) (nomark _))))) (pss_one ps_dead) pss_nil)
    (pss_one (ps_expr (pe_meth (pv 0) R.T.cl MP.m GP (hr.mono (by decide)) MP.b .nil pass0 (pa_cons (pv 1) (pa_cons (pe_slice sl_str (pe_ix ix_list (pe_fld (pv 0) rfl) (pv 1) (fun _ _ => rfl)) po_none (po_some (pv 2))) pa_nil)))))), ?_⟩
  have ha9 := D.r.sz a (List.mem_of_getElem? ha)
  have haz : a.length ≤ 100000 := by omega
  refine q_when (et_area (ev_var rfl) (lt2 D.r ha)) (fun q => by cases q) (fun q H1 e1 => ?_)
  have D1 := D.ex e1
  refine q_when (b := !true || false) (et_or (et_not (et_B (ev_is (ev_O (g := cntU) (u := .int (n : Int)) (ev_var rfl) (.int _) (by simp only [brd])) (congrArg V.bl (show cntU (.int (n : Int)) = true from decide_eq_true (show (0 : Int) ≤ (n : Int) by omega)))))) fun _ => et_is (et_test (ev_op (ev_var rfl) (ev_lenS (ev_areaK R.T D1 (ev_var rfl) (ev_var rfl) ha) haz) rv_I0)) (decide_eq_false (by omega))) (fun q => by cases q) (fun q H2 e2 => ?_)
  have D2 := D1.ex e2
  refine ⟨_, rfl, d.p, d.dx, _, rfl, D2.o, no_put _ _ _, _, rfl, (ev_slS (ev_areaK R.T D2 (ev_var rfl) (ev_var rfl) ha) eo_none (eo_some (ev_var rfl)) haz) H2 (Ex.refl _) _ fun H3 e3 => ?_⟩
  exact ⟨d, ar, j, cutS a none (some (n : Int)), rfl, D2.ex e3, lt2 D.r ha, cut_ln (D.r.ln a (List.mem_of_getElem? ha)), Nat.le_trans (cutS_length _ _ _) ha9, fun H' x D' => k H' ((KpD.of_ex ((e1.trans e2).trans e3)).trans x) D'⟩
/-- what is written of a text -/
def wrt (z : Str) : Option Nat → Str
  | none => z
  | some n => cutS z none (some (n : Int))
theorem wrt_len (z : Str) (o : Option Nat) : (wrt z o).length ≤ z.length := by
  cases o with
  | none => exact Nat.le_refl _
  | some n => exact cutS_length _ _ _
theorem wrt_ln {z : Str} (o : Option Nat) (h : ln' (TL.tl z) = true) : ln' (TL.tl (wrt z o)) = true := by
  cases o with
  | none => exact h
  | some n => exact cut_ln h
theorem ln_app {a b : List Nat} (ha : ln' a = true) (hb : ln' b = true) : ln' (a ++ b) = true := by
  unfold ln' at *
  rw [List.all_append, ha, hb]
  rfl
def spApp (C : Addr) : Sp := fun vs H Q _ => ∃ (d : DA) (ar : List Str) (k : Nat) (a z : Str) (m : V) (o : Option Nat), vs = [.ref d.p, .int (k : Int), .str z, m] ∧ mst m o ∧ DAt C H d ar ∧ ar[k]? = some a ∧ ln' (TL.tl z) = true ∧ a.length + z.length ≤ 90000 ∧
  ∀ H', KpD d H H' → DAt C H' d (ar.set k (a ++ wrt z o)) → Q (.int ((wrt z o).length : Int)) H'
theorem scApp : FnScope ["self", "k", "text", "most", "written"] ["self", "k", "text", "most"] (defScope (sDk 4)) := ⟨rfl, rfl, rfl, by decide +kernel, rfl, by decide +kernel, by decide +kernel⟩
theorem ok_app {f : Addr} {fd : FuncData} (F : Fun K "append" "Disk.append" (sDk 4) f fd) (R : Dm P w K mg base C) : FnOk P w K mg base CX0 4 f fd ["self", "k", "text", "most"] (spApp C) := by
  obtain ⟨fA, dA, DA', GA⟩ := R.A
  obtain ⟨fM, dM, DM, GM⟩ := R.M
  obtain ⟨fL, dL, DL, GL⟩ := R.L
  obtain ⟨fK, dK, DK, GK⟩ := R.K
  refine F.ok scApp (fun vs H Q E h => ?_) (fun cdv A outer s H vs Q E hr h => ?_)
  · obtain ⟨d, ar, k, a, z, m, o, rfl, _⟩ := h
    rfl
  obtain ⟨d, ar, j, a, z, m, o, rfl, hm, D, ha, hl, hz, k⟩ := h
  refine ⟨_, pss_cons (ps_if (pt_not (pt_val (pe_call GA (hr.mono (by decide)) (by rfl) DA'.g DA'.F.kp DA'.b .nil pass0 (pa_cons (pv 1) pa_nil)))) (pss_one ps_dead) pss_nil)
    (pss_cons (ps_if (pt_not (pt_val (pe_call GL (hr.mono (by decide)) (by rfl) DL.g DL.F.kp DL.b .nil pass0 (pa_cons (pv 2) pa_nil)))) (pss_one ps_dead) pss_nil)
    (pss_cons (ps_if (pt_not (pt_val (pe_call GM (hr.mono (by decide)) (by rfl) DM.g DM.F.kp DM.b .nil pass0 (pa_cons (pv 3) pa_nil)))) (pss_one ps_dead) pss_nil)
    (pss_cons (ps_set (i := 4) scApp.nd rfl (.inl rfl) (pe_ifExp (pt_cmpR op_isN1 (pv 3) pe_non (nomark _)) (pv 2) (pe_slice sl_str (pv 2) po_none (po_some (pv 3)))))
    (pss_cons (ps_asg (pe_call GK (hr.mono (by decide)) (by rfl) DK.g DK.F.kp DK.b .nil pass0 (pa_cons (pe_ix ix_list (pe_fld (pv 0) rfl) (pv 1) (fun _ _ => rfl)) (pa_cons (pe_callB call_len_str (by rfl) R.B.len PySem.boot_len (pa_cons (pe_ix ix_list (pe_fld (pv 0) rfl) (pv 1) (fun _ _ => rfl)) pa_nil)) (pa_cons (pv 4) pa_nil)))) (pg_sub (pe_fld (pv 0) rfl) (pv 1) set_list))
    (pss_cons (ps_asg (pe_op op_add_str (pe_ix ix_list (pe_fld (pv 0) rfl) (pv 1) (fun _ _ => rfl)) (pv 4)) (pg_sub (pe_fld (pv 0) rfl) (pv 1) set_list))
    (pss_one (ps_ret (pe_callB call_len_str (by rfl) R.B.len PySem.boot_len (pa_cons (pv 4) pa_nil))))))))), ?_⟩
  have hl2 := D.r.l
  have hj := lt2 D.r ha
  have wl := wrt_len z o
  have rn : ∀ {H : Hp}, RV rIsN m .non H (.bl (decide (m = .non))) := fun H1 _ Q q => ⟨rfl, q H1 (Ex.refl H1)⟩
  refine q_when (et_area (ev_var rfl) hj) (fun q => by cases q) (fun q H1 e1 => ?_)
  refine q_when (b := !true) (et_not (et_B (ev_is (ev_O (g := linU) (u := .str z) (ev_var rfl) (.str z) (brdS (by omega))) (congrArg V.bl hl)))) (fun q => by cases q) (fun q H2 e2 => ?_)
  refine q_when (b := !true) (et_not (et_B (ev_call (sp := spMo) (ea_cons (ev_var rfl) ea_nil) fun H3 e3 Q q E => ⟨m, o, rfl, hm, q⟩))) (fun q => by cases q) (fun q H3 e3 => ?_)
  have E3 := (e1.trans e2).trans e3
  refine q_asg (v := .str (wrt z o)) (ev_if (b := decide (m = .non)) (et_test (ev_op (ev_var rfl) ev_c rn)) (fun q => ?_) (fun q => ?_)) fun H4 e4 => ?_
  · have q := of_decide_eq_true q
    cases o with
    | none => exact ev_var rfl
    | some n => rw [q] at hm; cases hm
  · have q := of_decide_eq_false q
    cases o with
    | none => exact absurd hm q
    | some n =>
      cases (show m = .int (n : Int) from hm)
      exact ev_slS (ev_var rfl) eo_none (eo_some (ev_var rfl)) (by omega)
  have D4 := D.ex (E3.trans e4)
  have lw := wrt_ln o hl
  generalize hw : wrt z o = wz at lw wl k
  refine q_setL (j := j) D4.c (ev_call (sp := spCB) (z := ckV (a ++ wz)) (ea_cons (ev_checkK R.T D4 (ev_var rfl) (ev_var rfl) ha) (ea_cons (ev_lenS (ev_areaK R.T D4 (ev_var rfl) (ev_var rfl) ha) (by omega)) (ea_cons (ev_var rfl) ea_nil))) fun H5 e5 Q q E => ⟨ckO 0 0 (TL.tl a), a.length, wz, rfl, by omega, by omega, lw, fun H' s' => by
      have := q H' s'
      unfold ckV at this
      rw [TL.tl_append, ← ckO_app, ← TL.len_tl] at this
      exact this⟩) (ev_checks R.T D4 (ev_var rfl)) (ev_var rfl) (by rw [List.length_map]; omega) fun H5 e5 => ?_
  have D5 := D4.ex e5
  obtain ⟨gs, hg, qg⟩ := D5.g
  have ho : upd H5 d.cl (.lst ((ar.map ckV).set j (ckV (a ++ wz)))) d.p = some (.ins C d.dx (dF d.al d.cl d.gl)) := by
    rw [upd_ne D.pc]
    exact D5.o
  have hal : upd H5 d.cl (.lst ((ar.map ckV).set j (ckV (a ++ wz)))) d.al = some (.lst (ar.map V.str)) := by
    rw [upd_ne D.ac]
    exact D5.a
  have hgl : upd H5 d.cl (.lst ((ar.map ckV).set j (ckV (a ++ wz)))) d.gl = some (.lst gs) := by
    rw [upd_ne D.n.symm]
    exact hg
  refine q_setL (j := j) hal (ev_addS (ev_op (ev_fld (ev_var rfl) ho R.T.cl R.T.nA (dF_areas _ _ _)) (ev_var rfl) (rv_ixL (sq_of hal) (atI_nat (ar_get ha)))) (ev_var rfl) (by omega)) (ev_fld (ev_var rfl) ho R.T.cl R.T.nA (dF_areas _ _ _)) (ev_var rfl) (by rw [List.length_map]; omega) fun H6 e6 => ?_
  refine s_ret (ev_lenS (ev_var rfl) (by omega)) fun H7 e7 => ?_
  refine k H7 (((KpD.of_ex ((E3.trans e4).trans e5)).trans .upc).trans (((KpD.of_ex e6).trans .upa).trans (.of_ex e7))) (DAt.ex ⟨?_, ?_, ?_, ⟨gs, ?_, qg.app ha⟩, D.n, D.r.set (z := a ++ wz) (by rw [TL.tl_append]; exact ln_app (D.r.ln a (List.mem_of_getElem? ha)) lw) (by rw [app_len]; omega)⟩ e7)
  · rw [upd_ne D.pa]
    exact e6 _ _ ho
  · rw [upd_same, ← map_set]
  · rw [upd_ne D.ac.symm]
    refine (e6 _ _ upd_same).trans ?_
    rw [← map_set]
  · rw [upd_ne D.ag.symm]
    exact e6 _ _ hgl
end
end Ht
/-! k32: Disk(), copy, == -/
namespace Ht
open PySem PySem.Spec PyProof.Rows L2 Hu Evl
/-- x == y by the own __eq__ of x's class, y of it or a list -/
def rEqOwn (K : PySem.W.Frag) (C : Addr) (sp : Sp) (E : XK) : R2 := fun x y H Q => (∃ a dx fs, x = .ref a ∧ H a = some (.ins C dx fs)) ∧
  ((∃ b dy gs, y = .ref b ∧ H b = some (.ins C dy gs)) ∨ (∃ b ys, y = .ref b ∧ H b = some (.lst ys) ∧ PySem.W.subIn K (.type "list") (.ref C) = some false)) ∧ sp [x, y] H (fun v H' => (∃ k, v = .bl k) ∧ Q v H') E
theorem op_eqOwn {X : Cx} {CX : CXT} {n : Nat} {C f : Addr} {fd : FuncData} {ps : List Str} {sp : Sp} {E : XK} (F : FnOk X.prog X.w X.K X.mg X.base CX n f fd ps sp)
    (hs : PySem.W.findIn X.K (.ref C) "__eq__" = some (some (.ref f))) (hf : PySem.W.isFn X.K (.ref f) = true) (hb : Binds X.K fd ps []) (hr : Room n X.A) (hx : Passes CX X E) : OpR X (compareOp .Eq) (rEqOwn X.K C sp E) := by
  intro pn s0 st G p q vp vq R inv rp rq asked
  obtain ⟨⟨a, da, fa, rfl, ga⟩, right, told⟩ := asked
  cases rp
  have room := hr.units0
  obtain ⟨_, looksA, _⟩ := ins_get inv.hok ga
  obtain ⟨_, looksA, _⟩ := looksA.look
  obtain ⟨_, frames⟩ := inv.fr
  -- what stands on the right: an instance of the class, or a list
  obtain ⟨b, tb, rfl, rfl, kind, other⟩ : ∃ b tb, q = .ref b ∧ vq = .ref b ∧ PySem.W.Looks (model X.prog X.w) s0.heap (typeOf (.ref b)) tb ∧ PySem.W.notFirst X.K C tb = true := by
    rcases right with ⟨b, db, fb, rfl, gb⟩ | ⟨b, ys, rfl, gb, no⟩
    · cases rq
      obtain ⟨_, looksB, _⟩ := ins_get inv.hok gb
      obtain ⟨_, looksB, _⟩ := looksB.look
      exact ⟨b, _, rfl, rfl, looksB.type, by simp [PySem.W.notFirst]⟩
    · cases rq
      obtain ⟨_, _, _, _, got⟩ := (show ObjOk X.prog X.w G s0.heap b (.lst ys) from inv.hok b _ gb)
      exact ⟨b, .type "list", rfl, rfl, (PySem.W.Looks.ld got).andThen .now, by simp [PySem.W.notFirst, no]⟩
  show wpAny (model X.prog X.w) X.A (richCompare .Eq (.ref a) (.ref b)) (EP X pn st R) X.xe s0
  refine PySem.W.cmp_K (op := .Eq) (tb := tb) room frames inv.ok.mod.kin looksA kind other hs hf ?_
  have two := F.len _ _ _ _ told
  have args := hb s0 [Value.ref a, Value.ref b] inv.kIn (by simpa using two)
  have vals : Vals [V.ref a, .ref b] [Value.ref a, .ref b] := .cons rfl (.cons rfl .nil)
  have ran := F.run X.A X.stack s0 G ⟨[Value.ref a, .ref b], []⟩ [Value.ref a, .ref b] [V.ref a, .ref b] _ E hr inv.env0 (by simpa using args) vals told
  refine wpAny_call (codeAny_mono ran fun out s1 end_ => ?_)
  match out, end_ with
  | .error e, end_ => exact hx pn st G s0 e s1 inv end_
  | .ok (.ret w), end_ =>
    obtain ⟨z, G1, inv1, rz, ⟨k, ez⟩, fin⟩ := inv.after end_
    subst ez
    cases rz
    exact ⟨.bl k, G1, inv1, rfl, fin⟩
  | .ok .next, end_ => exact False.elim end_
  | .ok .brk, end_ => exact False.elim end_
  | .ok .cont, end_ => exact False.elim end_
/-- all places of a disk were free -/
def Fr (H : Hp) (d : DA) : Prop := H d.p = none ∧ H d.dx = none ∧ H d.al = none ∧ H d.cl = none ∧ H d.gl = none
section
variable {P : Program} {w : World} {K : PySem.W.Frag} {mg : Str → Option Value} {base : Heap} {C : Addr}
def spInit (C : Addr) : Sp := fun vs H Q _ => ∃ (p dx : Addr), vs = [.ref p] ∧ H p = some (.ins C dx []) ∧ ∀ (al cl gl : Addr) (H' : Hp), H al = none → H cl = none → H gl = none → (∀ b o, b ≠ p → H b = some o → H' b = some o) → DAt C H' ⟨p, dx, al, cl, gl⟩ ["", ""] → Q .non H'
theorem scInit : FnScope ["self"] ["self"] (defScope (sDk 0)) := ⟨rfl, rfl, rfl, by decide +kernel, rfl, by decide +kernel, by decide +kernel⟩
theorem ars0 : Ars ["", ""] := ⟨rfl, fun a ha => by
  have : a = "" := by simpa using ha
  subst this
  rfl, fun a ha => by
  have : a = "" := by simpa using ha
  subst this
  exact Nat.zero_le _⟩
theorem ok_init {f : Addr} {fd : FuncData} (F : Fun K "__init__" "Disk.__init__" (sDk 0) f fd) (T : Dk K mg C) : FnOk P w K mg base CX0 1 f fd ["self"] (spInit C) := by
  refine F.ok scInit (fun vs H Q E h => ?_) (fun cdv A outer s H vs Q E hr h => ?_)
  · obtain ⟨p, dx, rfl, _⟩ := h
    rfl
  obtain ⟨p, dx, rfl, hp, k⟩ := h
  refine ⟨_, pss_cons (ps_fld (pv 0) (pe_lst (pa_cons pe_str (pa_cons pe_str pa_nil))) rfl) (pss_cons (ps_fld (pv 0) (pe_lst (pa_cons pe_int (pa_cons pe_int pa_nil))) rfl) (pss_one (ps_fld (pv 0) (pe_lst (pa_cons pe_non (pa_cons pe_non pa_nil))) rfl))), ?_⟩
  refine ⟨sz_of (show (2 : Nat) ≤ 100000 by decide), fun al hal => ?_⟩
  have npa : p ≠ al := ne_of_none hp hal
  refine ⟨_, rfl, p, C, dx, [], rfl, (by rw [upd_ne npa]; exact hp), T.cl, T.nA, (by show 0 < 1000; decide), sz_of (show (2 : Nat) ≤ 100000 by decide), fun cl hcl => ?_⟩
  have npc : p ≠ cl := ne_of_none upd_same hcl
  have hcl1 : upd H al (.lst [V.str "", .str ""]) cl = none := by
    rw [upd_ne npc.symm] at hcl
    exact hcl
  have nac : al ≠ cl := ne_of_none upd_same hcl1
  have hcl0 : H cl = none := by
    rw [upd_ne nac.symm] at hcl1
    exact hcl1
  refine ⟨_, rfl, p, C, dx, _, rfl, Eq.trans (upd_ne npc) upd_same, T.cl, T.nC, (by show 1 < 1000; decide), sz_of (show (2 : Nat) ≤ 100000 by decide), fun gl hgl => ?_⟩
  have npg : p ≠ gl := ne_of_none upd_same hgl
  have hgl1 := hgl
  rw [upd_ne npg.symm] at hgl1
  have ncg : cl ≠ gl := ne_of_none upd_same hgl1
  have hgl2 := hgl1
  rw [upd_ne ncg.symm, upd_ne npg.symm] at hgl2
  have nag : al ≠ gl := ne_of_none upd_same hgl2
  have hgl0 : H gl = none := by
    rw [upd_ne nag.symm] at hgl2
    exact hgl2
  refine ⟨_, rfl, p, C, dx, _, rfl, Eq.trans (upd_ne npg) upd_same, T.cl, T.nG, (by show 2 < 1000; decide), ?_⟩
  refine k al cl gl _ hal hcl0 hgl0 (fun b o nb hb => ?_) ⟨upd_same, ?_, ?_, ⟨[.non, .non], ?_, gs0⟩, ncg, ars0⟩
  · rw [upd_ne nb, upd_ne (ne_of_none hb hgl0), upd_ne nb, upd_ne (ne_of_none hb hcl0), upd_ne nb, upd_ne (ne_of_none hb hal)]
    exact hb
  · rw [upd_ne npa.symm, upd_ne nag, upd_ne npa.symm, upd_ne nac, upd_ne npa.symm, upd_same]
    rfl
  · rw [upd_ne npc.symm, upd_ne ncg, upd_ne npc.symm, upd_same]
    rfl
  · rw [upd_ne npg.symm, upd_same]
/-- Disk() -/
theorem mk_read {σ : L2.St} {H : Hp} {Q : VK} {E : XK} (k : ∀ (d : DA) (H' : Hp), Ex H H' → Fr H d → DAt C H' d ["", ""] → Q (.ref d.p) H') : tMake C (spInit C) [] E tNil σ H Q := by
  intro x dx nx ndx nex
  refine ⟨x, dx, rfl, upd_same, fun al cl gl H' hal hcl hgl kp D => ⟨rfl, ?_⟩⟩
  have hgl0 : H gl = none := by
    by_cases e : gl = x
    · rw [e]
      exact nx
    · by_cases e2 : gl = dx
      · rw [e2]
        exact ndx
      · rw [upd_ne e, upd_ne e2] at hgl
        exact hgl
  have hal0 : H al = none := by
    by_cases e : al = x
    · rw [e]
      exact nx
    · by_cases e2 : al = dx
      · rw [e2]
        exact ndx
      · rw [upd_ne e, upd_ne e2] at hal
        exact hal
  have hcl0 : H cl = none := by
    by_cases e : cl = x
    · rw [e]
      exact nx
    · by_cases e2 : cl = dx
      · rw [e2]
        exact ndx
      · rw [upd_ne e, upd_ne e2] at hcl
        exact hcl
  refine k ⟨x, dx, al, cl, gl⟩ H' (fun b o hb => ?_) ⟨nx, ndx, hal0, hcl0, hgl0⟩ D
  refine kp b o (ne_of_none hb nx) ?_
  rw [upd_ne (ne_of_none hb nx), upd_ne (ne_of_none hb ndx)]
  exact hb
theorem boot_list' : bootBuiltins "list" = some (.type "list") := by decide +kernel
theorem q_asgM {C : Addr} {i : Nat} {σ : L2.St} {H : Hp} {D : Ends} {tz : TS} {E : XK} (k : ∀ (d : DA) (H' : Hp), Ex H H' → Fr H d → DAt C H' d ["", ""] → tz D (σ.set i (some (.ref d.p))) H') : tSeq (tAsg (tMake C (spInit C) [] E tNil) (gName i)) tz D σ H := by
  refine mk_read (σ := σ) (Q := fun x H1 => gName i x σ H1 (tz D)) fun d H' e f T => ?_
  exact k d H' e f T
def spCopy (C : Addr) : Sp := fun vs H Q _ => ∃ (d : DA) (ar : List Str), vs = [.ref d.p] ∧ DAt C H d ar ∧ ∀ (d' : DA) (H' : Hp), Ex H H' → Fr H d' → DAt C H' d' ar → Q (.ref d'.p) H'
theorem scCopy : FnScope ["self", "twin"] ["self"] (defScope (sDk 8)) := ⟨rfl, rfl, rfl, by decide +kernel, rfl, by decide +kernel, by decide +kernel⟩
theorem ok_copy {f fI : Addr} {fd dI : FuncData} (F : Fun K "copy" "Disk.copy" (sDk 8) f fd) (B : Bt mg) (T : Dk K mg C) (M : Mk K C fI) (bI : Binds K dI ["self"] []) (GI : FnOk P w K mg base CX0 1 fI dI ["self"] (spInit C)) : FnOk P w K mg base CX0 3 f fd ["self"] (spCopy C) := by
  refine F.ok scCopy (fun vs H Q E h => ?_) (fun cdv A outer s H vs Q E hr h => ?_)
  · obtain ⟨d, ar, rfl, _⟩ := h
    rfl
  obtain ⟨d, ar, rfl, D, k⟩ := h
  refine ⟨_, pss_cons (ps_set (i := 1) scCopy.nd rfl (.inl rfl) (pe_make0 M GI hr rfl T.g bI .nil pass0))
    (pss_cons (ps_fld (pv 1) (pe_callTy call_list_of (by rfl) B.lst boot_list' (pa_cons (pe_fld (pv 0) rfl) pa_nil)) rfl)
    (pss_cons (ps_fld (pv 1) (pe_callTy call_list_of (by rfl) B.lst boot_list' (pa_cons (pe_fld (pv 0) rfl) pa_nil)) rfl)
    (pss_cons (ps_fld (pv 1) (pe_callTy call_list_of (by rfl) B.lst boot_list' (pa_cons (pe_fld (pv 0) rfl) pa_nil)) rfl)
    (pss_one (ps_ret (pv 1)))))), ?_⟩
  refine q_asgM fun t H1 e1 f1 D1 => ?_
  have D' := D.ex e1
  obtain ⟨gs, hgs, qgs⟩ := D'.g
  have hz2 : gs.length = 2 := qgs.l
  -- the disk stands apart from the new one
  have nt : ∀ {b : Addr} {o : HO}, H b = some o → b ≠ t.p := fun hb => ne_of_none hb f1.1
  obtain ⟨g0, hog, _⟩ := D.g
  refine (ev_areas T D' (σ := [some (.ref d.p), some (.ref t.p)]) (ta := tVar 0) (ev_var rfl)) H1 (Ex.refl _) _ fun H2 e2 => ⟨d.al, ar.map V.str, rfl, .inl (sq_of (e2 _ _ D'.a)), fun al hal => ?_⟩
  have E3 := e2.trans (Ex.new (o := .lst (ar.map V.str)) hal)
  have D2 := D1.ex E3
  have D'2 := D'.ex E3
  have hal1 : H1 al = none := fresh_back e2 hal
  have hal0 : H al = none := fresh_back e1 hal1
  refine ⟨_, rfl, t.p, C, t.dx, _, rfl, D2.o, T.cl, T.nA, (by rw [dF_eq]; show 3 < 1000; decide), ?_⟩
  rw [dF_put_a]
  generalize h3 : upd (upd H2 al (.lst (ar.map V.str))) t.p (.ins C t.dx (dF al t.cl t.gl)) = H3
  -- all but the new disk stands as before
  have K3 : ∀ b o, b ≠ t.p → H1 b = some o → H3 b = some o := fun b o nb hb => by
    rw [← h3, upd_ne nb]
    exact E3 _ _ hb
  have T3 : H3 t.p = some (.ins C t.dx (dF al t.cl t.gl)) := by
    rw [← h3, upd_same]
  have A3 : H3 al = some (.lst (ar.map V.str)) := by
    rw [← h3, upd_ne (ne_of_none D1.o hal1).symm, upd_same]
  have n3 : ∀ b, H3 b = none → H1 b = none ∧ b ≠ t.p ∧ b ≠ al := fun b hb => by
    have q1 : b ≠ t.p := fun e => by rw [e, T3] at hb; cases hb
    have q2 : b ≠ al := fun e => by rw [e, A3] at hb; cases hb
    refine ⟨?_, q1, q2⟩
    cases hz : H1 b with
    | none => rfl
    | some o => rw [K3 b o q1 hz] at hb; cases hb
  have ho3 : H3 d.p = some (.ins C d.dx (dF d.al d.cl d.gl)) := K3 _ _ (nt D.o) D'.o
  have hc3 : H3 d.cl = some (.lst (ar.map ckV)) := K3 _ _ (nt D.c) D'.c
  have hg3 : H3 d.gl = some (.lst gs) := K3 _ _ (nt hog) hgs
  have nta : al ≠ t.p := (ne_of_none D1.o hal1).symm
  refine (ev_fld (σ := [some (.ref d.p), some (.ref t.p)]) (ta := tVar 0) (ev_var rfl) ho3 T.cl T.nC (dF_checks _ _ _)) _ (Ex.refl _) _ fun H4 e4 => ⟨d.cl, ar.map ckV, rfl, .inl (sq_of (e4 _ _ hc3)), fun cl hcl => ?_⟩
  have E5 := e4.trans (Ex.new (o := .lst (ar.map ckV)) hcl)
  obtain ⟨hcl1, ntc, nac⟩ := n3 cl (fresh_back e4 hcl)
  refine ⟨_, rfl, t.p, C, t.dx, _, rfl, E5 _ _ T3, T.cl, T.nC, (by rw [dF_eq]; show 3 < 1000; decide), ?_⟩
  rw [dF_put_c]
  generalize h6 : upd (upd H4 cl (.lst (ar.map ckV))) t.p (.ins C t.dx (dF al cl t.gl)) = H6
  have K6 : ∀ b o, b ≠ t.p → H3 b = some o → H6 b = some o := fun b o nb hb => by
    rw [← h6, upd_ne nb]
    exact E5 _ _ hb
  have T6 : H6 t.p = some (.ins C t.dx (dF al cl t.gl)) := by
    rw [← h6, upd_same]
  have C6 : H6 cl = some (.lst (ar.map ckV)) := by
    rw [← h6, upd_ne ntc, upd_same]
  have n6 : ∀ b, H6 b = none → H3 b = none ∧ b ≠ cl := fun b hb => by
    have q1 : b ≠ t.p := fun e => by rw [e, T6] at hb; cases hb
    have q2 : b ≠ cl := fun e => by rw [e, C6] at hb; cases hb
    refine ⟨?_, q2⟩
    cases hz : H3 b with
    | none => rfl
    | some o => rw [K6 b o q1 hz] at hb; cases hb
  refine (ev_fld (σ := [some (.ref d.p), some (.ref t.p)]) (ta := tVar 0) (ev_var rfl) (K6 _ _ (nt D.o) ho3) T.cl T.nG (dF_gens _ _ _)) _ (Ex.refl _) _ fun H7 e7 => ⟨d.gl, gs, rfl, .inl (sq_of (e7 _ _ (K6 _ _ (nt hog) hg3))), fun gl hgl => ?_⟩
  have E8 := e7.trans (Ex.new (o := .lst gs) hgl)
  obtain ⟨hgl3, ngc⟩ := n6 gl (fresh_back e7 hgl)
  obtain ⟨hgl1, ntg, nga⟩ := n3 gl hgl3
  refine ⟨_, rfl, t.p, C, t.dx, _, rfl, E8 _ _ T6, T.cl, T.nG, (by rw [dF_eq]; show 3 < 1000; decide), _, rfl, ?_⟩
  rw [dF_put_g]
  refine k ⟨t.p, t.dx, al, cl, gl⟩ _ (fun b o hb => ?_) ⟨f1.1, f1.2.1, hal0, fresh_back e1 hcl1, fresh_back e1 hgl1⟩ ⟨upd_same, ?_, ?_, ⟨gs, ?_, qgs⟩, ngc.symm, D.r⟩
  · rw [upd_ne (nt hb)]
    exact E8 _ _ (K6 _ _ (nt hb) (K3 _ _ (nt hb) (e1 _ _ hb)))
  · rw [upd_ne nta]
    exact E8 _ _ (K6 _ _ nta A3)
  · rw [upd_ne ntc]
    exact E8 _ _ C6
  · rw [upd_ne ntg, upd_same]
/-! ### == -/
theorem strs_eq : ∀ xs ys : List Str, PyData.eqvAll (xs.map .str) (ys.map .str) = decide (xs = ys)
  | [], [] => rfl
  | x :: xs, y :: ys => by
    show ((x == y) && PyData.eqvAll (xs.map .str) (ys.map .str)) = _
    rw [strs_eq xs ys]
    by_cases h : x = y
    · subst h
      simp
    · have : (x == y) = false := by simpa using h
      rw [this, Bool.false_and]
      exact (decide_eq_false (by simp [h])).symm
  | [], y :: ys => rfl
  | x :: xs, [] => rfl
theorem strs_dp {K : PySem.W.Frag} {H : Hp} : ∀ xs : List Str, DpAll K H (xs.map V.str) (xs.map .str)
  | [] => .nil
  | x :: xs => .cons (.str x) (strs_dp xs)
theorem ln_ok {z : Str} (h : ln' (TL.tl z) = true) : PyData.strOk z = true := by
  unfold PyData.strOk
  rw [← Array.all_toList]
  refine List.all_eq_true.mpr fun c hc => ?_
  have := ln'_c (List.all_eq_true.mp h c hc)
  exact decide_eq_true (by omega)
theorem strs_sh {xs : List Str} (h : ∀ x ∈ xs, ln' (TL.tl x) = true) : SeqAt.shaped (.list (xs.map .str)) = true := by
  have h1 : PyData.canLayAll0 (xs.map .str) = true ∧ PyData.depthAll (xs.map .str) = 0 := by
    induction xs with
    | nil => exact ⟨rfl, rfl⟩
    | cons x xs ih =>
      obtain ⟨a, b⟩ := ih fun y hy => h y (List.mem_cons_of_mem _ hy)
      have hx := ln_ok (h x (List.mem_cons_self ..))
      exact ⟨by simp [PyData.canLayAll0, PyData.canLay0, hx, a], by simp [PyData.depthAll, PyData.depth, b]⟩
  show ((PyData.list (xs.map .str)).canLay0 && decide ((PyData.list (xs.map .str)).depth ≤ 64)) = true
  simp [PyData.canLay0, PyData.depth, h1.1, h1.2]
theorem rv_eqSL {K : PySem.W.Frag} {H : Hp} {a b : Addr} {xs ys : List Str} (ha : H a = some (.lst (xs.map V.str))) (hb : H b = some (.lst (ys.map V.str))) (hx : ∀ x ∈ xs, ln' (TL.tl x) = true) (hy : ∀ y ∈ ys, ln' (TL.tl y) = true) :
    RV (rEqD K) (.ref a) (.ref b) H (.bl (decide (xs = ys))) := fun H1 e Q q => ⟨.list (xs.map .str), .list (ys.map .str), .lst (sq_of (e _ _ ha)) (strs_dp xs), .lst (sq_of (e _ _ hb)) (strs_dp ys), strs_sh hx, strs_sh hy, by
    show Q (.bl (PyData.eqvAll _ _)) H1
    rw [strs_eq]
    exact q H1 (Ex.refl H1)⟩
def spEqK (C : Addr) : Sp := fun vs H Q _ => ∃ (d : DA) (ar : List Str) (v : V), vs = [.ref d.p, v] ∧ DAt C H d ar ∧
  ((∃ (d' : DA) (ar' : List Str), v = .ref d'.p ∧ DAt C H d' ar' ∧ ∀ H', Same H H' → Q (.bl (decide (ar = ar'))) H') ∨ (∃ b xs, v = .ref b ∧ H b = some (.lst xs) ∧ ∀ H', Same H H' → Q (.bl false) H'))
theorem scEqK : FnScope ["self", "other"] ["self", "other"] (defScope (sDk 9)) := ⟨rfl, rfl, rfl, by decide +kernel, rfl, by decide +kernel, by decide +kernel⟩
theorem ok_eqK {f : Addr} {fd : FuncData} (F : Fun K "__eq__" "Disk.__eq__" (sDk 9) f fd) (B : Bt mg) (T : Dk K mg C) : FnOk P w K mg base CX0 1 f fd ["self", "other"] (spEqK C) := by
  refine F.ok scEqK (fun vs H Q E h => ?_) (fun cdv A outer s H vs Q E hr h => ?_)
  · obtain ⟨d, ar, v, rfl, _⟩ := h
    rfl
  obtain ⟨d, ar, v, rfl, D, h⟩ := h
  refine ⟨_, pss_one (ps_ret (pe_and (pe_callB call_isi (by rfl) B.isi boot_isi' (pa_cons (pv 1) (pa_cons (pe_glob (v := .ref C) (by rfl) T.g rfl) pa_nil))) (pe_one (pe_cmpR (op_eqD hr.units) (pe_fld (pv 0) rfl) (pe_fld (pv 1) rfl) (nomark _))))), ?_⟩
  rcases h with ⟨d', ar', rfl, D', k⟩ | ⟨b, xs, rfl, hb, k⟩
  · refine s_ret (ev_andV (a := true) (b := decide (ar = ar')) (ev_cb (ea_cons (ev_var rfl) (ea_cons ev_c ea_nil)) fun H1 e Q q => ⟨_, _, _, _, _, rfl, .own C, .base (.ins (e _ _ D'.o) T.cl T.ha T.hn T.htk T.hm), T.kS, q H1 (Ex.refl H1)⟩) fun _ => ev_op (ev_areas T D (ev_var rfl)) (ev_areas T D' (ev_var rfl)) (rv_eqSL D.a D'.a D.r.ln D'.r.ln)) fun H1 e1 => ?_
    rw [Bool.true_and]
    exact k H1 e1
  · exact s_ret (ev_andV (a := false) (b := false) (ev_cb (ea_cons (ev_var rfl) (ea_cons ev_c ea_nil)) fun H1 e Q q => ⟨_, _, _, _, _, rfl, .own C, .base (.lst (e _ _ hb)), T.kL, q H1 (Ex.refl H1)⟩) fun q => by cases q) fun H1 e1 => k H1 e1
end
end Ht
/-! k32: is_pair, _line_at -/
namespace Ht
open PySem PySem.Spec PyProof.Rows L2 Hu Evl
abbrev sPair : Stmt := topS 12
abbrev sLineAt : Stmt := topS 39
mutual
theorem brd_tx : ∀ u : U, pl u → (tx u).length ≤ 90000 → brd u
  | .non, _, _ => by simp only [brd]
  | .int _, _, _ => by simp only [brd]
  | .str z, _, h => by
    have e := escP_ge (TL.tl z)
    have hz := TL.len_tl z
    simp only [tx, List.length_cons, List.length_append, List.length_nil] at h
    simp only [brd]
    omega
  | .tup us, p, h => by
    have h1 := us_len us
    simp only [brd]
    refine ⟨by omega, brdL_tx us (by simpa only [pl] using p) fun u hu => ?_⟩
    have h2 := jn_mem hu
    simp only [tx, List.length_cons, List.length_append, List.length_nil] at h
    omega
  | .bl _, p, _ => by simp only [pl] at p
  | .lst _, p, _ => by simp only [pl] at p
  | .dct _, p, _ => by simp only [pl] at p
  | .exc, p, _ => by simp only [pl] at p
theorem brdL_tx : ∀ us : List U, plL us → (∀ u ∈ us, (tx u).length ≤ 90000) → brdL us
  | [], _, _ => by simp only [brdL]
  | u :: us, p, h => by
    simp only [brdL]
    exact ⟨brd_tx u p.1 (h u (List.mem_cons_self ..)), brdL_tx us p.2 fun v hv => h v (List.mem_cons_of_mem _ hv)⟩
end
theorem tx_pair (a b : U) : (tx a).length ≤ (tx (.tup [a, b])).length ∧ (tx b).length ≤ (tx (.tup [a, b])).length := by
  have h1 := jn_mem (us := [a, b]) (u := a) (by simp)
  have h2 := jn_mem (us := [a, b]) (u := b) (by simp)
  simp only [tx, List.length_cons, List.length_append, List.length_nil] at *
  omega
theorem unT_len {l : List Nat} {u : U} (h : unT l = [u]) : (tx u).length ≤ l.length ∧ pl u ∧ dpt u ≤ 30 := by
  rcases unT_cases l with h0 | ⟨u', h1, h2, h3, h4⟩
  · rw [h0] at h
    cases h
  · rw [h1] at h
    cases h
    refine ⟨?_, h3, h4⟩
    rw [h2]
    unfold Sl
    rw [List.length_append]
    omega
theorem lnU_some {l : List Nat} {i : Int} {b : U} (h : lnU l = some (i, b)) : unT l = [.tup [.int i, b]] := by
  unfold lnU at h
  split at h
  · rename_i j c hu
    cases h
    exact hu
  · cases h
theorem nxt_no {l : List Nat} {p n e : Nat} (he : eol l p = some e) (h : ∀ b, unT ((l.drop p).take (e - p)) ≠ [.tup [.int (n : Int), b]]) : nxt l p n = none := by
  unfold nxt
  rw [he]
  dsimp only
  cases hl : lnU ((l.drop p).take (e - p)) with
  | none => rfl
  | some ib =>
    obtain ⟨i, b⟩ := ib
    have hu := lnU_some hl
    dsimp only
    by_cases hi : i = (n : Int)
    · subst hi
      exact absurd hu (h b)
    · rw [if_neg hi]
/-- a line's entry is a thing, not too deep, of signs of the text -/
theorem nxt_pl {l : List Nat} {p n p' n' : Nat} {b : U} (h : nxt l p n = some (b, p', n')) : pl b ∧ dpt b ≤ 29 ∧ (tx b).length ≤ l.length := by
  unfold nxt at h
  cases he : eol l p with
  | none => rw [he] at h; cases h
  | some e =>
    rw [he] at h
    dsimp only at h
    cases hl : lnU ((l.drop p).take (e - p)) with
    | none => rw [hl] at h; cases h
    | some ib =>
      rw [hl] at h
      obtain ⟨i, b'⟩ := ib
      dsimp only at h
      obtain ⟨h1, h2, h3⟩ := unT_len (lnU_some hl)
      by_cases hi : i = (n : Int)
      · rw [if_pos hi] at h
        cases h
        have h4 := (tx_pair (.int i) b).2
        have h5 : ((l.drop p).take (e - p)).length ≤ l.length := by rw [List.length_take, List.length_drop]; omega
        simp only [pl, plL] at h2
        simp only [dpt, dptL] at h3
        exact ⟨h2.2.1, by omega, by omega⟩
      · rw [if_neg hi] at h
        cases h
section
variable {P : Program} {w : World} {K : PySem.W.Frag} {mg : Str → Option Value} {base : Heap} {C : Addr}
def pairU (u : U) : Bool := match u with | .tup us => decide (us.length = 2) | _ => false
theorem pairU_inv {u : U} (h : pairU u = true) : ∃ a b, u = .tup [a, b] := by
  cases u with
  | tup us =>
    have h : us.length = 2 := of_decide_eq_true h
    match us, h with
    | [a, b], _ => exact ⟨a, b, rfl⟩
  | _ => cases h
theorem od_pair {H : Hp} {v : V} {a b : U} (h : Od H v (.tup [a, b])) : ∃ p va vb, v = .ref p ∧ H p = some (.tup [va, vb]) ∧ Od H va a ∧ Od H vb b := by
  cases h with
  | tup h l => cases l with
    | cons x l => cases l with
      | cons y l =>
        cases l
        exact ⟨_, _, _, rfl, h, x, y⟩
theorem od_one {H : Hp} {v : V} {a : U} (h : Od H v (.tup [a])) : ∃ p va, v = .ref p ∧ H p = some (.tup [va]) ∧ Od H va a := by
  cases h with
  | tup h l => cases l with
    | cons x l =>
      cases l
      exact ⟨_, _, rfl, h, x⟩
theorem od_tri {H : Hp} {v : V} {a b c : U} (h : Od H v (.tup [a, b, c])) : ∃ p va vb vc, v = .ref p ∧ H p = some (.tup [va, vb, vc]) ∧ Od H va a ∧ Od H vb b ∧ Od H vc c := by
  cases h with
  | tup h l => cases l with
    | cons x l => cases l with
      | cons y l => cases l with
        | cons z l =>
          cases l
          exact ⟨_, _, _, _, rfl, h, x, y, z⟩
theorem od_emp {H : Hp} {v : V} (h : Od H v (.tup [])) : ∃ p, v = .ref p ∧ H p = some (.tup []) := by
  cases h with
  | tup h l =>
    cases l
    exact ⟨_, rfl, h⟩
def spPr : Sp := fun vs H Q _ => ∃ (v : V) (u : U), vs = [v] ∧ Od H v u ∧ ∀ H', Same H H' → Q (.bl (pairU u)) H'
theorem scPr : FnScope ["thing"] ["thing"] (defScope sPair) := ⟨rfl, rfl, rfl, by decide +kernel, rfl, by decide +kernel, by decide +kernel⟩
theorem ok_pair {f : Addr} {fd : FuncData} (F : Fun K "is_pair" "is_pair" sPair f fd) (B : Bt mg) : FnOk P w K mg base CX0 1 f fd ["thing"] spPr := by
  refine F.ok scPr (fun vs H Q E h => ?_) (fun cdv A outer s H vs Q E hr h => ?_)
  · obtain ⟨v, u, rfl, _⟩ := h
    rfl
  obtain ⟨v, u, rfl, hat, k⟩ := h
  refine ⟨_, pss_one (ps_ret (pe_and (pe_callB call_isi (by rfl) B.isi boot_isi' (pa_cons (pv 0) (pa_cons (pe_bltn (by rfl) B.tup boot_tup' (show RelV (.ty "tuple") (.type "tuple") from rfl)) pa_nil)))
    (pe_one (pe_cmpR op_eq (pe_callB call_len_seq (by rfl) B.len PySem.boot_len (pa_cons (pv 0) pa_nil)) pe_int (nomark _))))), ?_⟩
  refine s_ret (ev_andV (b := pairU u) (ev_isiO (ev_var rfl) hat (by decide)) fun q => ?_) fun H1 e => ?_
  · cases hat with
    | tup h l =>
      rename_i xs us
      have hl := OdL.length l
      refine ev_is (ev_op (ev_cb (z := .int (xs.length : Int)) (ea_cons (ev_var rfl) ea_nil) fun H1 e Q q => ⟨_, xs, rfl, .inr (st_of (e _ _ h)), q H1 (Ex.refl H1)⟩) ev_c (rv_eq rfl)) (congrArg V.bl ?_)
      refine decide_eq_decide.mpr ⟨fun h => ?_, fun h => ?_⟩
      · injection h with h
        omega
      · rw [hl, h]
        rfl
    | _ => simp [isT, isS, tyU] at q
  · have e2 : (isT u "tuple" && pairU u) = pairU u := by cases u <;> simp [isT, isS, tyU, pairU]
    rw [e2]
    exact k H1 e
/-! ### _line_at -/
/-- what the readers of lines reach -/
structure Dl (P : Program) (w : World) (K : PySem.W.Frag) (mg : Str → Option Value) (base : Heap) : Prop where
  B : Bt mg
  us : ∃ f fd, Df K mg "unsealed" sUnsealed ["text"] f fd ∧ FnOk P w K mg base CX0 66 f fd ["text"] spUS
  pr : ∃ f fd, Df K mg "is_pair" sPair ["thing"] f fd ∧ FnOk P w K mg base CX0 1 f fd ["thing"] spPr
  cb : ∃ f fd, Df K mg "check_behind" sCheckB ["number", "many", "text"] f fd ∧ FnOk P w K mg base CX0 1 f fd ["number", "many", "text"] spCB
def lnV (r : Option (U × Nat × Nat)) : U := match r with
  | none => .tup []
  | some (b, p', n') => .tup [b, .int (p' : Int), .int (n' : Int)]
def spLA : Sp := fun vs H Q _ => ∃ (z : Str) (p n : Nat), vs = [.str z, .int (p : Int), .int (n : Int)] ∧ z.length ≤ 90000 ∧ p ≤ z.length ∧ ln' (TL.tl z) = true ∧ ∀ (t : Addr) (H' : Hp), Same H H' → Od H' (.ref t) (lnV (nxt (TL.tl z) p n)) → Q (.ref t) H'
theorem scLA : FnScope ["text", "place", "number", "end", "found"] ["text", "place", "number"] (defScope sLineAt) := ⟨rfl, rfl, rfl, by decide +kernel, rfl, by decide +kernel, by decide +kernel⟩
theorem ev_find {σ : L2.St} {H : Hp} {te ta tb : TE} {z : Str} {p : Nat} (h : Ev te σ H (.str z)) (h1 : Ev ta σ H (.str "\n")) (h2 : Ev tb σ H (.int (p : Int))) : Ev (tBM K "str" (fun x xs H Q => ∃ (a b : Str) (i : Int), x = .str a ∧ xs = [.str b, .int i] ∧ Q (.int (Txt.find3 a b i)) H) te (tCons ta (tCons tb tNil))) σ H (.int (eolI (TL.tl z) p)) := fun H1 e Q q =>
  h H1 e _ fun H2 e2 => ⟨rfl, (ea_cons h1 (ea_cons h2 ea_nil)) H2 (e.trans e2) _ fun H3 e3 => ⟨z, _, (p : Int), rfl, rfl, by rw [find_eol]; exact q H3 (e2.trans e3)⟩⟩
/-- an item of a tuple -/
theorem ev_ixT {σ : L2.St} {H : Hp} {te ti : TE} {a : Addr} {xs : List V} {i : Nat} {v : V} (h : Ev te σ H (.ref a)) (hi : Ev ti σ H (.int (i : Int))) (ha : H a = some (.tup xs)) (hx : xs[i]? = some v) : Ev (tOp (rIxT K) te ti) σ H v := ev_op h hi (rv_ixT (st_of ha) (atI_nat hx))
theorem et_tru {σ : L2.St} {H : Hp} {te : TE} {a : Addr} {xs : List V} (h : Ev te σ H (.ref a)) (ha : H a = some (.tup xs)) : EvT (fun σ H Q => te σ H fun x H' => ∃ k, TruV K x H' k ∧ Q k H') σ H (!xs.isEmpty) := fun H1 e Q q =>
  h H1 e _ fun H2 e2 => ⟨_, .inr (.inl ⟨xs, st_of ((e.trans e2) _ _ ha), rfl⟩), q H2 e2⟩
def isN (a : U) (n : Int) : Bool := match a with | .int i => decide (i = n) | _ => false
theorem isN_iff {a : U} {n : Int} : isN a n = true ↔ a = .int n := by
  cases a with
  | int i =>
    refine ⟨fun h => ?_, fun h => ?_⟩
    · rw [of_decide_eq_true h]
    · cases h
      exact decide_eq_true rfl
  | _ => exact ⟨fun h => (by cases h), fun h => (by cases h)⟩
theorem eqv_int {a : U} {n : Int} (h : pl a) : PyData.eqv (pyd a) (.int n) = isN a n := by
  cases a with
  | int i =>
    show (i == n) = decide (i = n)
    by_cases e : i = n
    · subst e
      simp
    · rw [decide_eq_false e]
      simpa using e
  | non => rfl
  | str z => rfl
  | tup us => rfl
  | bl _ => simp only [pl] at h
  | lst _ => simp only [pl] at h
  | dct _ => simp only [pl] at h
  | exc => simp only [pl] at h
theorem ok_lineAt {f : Addr} {fd : FuncData} (F : Fun K "_line_at" "_line_at" sLineAt f fd) (R : Dl P w K mg base) : FnOk P w K mg base CX0 67 f fd ["text", "place", "number"] spLA := by
  obtain ⟨B, ⟨fU, dU, DU, GU⟩, ⟨fP, dP, DP, GP⟩, ⟨fK, dK, DK, GK⟩⟩ := R
  refine F.ok scLA (fun vs H Q E h => ?_) (fun cdv A outer s H vs Q E hr h => ?_)
  · obtain ⟨z, p, n, rfl, _⟩ := h
    rfl
  obtain ⟨z, p, n, rfl, hz, hp, hl, k⟩ := h
  refine ⟨_, pss_cons (ps_set (i := 3) scLA.nd rfl (.inl rfl) (pe_bm PySem.F.plainAttrs_str PySem.F.slot_str_find PySem.F.type_str_find mt_find3 (pv 0) (pa_cons pe_str (pa_cons (pv 1) pa_nil))))
    (pss_cons (ps_if (pt_cmpR op_lt (pv 3) pe_int (nomark _)) (pss_one (ps_ret (pe_tup pa_nil))) pss_nil)
    (pss_cons (ps_set (i := 4) scLA.nd rfl (.inl rfl) (pe_call GU hr (by rfl) DU.g DU.F.kp DU.b .nil pass0 (pa_cons (pe_slice sl_str (pv 0) (po_some (pv 1)) (po_some (pv 3))) pa_nil)))
    (pss_cons (ps_if (PW.pt (pw_or (pt_not (pt_truth (pv 4) fun _ => rfl))
        (pw_or (pt_not (pt_val (pe_call GP (hr.mono (by decide)) (by rfl) DP.g DP.F.kp DP.b .nil pass0 (pa_cons (pe_ix ix_tup (pv 4) pe_int (fun _ _ => rfl)) pa_nil))))
        (pw_or1 (pt_cmpR (op_neD hr.units) (pe_ix ix_tup (pe_ix ix_tup (pv 4) pe_int (fun _ _ => rfl)) pe_int (fun _ _ => rfl)) (pv 2) (nomark _))))))
      (pss_one (ps_ret (pe_tup pa_nil))) pss_nil)
    (pss_one (ps_ret (pe_tup (pa_cons (pe_ix ix_tup (pe_ix ix_tup (pv 4) pe_int (fun _ _ => rfl)) pe_int (fun _ _ => rfl)) (pa_cons (pe_op op_add (pv 3) pe_int) (pa_cons
      (pe_call GK (hr.mono (by decide)) (by rfl) DK.g DK.F.kp DK.b .nil pass0 (pa_cons (pv 2) (pa_cons (pv 1) (pa_cons (pe_slice sl_str (pv 0) (po_some (pv 1)) (po_some (pv 3))) pa_nil)))) pa_nil))))))))), ?_⟩
  have hlz := TL.len_tl z
  have hz1 : z.length ≤ 100000 := by omega
  refine q_asg (v := .int (eolI (TL.tl z) p)) (ev_find (ev_var rfl) ev_c (ev_var rfl)) fun H1 e1 => ?_
  have hN : ∀ {H' : Hp} {t : Addr}, H' t = some (.tup []) → nxt (TL.tl z) p n = none → Od H' (.ref t) (lnV (nxt (TL.tl z) p n)) := fun ht hn => by
    rw [hn]
    exact .tup ht .nil
  cases he : eol (TL.tl z) p with
  | none =>
    have e0 : eolI (TL.tl z) p = -1 := by unfold eolI; rw [he]
    rw [e0]
    refine q_when (b := true) (et_is (et_test (ev_op (ev_var rfl) ev_c rv_I0)) rfl) (fun _ H2 e2 => ?_) (fun q => by cases q)
    exact s_retU (eu_tup ea_nil (by show (0 : Nat) ≤ 100000; decide)) fun t H3 ht e3 h3 => k t H3 ((e1.trans e2).trans e3) (hN h3 (by unfold nxt; rw [he]))
  | some e =>
    obtain ⟨q1, q2, q3, q4⟩ := eol_some he
    have e0 : eolI (TL.tl z) p = (e : Int) := by unfold eolI; rw [he]
    rw [e0]
    refine q_when (b := false) (et_is (et_test (ev_op (ev_var rfl) ev_c rv_I0)) (decide_eq_false (by omega))) (fun q => by cases q) (fun _ H2 e2 => ?_)
    have hb : e ≤ z.length := by omega
    have hct : TL.tl (cutS z (some (p : Int)) (some (e : Int))) = ((TL.tl z).drop p).take (e - p) := cut_tl hb
    have hcl : (cutS z (some (p : Int)) (some (e : Int))).length ≤ 90000 := Nat.le_trans (cutS_length _ _ _) hz
    refine q_asgC (sp := spUS) (dvs := []) (vs := [.str (cutS z (some (p : Int)) (some (e : Int)))]) (ea_cons (ev_slS (ev_var rfl) (eo_some (ev_var rfl)) (eo_some (ev_var rfl)) hz1) ea_nil) fun H3 e3 => ?_
    refine ⟨_, .str (cutS z (some (p : Int)) (some (e : Int))), rfl, .str _, brdS hcl, fun t H4 s4 o4 => ?_⟩
    have hu : unV (.str (cutS z (some (p : Int)) (some (e : Int)))) = unT (((TL.tl z).drop p).take (e - p)) := by
      show unT (TL.tl _) = _
      rw [hct]
    rw [hu] at o4
    have E4 := ((e1.trans e2).trans e3).trans s4
    show tSeq _ _ _ [some (.str z), some (.int (p : Int)), some (.int (n : Int)), some (.int (e : Int)), some (.ref t)] H4
    cases o4 with
    | tup ht hod =>
      rename_i xs
      rcases unT_cases (((TL.tl z).drop p).take (e - p)) with g0 | ⟨u, g1, _, gp, gd⟩
      · have hx : xs = [] := by
          rw [g0] at hod
          cases hod
          rfl
        subst hx
        refine q_when (b := true) (et_is (et_or (b := true) (et_not (et_tru (ev_var rfl) ht)) (fun q => by cases q)) rfl) (fun _ H5 e5 => ?_) (fun q => by cases q)
        exact s_retU (eu_tup ea_nil (by show (0 : Nat) ≤ 100000; decide)) fun t H6 ht e6 h6 => k t H6 ((E4.trans e5).trans e6) (hN h6 (nxt_no he fun b hb => by
          rw [g0] at hb
          cases hb))
      · obtain ⟨gx, _, _⟩ := unT_len g1
        rw [g1] at hod
        obtain ⟨v, rfl, ov⟩ : ∃ v, xs = [v] ∧ Od H4 v u := by
          cases hod with
          | cons x l => cases l; exact ⟨_, rfl, x⟩
        -- the line's thing is no pair, a pair of something else, or a pair that goes on
        have hnp : pairU u = false → nxt (TL.tl z) p n = none := fun q => nxt_no he fun b hb => by
          rw [g1] at hb
          cases hb
          cases q
        cases hpu : pairU u with
        | false =>
          refine q_when (b := true) (et_is (et_or (b := true) (et_not (et_tru (ev_var rfl) ht)) (fun _ => et_is (et_or (b := true) (et_not (et_B (ev_call (sp := spPr) (ea_cons (ev_ixT (i := 0) (ev_var rfl) ev_c ht rfl) ea_nil) fun H5 e5 Q q E => ⟨v, u, rfl, ov.ex e5, q⟩))) fun q => by rw [hpu] at q; cases q) (by rw [hpu]; rfl))) rfl) (fun _ H5 e5 => ?_) (fun q => by cases q)
          exact s_retU (eu_tup ea_nil (by show (0 : Nat) ≤ 100000; decide)) fun t H6 ht e6 h6 => k t H6 ((E4.trans e5).trans e6) (hN h6 (hnp hpu))
        | true =>
          obtain ⟨a, b, rfl⟩ := pairU_inv hpu
          simp only [pl, plL] at gp
          simp only [dpt, dptL] at gd
          obtain ⟨pv', va, vb, rfl, hv, oa, ob⟩ := od_pair ov
          have eP : ∀ {H' : Hp}, Ex H4 H' → H' t = some (.tup [.ref pv']) := fun e => e _ _ ht
          have ix0 : ∀ {H' : Hp}, Ex H4 H' → Ev (tOp (rIxT K) (tVar 4) (tC (.int 0))) [some (.str z), some (.int (p : Int)), some (.int (n : Int)), some (.int (e : Int)), some (.ref t)] H' (.ref pv') := fun e => ev_ixT (i := 0) (ev_var rfl) ev_c (eP e) rfl
          refine q_when (b := !isN a (n : Int)) (et_is (et_or (b := !isN a (n : Int)) (et_not (et_tru (ev_var rfl) ht)) (fun _ => et_is (et_or (b := !isN a (n : Int)) (et_not (et_B (ev_call (sp := spPr) (ea_cons (ix0 (Ex.refl _)) ea_nil) fun H5 e5 Q q E => ⟨_, .tup [a, b], rfl, .tup (e5 _ _ hv) (.cons (oa.ex e5) (.cons (ob.ex e5) .nil)), q⟩)))
            fun _ => et_test fun H5 e5 Q q => ev_ixT (i := 0) (ix0 (Ex.refl _)) ev_c hv rfl H5 e5 _ fun H6 e6 => ⟨.int (n : Int), rfl, pyd a, .int (n : Int), od_dp (oa.ex (e5.trans e6)) (sm_pl a gp.1), .int _, pyd_shaped (sm_pl a gp.1) (by omega), rfl, by rw [eqv_int gp.1]; exact q H6 e6⟩) rfl)) rfl) (fun q H5 e5 => ?_) (fun q H5 e5 => ?_)
          · have q : ¬ a = .int (n : Int) := fun z => by rw [isN_iff.mpr z] at q; cases q
            refine s_retU (eu_tup ea_nil (by show (0 : Nat) ≤ 100000; decide)) fun t H6 ht e6 h6 => k t H6 ((E4.trans e5).trans e6) (hN h6 ?_)
            exact nxt_no he fun b' hb => by
              rw [g1] at hb
              cases hb
              exact q rfl
          · have q : a = .int (n : Int) := isN_iff.mp (by simpa using q)
            subst q
            have hnx : nxt (TL.tl z) p n = some (b, e + 1, ckO n p (((TL.tl z).drop p).take (e - p))) := by
              unfold nxt
              rw [he]
              dsimp only
              unfold lnU
              rw [g1]
              dsimp only
              rw [if_pos rfl]
            rw [hnx] at k
            refine s_retU (eu_tup (vs := [vb, .int ((e + 1 : Nat) : Int), .int ((ckO n p (((TL.tl z).drop p).take (e - p)) : Nat) : Int)]) (ea_cons (ev_ixT (i := 1) (ix0 e5) ev_c (e5 _ _ hv) rfl) (ea_cons (ev_is (ev_op (ev_var rfl) ev_c rv_I0) (by rw [show ((e + 1 : Nat) : Int) = (e : Int) + 1 by omega])) (ea_cons
              (ev_call (sp := spCB) (ea_cons (ev_var rfl) (ea_cons (ev_var rfl) (ea_cons (ev_slS (ev_var rfl) (eo_some (ev_var rfl)) (eo_some (ev_var rfl)) hz1) ea_nil))) fun H6 e6 Q q E => ⟨n, p, _, rfl, by omega, hcl, cut_ln hl, by rw [hct]; exact q⟩) ea_nil))) (by show (3 : Nat) ≤ 100000; decide)) fun t' H6 ht' e6 h6 => ?_
            exact k t' H6 ((E4.trans e5).trans e6) (.tup h6 (.cons (ob.ex (e5.trans e6)) (.cons (.int _) (.cons (.int _) .nil))))
end
end Ht
/-! k32: _counted, lines, rest -/
namespace Ht
open PySem PySem.Spec PyProof.Rows L2 Hu Evl
abbrev sCounted : Stmt := topS 40
abbrev sLines : Stmt := topS 41
abbrev sRest : Stmt := topS 42
theorem sm_lnV {l : List Nat} {p n : Nat} : sm (lnV (nxt l p n)) := by
  cases h : nxt l p n with
  | none => simp only [lnV, sm, smL]
  | some r =>
    obtain ⟨b, p', n'⟩ := r
    simp only [lnV, sm, smL, and_true]
    exact sm_pl b (nxt_pl h).1
section
variable {σ : L2.St} {H : Hp} {te to ti : TE} {ta : TA} {K : PySem.W.Frag} {D : Ends} {g : TG} {sp : Sp} {dvs vs : List V} {E : XK}
theorem s_asgC (h : EvA ta σ H vs) (k : ∀ H1, Ex H H1 → sp (vs ++ dvs) H1 (fun x H2 => g x σ H2 D.nx) E) : tAsg (tCall sp dvs E ta) g D σ H := h H (Ex.refl H) _ fun H1 e => k H1 e
theorem s_retIxC {i : Int} (h : EvA ta σ H vs) (k : ∀ H1, Ex H H1 → sp (vs ++ dvs) H1 (fun x H2 => rIxT K x (.int i) H2 D.rt) E) : tRet (tOp (rIxT K) (tCall sp dvs E ta) (tC (.int i))) D σ H := h H (Ex.refl H) _ fun H1 e => k H1 e
end
section
variable {P : Program} {w : World} {K : PySem.W.Frag} {mg : Str → Option Value} {base : Heap} {C : Addr}
def spCt : Sp := fun vs H Q _ => ∃ z : Str, vs = [.str z] ∧ z.length ≤ 90000 ∧ ln' (TL.tl z) = true ∧ ∀ (t l : Addr) (xs : List V) (H' : Hp), Same H H' → H l = none → H' t = some (.tup [.ref l, .int ((cntT (TL.tl z)).2 : Int)]) → H' l = some (.lst xs) → OdL H' xs (cntT (TL.tl z)).1 → Q (.ref t) H'
theorem scCt : FnScope ["text", "entries", "behind", "line", "entry", "number"] ["text"] (defScope sCounted) := ⟨rfl, rfl, rfl, by decide +kernel, rfl, by decide +kernel, by decide +kernel⟩
theorem et_lined {σ : L2.St} {H : Hp} {te : TE} {E : XK} {z : Str} (h : Ev te σ H (.str z)) (hz : z.length ≤ 90000) (hl : ln' (TL.tl z) = true) : EvT (tNot (tB (tCall (spO linU) [] E (tCons te tNil)))) σ H false :=
  et_is (et_not (et_B (ev_O (g := linU) (u := .str z) h (.str _) (brdS hz)))) (by rw [show linU (.str z) = true from hl]; rfl)
theorem ok_counted {f fL fN : Addr} {fd dL dN : FuncData} (F : Fun K "_counted" "_counted" sCounted f fd) (B : Bt mg) (DL : Df K mg "_line_at" sLineAt ["text", "place", "number"] fL dL) (GL : FnOk P w K mg base CX0 67 fL dL ["text", "place", "number"] spLA)
    (DN : Df K mg "is_lined" sIsLined ["thing"] fN dN) (GN : FnOk P w K mg base CX0 2 fN dN ["thing"] (spO linU)) : FnOk P w K mg base CX0 68 f fd ["text"] spCt := by
  refine F.ok scCt (fun vs H Q E h => ?_) (fun cdv A outer s H vs Q E hr h => ?_)
  · obtain ⟨z, rfl, _⟩ := h
    rfl
  obtain ⟨z, rfl, hz, hl, k⟩ := h
  refine ⟨_, pss_cons (ps_if (pt_not (pt_val (pe_call GN (hr.mono (by decide)) (by rfl) DN.g DN.F.kp DN.b .nil pass0 (pa_cons (pv 0) pa_nil)))) (pss_one ps_dead) pss_nil)
    (pss_cons (ps_set (i := 1) scCt.nd rfl (.inl rfl) (pe_lst pa_nil))
    (pss_cons (ps_set (i := 2) scCt.nd rfl (.inl rfl) pe_int)
    (pss_cons (ps_set (i := 3) scCt.nd rfl (.inl rfl) (pe_call GL hr (by rfl) DL.g DL.F.kp DL.b .nil pass0 (pa_cons (pv 0) (pa_cons pe_int (pa_cons pe_int pa_nil)))))
    (pss_cons (ps_while PassesOwn.never (pt_truth (pv 3) fun _ => rfl)
      (pss_cons (ps_asg (pv 3) (pg_tup rfl (pgs_cons (pg_name (i := 4) scCt.nd rfl (.inl rfl)) (pgs_cons (pg_name (i := 2) scCt.nd rfl (.inl rfl)) (pgs_cons (pg_name (i := 5) scCt.nd rfl (.inl rfl)) pgs_nil)))))
      (pss_cons (ps_expr (pe_bm PySem.F.plainAttrs_list PySem.F.slot_list_append PySem.F.type_list_append mt_append (pv 1) (pa_cons (pv 4) pa_nil)))
      (pss_one (ps_set (i := 3) scCt.nd rfl (.inl rfl) (pe_call GL hr (by rfl) DL.g DL.F.kp DL.b .nil pass0 (pa_cons (pv 0) (pa_cons (pv 2) (pa_cons (pv 5) pa_nil)))))))))
    (pss_one (ps_ret (pe_tup (pa_cons (pv 1) (pa_cons (pv 2) pa_nil))))))))), ?_⟩
  have hlz := TL.len_tl z
  refine q_when (et_lined (ev_var rfl) hz hl) (fun q => by cases q) (fun _ H0 e0 => ?_)
  refine q_asgL (el_lst ea_nil (by show (0 : Nat) ≤ 100000; decide)) fun D H1 hD e1 h1 => ?_
  have hD0 : H D = none := fresh_back e0 hD
  refine q_asg (v := .int ((0 : Nat) : Int)) ev_c fun H2 e2 => ?_
  refine q_asgC (sp := spLA) (dvs := []) (vs := [.str z, .int ((0 : Nat) : Int), .int ((0 : Nat) : Int)]) (ea_cons (ev_var rfl) (ea_cons ev_c (ea_cons ev_c ea_nil))) fun H3 e3 => ?_
  refine ⟨z, 0, 0, rfl, hz, Nat.zero_le _, hl, fun t H4 s4 o4 => ?_⟩
  obtain ⟨cs, hcs⟩ : ∃ cs, TL.tl z = cs := ⟨_, rfl⟩
  rw [hcs] at o4 hlz k
  refine q_while (fun m σ' H' => ∃ (p n : Nat) (t : Addr) (xs : List V) (us : List U) (x4 x5 : Option V), σ' = [some (.str z), some (.ref D), some (.int (p : Int)), some (.ref t), x4, x5] ∧ Ex H H' ∧ H' D = some (.lst xs) ∧ OdL H' xs us ∧ smL us ∧ Od H' (.ref t) (lnV (nxt cs p n)) ∧ p ≤ cs.length ∧ cs.length + 1 ≤ p + m ∧ us.length ≤ p ∧ (us ++ (cnt cs (cs.length + 1) p n).1, (cnt cs (cs.length + 1) p n).2) = cntT cs) (cs.length + 1)
    ⟨0, 0, t, [], [], none, none, rfl, (((e0.trans e1).trans e2).trans e3).trans s4, s4 _ _ (e3 _ _ (e2 _ _ h1)), .nil, trivial, o4, by omega, by omega, by simp, rfl⟩ ?_
  rintro m σ' H' ⟨p, n, t, xs, us, x4, x5, rfl, ex, hd, hod, hsm, ho, hp, hm, hu, hc⟩
  cases hn : nxt cs p n with
  | none =>
    rw [hn] at ho
    obtain ⟨_, e, ht⟩ := od_emp (show Od H' (.ref t) (.tup []) from ho)
    cases e
    refine ⟨false, et_tru (ev_var rfl) ht, (fun q => by cases q), fun _ H5 e5 => ?_⟩
    rw [cnt_end hn, List.append_nil] at hc
    refine s_retU (eu_tup (ea_cons (ev_var rfl) (ea_cons (ev_var rfl) ea_nil)) (by show (2 : Nat) ≤ 100000; decide)) fun t2 H6 ht2 e6 h6 => ?_
    have E6 := e5.trans e6
    refine k t2 D xs H6 (ex.trans E6) hD0 ?_ (E6 _ _ hd) ?_
    · rw [← hc]
      exact h6
    · rw [← hc]
      exact hod.ex E6
  | some r =>
    obtain ⟨b, p', n'⟩ := r
    have hlt := nxt_lt hn
    have hpl := nxt_pl hn
    rw [hn] at ho
    obtain ⟨_, vb, vp, vn, e, ht, ob, op, on⟩ := od_tri (show Od H' (.ref t) (.tup [b, .int (p' : Int), .int (n' : Int)]) from ho)
    cases e
    cases op
    cases on
    refine ⟨true, et_tru (ev_var rfl) ht, fun _ H5 e5 => ?_, (fun q => by cases q)⟩
    refine ⟨_, fun σ2 H6 hN => ⟨m - 1, by omega, hN⟩, ?_⟩
    refine ⟨_, rfl, t, _, rfl, st_of (e5 _ _ ht), rfl, vb, _, rfl, .int (p' : Int), _, rfl, .int (n' : Int), [], rfl, rfl, ?_⟩
    have hlen := OdL.length hod
    refine q_app (K := K) (e5 _ _ hd) (ev_var rfl) (ev_var rfl) (by omega) fun H6 e6 => ?_
    have e56 := e5.trans e6
    have hd6 := e56 _ _ hd
    have od6 : OdL H6 (xs ++ [vb]) (us ++ [b]) := OdL.append (hod.ex e56) (.cons (ob.ex e56) .nil)
    have sm6 : smL (us ++ [b]) := smL_append hsm ⟨sm_pl b hpl.1, trivial⟩
    have od7 : OdL (upd H6 D (.lst (xs ++ [vb]))) (xs ++ [vb]) (us ++ [b]) := OdL.tups (tups_upd hd6) od6 sm6
    have E7 : Ex H (upd H6 D (.lst (xs ++ [vb]))) := Ex.mut (ex.trans e56) hD0
    have hl7 : upd H6 D (.lst (xs ++ [vb])) D = some (.lst (xs ++ [vb])) := upd_same
    generalize upd H6 D (.lst (xs ++ [vb])) = H7 at od7 E7 hl7
    refine s_asgC (sp := spLA) (dvs := []) (vs := [.str z, .int (p' : Int), .int (n' : Int)]) (ea_cons (ev_var rfl) (ea_cons (ev_var rfl) (ea_cons (ev_var rfl) ea_nil))) fun H8 e8 => ?_
    refine ⟨z, p', n', rfl, hz, by omega, hl, fun t2 H9 s9 o9 => ?_⟩
    rw [hcs] at o9
    rw [cnt_step (by omega) hn] at hc
    exact ⟨p', n', t2, xs ++ [vb], us ++ [b], _, _, rfl, (E7.trans e8).trans s9, s9 _ _ (e8 _ _ hl7), od7.ex (e8.trans s9), sm6, o9, hlt.2.1, by omega, by rw [List.length_append, List.length_singleton]; omega, by rw [List.append_assoc]; exact hc⟩
def spLn : Sp := fun vs H Q _ => ∃ z : Str, vs = [.str z] ∧ z.length ≤ 90000 ∧ ln' (TL.tl z) = true ∧ ∀ (l : Addr) (xs : List V) (H' : Hp), Same H H' → H l = none → H' l = some (.lst xs) → OdL H' xs (cntT (TL.tl z)).1 → Q (.ref l) H'
theorem scLn : FnScope ["text"] ["text"] (defScope sLines) := ⟨rfl, rfl, rfl, by decide +kernel, rfl, by decide +kernel, by decide +kernel⟩
theorem ok_lines {f fC : Addr} {fd dC : FuncData} (F : Fun K "lines" "lines" sLines f fd) (DC : Df K mg "_counted" sCounted ["text"] fC dC) (GC : FnOk P w K mg base CX0 68 fC dC ["text"] spCt) : FnOk P w K mg base CX0 69 f fd ["text"] spLn := by
  refine F.ok scLn (fun vs H Q E h => ?_) (fun cdv A outer s H vs Q E hr h => ?_)
  · obtain ⟨z, rfl, _⟩ := h
    rfl
  obtain ⟨z, rfl, hz, hl, k⟩ := h
  refine ⟨_, pss_one (ps_ret (pe_ix ix_tup (pe_call GC hr (by rfl) DC.g DC.F.kp DC.b .nil pass0 (pa_cons (pv 0) pa_nil)) pe_int (fun _ _ => rfl))), ?_⟩
  refine s_retIxC (sp := spCt) (vs := [.str z]) (ea_cons (ev_var rfl) ea_nil) fun H1 e1 => ?_
  exact ⟨z, rfl, hz, hl, fun t l xs H' s' hl0 ht hl' ho => ⟨t, _, 0, .ref l, rfl, rfl, st_of ht, rfl, k l xs H' (e1.trans s') (fresh_back e1 hl0) hl' ho⟩⟩
def spRs : Sp := fun vs H Q _ => ∃ z : Str, vs = [.str z] ∧ z.length ≤ 90000 ∧ ln' (TL.tl z) = true ∧ ∀ H' : Hp, Same H H' → Q (.int ((cntT (TL.tl z)).2 : Int)) H'
theorem scRs : FnScope ["text"] ["text"] (defScope sRest) := ⟨rfl, rfl, rfl, by decide +kernel, rfl, by decide +kernel, by decide +kernel⟩
theorem ok_rest {f fC : Addr} {fd dC : FuncData} (F : Fun K "rest" "rest" sRest f fd) (DC : Df K mg "_counted" sCounted ["text"] fC dC) (GC : FnOk P w K mg base CX0 68 fC dC ["text"] spCt) : FnOk P w K mg base CX0 69 f fd ["text"] spRs := by
  refine F.ok scRs (fun vs H Q E h => ?_) (fun cdv A outer s H vs Q E hr h => ?_)
  · obtain ⟨z, rfl, _⟩ := h
    rfl
  obtain ⟨z, rfl, hz, hl, k⟩ := h
  refine ⟨_, pss_one (ps_ret (pe_ix ix_tup (pe_call GC hr (by rfl) DC.g DC.F.kp DC.b .nil pass0 (pa_cons (pv 0) pa_nil)) pe_int (fun _ _ => rfl))), ?_⟩
  refine s_retIxC (sp := spCt) (vs := [.str z]) (ea_cons (ev_var rfl) ea_nil) fun H1 e1 => ?_
  exact ⟨z, rfl, hz, hl, fun t l xs H' s' hl0 ht hl' ho => ⟨t, _, 1, _, rfl, rfl, st_of ht, rfl, k H' (e1.trans s')⟩⟩
end
end Ht
/-! k32: _generation, standing -/
namespace Ht
open PySem PySem.Spec PyProof.Rows L2 Hu Evl
abbrev sGener : Stmt := topS 43
abbrev sStand : Stmt := topS 44
theorem eqv_whole {b : U} (h : pl b) : PyData.eqv (pyd b) (.tuple [.str "whole"]) = wholeU b := by
  cases b with
  | non => rfl
  | int i => rfl
  | str z => rfl
  | tup us =>
    match us with
    | [] => rfl
    | [c] =>
      simp only [pl, plL, and_true] at h
      show (PyData.eqv (pyd c) (.str "whole") && true) = _
      rw [Bool.and_true]
      cases c with
      | non => rfl
      | int i => rfl
      | str z => rfl
      | tup us => rfl
      | bl _ => simp only [pl] at h
      | lst _ => simp only [pl] at h
      | dct _ => simp only [pl] at h
      | exc => simp only [pl] at h
    | c :: d :: us =>
      show (PyData.eqv (pyd c) (.str "whole") && false) = _
      rw [Bool.and_false]
      cases c <;> rfl
  | bl _ => simp only [pl] at h
  | lst _ => simp only [pl] at h
  | dct _ => simp only [pl] at h
  | exc => simp only [pl] at h
theorem eqv_area {a : U} (h : pl a) : PyData.eqv (pyd a) (.str "area") = isA a := by
  cases a with
  | non => rfl
  | int i => rfl
  | str z => rfl
  | tup us => rfl
  | bl _ => simp only [pl] at h
  | lst _ => simp only [pl] at h
  | dct _ => simp only [pl] at h
  | exc => simp only [pl] at h
theorem area_not {b : U} (h : pairU b = false) : areaOf b = none := by
  cases b with
  | tup us =>
    match us, h with
    | [], _ => rfl
    | [a], _ => rfl
    | [a, b], h => cases h
    | a :: b :: c :: us, _ => rfl
  | _ => rfl
/-- where the program's last entry stands -/
structure Wh (K : PySem.W.Frag) (mg : Str → Option Value) (a : Addr) : Prop where
  g : mg "WHOLE" = some (.ref a)
  s : ∀ H : Hp, SqT K H a [.str "whole"]
theorem dp_whole {K : PySem.W.Frag} {mg : Str → Option Value} {a : Addr} (h : Wh K mg a) (H : Hp) : Dp K H (.ref a) (.tuple [.str "whole"]) := .tup (h.s H) (.cons (.str _) .nil)
theorem ln_area : pl (.str "area") ∧ pl (.str "whole") := by
  constructor <;> (simp only [pl]; decide +kernel)
section
variable {P : Program} {w : World} {K : PySem.W.Frag} {mg : Str → Option Value} {base : Heap} {C aW : Addr}
def spGn : Sp := fun vs H Q _ => ∃ z : Str, vs = [.str z] ∧ z.length ≤ 90000 ∧ ln' (TL.tl z) = true ∧ ∀ H' : Hp, Same H H' → Q (oV (genU (cntT (TL.tl z)).1)) H'
theorem scGn : FnScope ["text", "line", "found", "entry", "behind", "number"] ["text"] (defScope sGener) := ⟨rfl, rfl, rfl, by decide +kernel, rfl, by decide +kernel, by decide +kernel⟩
theorem ok_gener {f fL fP fN : Addr} {fd dL dP dN : FuncData} (F : Fun K "_generation" "_generation" sGener f fd) (B : Bt mg) (W : Wh K mg aW) (DL : Df K mg "_line_at" sLineAt ["text", "place", "number"] fL dL) (GL : FnOk P w K mg base CX0 67 fL dL ["text", "place", "number"] spLA)
    (DP : Df K mg "is_pair" sPair ["thing"] fP dP) (GP : FnOk P w K mg base CX0 1 fP dP ["thing"] spPr) (DN : Df K mg "is_count" sCount ["thing"] fN dN) (GN : FnOk P w K mg base CX0 2 fN dN ["thing"] (spO cntU)) : FnOk P w K mg base CX0 68 f fd ["text"] spGn := by
  refine F.ok scGn (fun vs H Q E h => ?_) (fun cdv A outer s H vs Q E hr h => ?_)
  · obtain ⟨z, rfl, _⟩ := h
    rfl
  obtain ⟨z, rfl, hz, hl, k⟩ := h
  refine ⟨_, pss_cons (ps_set (i := 1) scGn.nd rfl (.inl rfl) (pe_call GL hr (by rfl) DL.g DL.F.kp DL.b .nil pass0 (pa_cons (pv 0) (pa_cons pe_int (pa_cons pe_int pa_nil)))))
    (pss_cons (ps_if (PW.pt (pw_or (pt_not (pt_truth (pv 1) fun _ => rfl))
        (pw_or (pt_not (pt_val (pe_call GP (hr.mono (by decide)) (by rfl) DP.g DP.F.kp DP.b .nil pass0 (pa_cons (pe_ix ix_tup (pv 1) pe_int (fun _ _ => rfl)) pa_nil))))
        (pw_or (pt_cmpR (op_neD hr.units) (pe_ix ix_tup (pe_ix ix_tup (pv 1) pe_int (fun _ _ => rfl)) pe_int (fun _ _ => rfl)) pe_str (nomark _))
        (pw_or1 (pt_not (pt_val (pe_call GN (hr.mono (by decide)) (by rfl) DN.g DN.F.kp DN.b .nil pass0 (pa_cons (pe_ix ix_tup (pe_ix ix_tup (pv 1) pe_int (fun _ _ => rfl)) pe_int (fun _ _ => rfl)) pa_nil)))))))))
      (pss_one (ps_ret pe_non)) pss_nil)
    (pss_cons (ps_set (i := 2) scGn.nd rfl (.inl rfl) (pe_ix ix_tup (pe_ix ix_tup (pv 1) pe_int (fun _ _ => rfl)) pe_int (fun _ _ => rfl)))
    (pss_cons (ps_while PassesOwn.never (pt_truth (pv 1) fun _ => rfl)
      (pss_cons (ps_asg (pv 1) (pg_tup rfl (pgs_cons (pg_name (i := 3) scGn.nd rfl (.inl rfl)) (pgs_cons (pg_name (i := 4) scGn.nd rfl (.inl rfl)) (pgs_cons (pg_name (i := 5) scGn.nd rfl (.inl rfl)) pgs_nil)))))
      (pss_cons (ps_if (pt_cmpR (op_eqD hr.units) (pv 3) (pe_glob (v := .ref aW) (by rfl) W.g rfl) (nomark _)) (pss_one (ps_ret (pv 2))) pss_nil)
      (pss_one (ps_set (i := 1) scGn.nd rfl (.inl rfl) (pe_call GL hr (by rfl) DL.g DL.F.kp DL.b .nil pass0 (pa_cons (pv 0) (pa_cons (pv 4) (pa_cons (pv 5) pa_nil)))))))))
    (pss_one (ps_ret pe_non))))), ?_⟩
  have hlz := TL.len_tl z
  refine q_asgC (sp := spLA) (dvs := []) (vs := [.str z, .int ((0 : Nat) : Int), .int ((0 : Nat) : Int)]) (ea_cons (ev_var rfl) (ea_cons ev_c (ea_cons ev_c ea_nil))) fun H1 e1 => ?_
  refine ⟨z, 0, 0, rfl, hz, Nat.zero_le _, hl, fun t H2 s2 o2 => ?_⟩
  obtain ⟨cs, hcs⟩ : ∃ cs, TL.tl z = cs := ⟨_, rfl⟩
  rw [hcs] at o2 hlz k
  have E2 := e1.trans s2
  show tSeq _ _ _ [some (.str z), some (.ref t), none, none, none, none] H2
  cases hn : nxt cs 0 0 with
  | none =>
    rw [hn] at o2
    obtain ⟨_, e, ht⟩ := od_emp (show Od H2 (.ref t) (.tup []) from o2)
    cases e
    refine q_when (b := true) (et_is (et_or (b := true) (et_not (et_tru (ev_var rfl) ht)) (fun q => by cases q)) rfl) (fun _ H3 e3 => ?_) (fun q => by cases q)
    refine s_ret ev_c fun H4 e4 => ?_
    have := k H4 ((E2.trans e3).trans e4)
    unfold cntT at this
    rw [cnt_end hn] at this
    exact this
  | some r =>
    obtain ⟨b, p', n'⟩ := r
    have hlt := nxt_lt hn
    have hpl := nxt_pl hn
    rw [hn] at o2
    obtain ⟨_, vb, vp, vn, e, ht, ob, op, on⟩ := od_tri (show Od H2 (.ref t) (.tup [b, .int (p' : Int), .int (n' : Int)]) from o2)
    cases e
    have hcn : (cntT cs).1 = b :: (cnt cs (cs.length + 1) p' n').1 := by
      unfold cntT
      rw [cnt_step (by omega) hn]
    have ix0 : ∀ {H' : Hp} {a2 a3 a4 a5 : Option V}, Ex H2 H' → Ev (tOp (rIxT K) (tVar 1) (tC (.int 0))) [some (.str z), some (.ref t), a2, a3, a4, a5] H' vb := fun e => ev_ixT (i := 0) (ev_var rfl) ev_c (e _ _ ht) rfl
    have evP : Ev (tCall spPr [] E0 (tCons (tOp (rIxT K) (tVar 1) (tC (.int 0))) tNil)) [some (.str z), some (.ref t), none, none, none, none] H2 (.bl (pairU b)) := ev_call (sp := spPr) (ea_cons (ix0 (Ex.refl _)) ea_nil) fun H5 e5 Q q E => ⟨vb, b, rfl, ob.ex e5, q⟩
    cases hpu : pairU b with
    | false =>
      rw [hpu] at evP
      refine q_when (b := true) (et_is (et_or (b := true) (et_not (et_tru (ev_var rfl) ht)) (fun _ => et_is (et_or (b := true) (et_not (et_B evP)) fun q => by cases q) rfl)) rfl) (fun _ H3 e3 => ?_) (fun q => by cases q)
      refine s_ret ev_c fun H4 e4 => ?_
      have := k H4 ((E2.trans e3).trans e4)
      rw [hcn, genU_none (area_not hpu)] at this
      exact this
    | true =>
      rw [hpu] at evP
      obtain ⟨a, c, rfl⟩ := pairU_inv hpu
      obtain ⟨pb, va, vc, rfl, hb, oa, oc⟩ := od_pair ob
      obtain ⟨h1, h2, h3⟩ := hpl
      have htc := tx_pair a c
      simp only [pl, plL] at h1
      simp only [dpt, dptL] at h2
      have bc : brd c := brd_tx c h1.2.1 (by omega)
      have ixc : ∀ {H' : Hp} {a2 a3 a4 a5 : Option V}, Ex H2 H' → Ev (tOp (rIxT K) (tOp (rIxT K) (tVar 1) (tC (.int 0))) (tC (.int 1))) [some (.str z), some (.ref t), a2, a3, a4, a5] H' vc := fun e => ev_ixT (i := 1) (ix0 e) ev_c (e _ _ hb) rfl
      refine q_when (b := !isA a || !cntU c) (et_is (et_or (b := !isA a || !cntU c) (et_not (et_tru (ev_var rfl) ht)) (fun _ => et_is (et_or (b := !isA a || !cntU c) (et_not (et_B evP)) fun _ =>
        et_or (et_test fun H5 e5 Q q => ev_ixT (i := 0) (ix0 (Ex.refl _)) ev_c hb rfl H5 e5 _ fun H6 e6 => ⟨pyd a, .str "area", od_dp (oa.ex (e5.trans e6)) (sm_pl a h1.1), .str _, pyd_shaped (sm_pl a h1.1) (by omega), by decide +kernel, by rw [eqv_area h1.1]; exact q H6 e6⟩)
          (fun _ => et_not (et_B (ev_O (g := cntU) (ixc (Ex.refl _)) oc bc)))) rfl)) rfl) (fun q H3 e3 => ?_) (fun q H3 e3 => ?_)
      · refine s_ret ev_c fun H4 e4 => ?_
        have := k H4 ((E2.trans e3).trans e4)
        rw [hcn, genU_none (by
          unfold areaOf
          dsimp only
          exact if_neg (fun z => by
            have z2 := Bool.and_eq_true_iff.mp z
            rw [z2.1, z2.2] at q
            cases q))] at this
        exact this
      · have qa : (isA a && cntU c) = true := by
          cases h5 : isA a <;> cases h6 : cntU c <;> rw [h5, h6] at q <;> first | rfl | cases q
        obtain ⟨kc, rfl⟩ : ∃ kc : Nat, c = .int (kc : Int) := by
          have := (Bool.and_eq_true_iff.mp qa).2
          cases c with
          | int i =>
            have h7 : 0 ≤ i := of_decide_eq_true this
            exact ⟨i.toNat, by congr 1; omega⟩
          | _ => cases this
        have hao : areaOf (.tup [a, .int (kc : Int)]) = some kc := by
          unfold areaOf
          dsimp only
          rw [if_pos qa]
          rfl
        cases oc
        refine q_asg (v := .int (kc : Int)) (ixc e3) fun H4 e4 => ?_
        obtain ⟨G, hG⟩ : ∃ G, (cntT cs).1.any wholeU = G := ⟨_, rfl⟩
        have hg : genU (cntT cs).1 = if G then some kc else none := by
          rw [← hG, hcn]
          rw [genU_some hao, List.any_cons, area_whole hao, Bool.false_or]
        rw [hg] at k
        refine q_while (fun m σ' H' => ∃ (p n : Nat) (t : Addr) (x3 x4 x5 : Option V), σ' = [some (.str z), some (.ref t), some (.int (kc : Int)), x3, x4, x5] ∧ Ex H H' ∧ Od H' (.ref t) (lnV (nxt cs p n)) ∧ p ≤ cs.length ∧ cs.length + 1 ≤ p + m ∧ (cnt cs (cs.length + 1) p n).1.any wholeU = G) (cs.length + 1)
          ⟨0, 0, t, none, none, none, rfl, (E2.trans e3).trans e4, by rw [hn]; exact o2.ex (e3.trans e4), by omega, by omega, hG⟩ ?_
        rintro m σ' H' ⟨p, n, t, x3, x4, x5, rfl, ex, ho, hp, hm, hc⟩
        cases hn2 : nxt cs p n with
        | none =>
          rw [hn2] at ho
          obtain ⟨_, e, ht⟩ := od_emp (show Od H' (.ref t) (.tup []) from ho)
          cases e
          refine ⟨false, et_tru (ev_var rfl) ht, (fun q => by cases q), fun _ H5 e5 => ?_⟩
          rw [cnt_end hn2] at hc
          refine s_ret ev_c fun H6 e6 => ?_
          have := k H6 ((ex.trans e5).trans e6)
          rw [← hc] at this
          exact this
        | some r =>
          obtain ⟨b2, p2, n2⟩ := r
          have hlt2 := nxt_lt hn2
          have hpl2 := nxt_pl hn2
          rw [hn2] at ho
          obtain ⟨_, vb2, vp2, vn2, e, ht2, ob2, op2, on2⟩ := od_tri (show Od H' (.ref t) (.tup [b2, .int (p2 : Int), .int (n2 : Int)]) from ho)
          cases e
          cases op2
          cases on2
          rw [cnt_step (by omega) hn2] at hc
          rw [List.any_cons] at hc
          refine ⟨true, et_tru (ev_var rfl) ht2, fun _ H5 e5 => ?_, (fun q => by cases q)⟩
          refine ⟨_, fun σ2 H6 hN => ⟨m - 1, by omega, hN⟩, ?_⟩
          refine ⟨_, rfl, t, _, rfl, st_of (e5 _ _ ht2), rfl, vb2, _, rfl, .int (p2 : Int), _, rfl, .int (n2 : Int), [], rfl, rfl, ?_⟩
          show tSeq (tIfS (tTest (tOp (rEqD K) (tVar 3) (tC (.ref aW)))) (tRet (tVar 2)) tNext) (tAsg (tCall spLA [] E0 (tCons (tVar 0) (tCons (tVar 4) (tCons (tVar 5) tNil)))) (gName 1)) _ [some (.str z), some (.ref t), some (.int (kc : Int)), some vb2, some (.int (p2 : Int)), some (.int (n2 : Int))] H5
          refine q_when (b := wholeU b2) (et_test fun H6 e6 Q q => ⟨vb2, rfl, pyd b2, .tuple [.str "whole"], od_dp (ob2.ex (e5.trans e6)) (sm_pl b2 hpl2.1), dp_whole W _, pyd_shaped (sm_pl b2 hpl2.1) (by omega), by decide +kernel, by rw [eqv_whole hpl2.1]; exact q H6 (Ex.refl _)⟩) (fun q H6 e6 => ?_) (fun q H6 e6 => ?_)
          · rw [q] at hc
            refine s_ret (ev_var rfl) fun H7 e7 => ?_
            have := k H7 (((ex.trans e5).trans e6).trans e7)
            rw [← hc] at this
            exact this
          · rw [q, Bool.false_or] at hc
            refine s_asgC (sp := spLA) (dvs := []) (vs := [.str z, .int (p2 : Int), .int (n2 : Int)]) (ea_cons (ev_var rfl) (ea_cons (ev_var rfl) (ea_cons (ev_var rfl) ea_nil))) fun H7 e7 => ?_
            refine ⟨z, p2, n2, rfl, hz, by omega, hl, fun t3 H8 s8 o8 => ?_⟩
            rw [hcs] at o8
            exact ⟨p2, n2, t3, _, _, _, rfl, (((ex.trans e5).trans e6).trans e7).trans s8, o8, hlt2.2.1, by omega, hc⟩
end
end Ht
/-! k32: standing; _law_check_on -/
namespace Ht
open PySem PySem.Spec PyProof.Rows L2 Hu Evl
/-- which area stands -/
def stN (g0 g1 : Option Nat) : Option Nat := match g0, g1 with
  | none, none => none
  | none, some _ => some 1
  | some _, none => some 0
  | some a, some b => if a < b then some 1 else some 0
section
variable {K : PySem.W.Frag} {σ : L2.St} {H : Hp} {te ta tb : TE} {v : V} {C : Addr} {d : DA} {ar : List Str} {E : XK}
theorem rv_isNon {v : V} : RV rIsN v .non H (.bl (decide (v = .non))) := fun H1 _ Q q => ⟨rfl, q H1 (Ex.refl H1)⟩
theorem rv_notNon {v : V} : RV rNotN v .non H (.bl (!decide (v = .non))) := fun H1 _ Q q => ⟨rfl, q H1 (Ex.refl H1)⟩
theorem no_area (al cl gl : Addr) : (dF al cl gl).lookup ("area" : Str) = none := dF_no _ _ _ (by decide +kernel) (by decide +kernel) (by decide +kernel)
theorem no_gen (al cl gl : Addr) : (dF al cl gl).lookup ("generation" : Str) = none := dF_no _ _ _ (by decide +kernel) (by decide +kernel) (by decide +kernel)
theorem ev_areaM {k : Nat} {a : Str} (D : DAt C H d ar) (h : Ev ta σ H (.ref d.p)) (hk : Ev tb σ H (.int (k : Int))) (ha : ar[k]? = some a) : Ev (tMeth C "area" (spArea C) [] E ta (tCons tb tNil)) σ H (.str a) := fun H1 e Q q =>
  h H1 e _ fun H2 e2 => ⟨d.p, d.dx, _, rfl, (e.trans e2) _ _ D.o, no_area _ _ _, (ea_cons hk ea_nil) H2 (e.trans e2) _ fun H3 e3 => ⟨d, ar, k, a, rfl, D.ex ((e.trans e2).trans e3), ha, fun H' s => q H' ((e2.trans e3).trans s)⟩⟩
end
theorem oV_non (o : Option Nat) : decide (oV o = .non) = o.isNone := by
  cases o with
  | none => exact decide_eq_true rfl
  | some k => exact decide_eq_false (fun h => by cases h)
section
variable {P : Program} {w : World} {K : PySem.W.Frag} {mg : Str → Option Value} {base : Heap} {C aW : Addr}
theorem ev_gen {σ : L2.St} {H : Hp} {te : TE} {E : XK} {z : Str} (h : Ev te σ H (.str z)) (hz : z.length ≤ 90000) (hl : ln' (TL.tl z) = true) : Ev (tCall spGn [] E (tCons te tNil)) σ H (oV (genU (cntT (TL.tl z)).1)) :=
  ev_call (ea_cons h ea_nil) fun H1 e Q q E => ⟨z, rfl, hz, hl, q⟩
/-! ### generation -/
def spGen (C : Addr) : Sp := fun vs H Q _ => ∃ (d : DA) (ar : List Str) (k : Nat) (a : Str), vs = [.ref d.p, .int (k : Int)] ∧ DAt C H d ar ∧ ar[k]? = some a ∧ ∀ H', KpD d H H' → DAt C H' d ar → Q (oV (genT a)) H'
theorem scGen : FnScope ["self", "k"] ["self", "k"] (defScope (sDk 3)) := ⟨rfl, rfl, rfl, by decide +kernel, rfl, by decide +kernel, by decide +kernel⟩
theorem ok_gen {f fG : Addr} {fd dG : FuncData} (F : Fun K "generation" "Disk.generation" (sDk 3) f fd) (T : Dk K mg C) (DG : Df K mg "_generation" sGener ["text"] fG dG) (GG : FnOk P w K mg base CX0 68 fG dG ["text"] spGn) : FnOk P w K mg base CX0 69 f fd ["self", "k"] (spGen C) := by
  refine F.ok scGen (fun vs H Q E h => ?_) (fun cdv A outer s H vs Q E hr h => ?_)
  · obtain ⟨d, ar, k, a, rfl, _⟩ := h
    rfl
  obtain ⟨d, ar, j, a, rfl, D, ha, k⟩ := h
  refine ⟨_, pss_cons (ps_if (pt_cmpR op_isN1 (pe_ix ix_list (pe_fld (pv 0) rfl) (pv 1) (fun _ _ => rfl)) pe_non (nomark _))
      (pss_one (ps_asg (pe_call GG hr (by rfl) DG.g DG.F.kp DG.b .nil pass0 (pa_cons (pe_ix ix_list (pe_fld (pv 0) rfl) (pv 1) (fun _ _ => rfl)) pa_nil)) (pg_sub (pe_fld (pv 0) rfl) (pv 1) set_list))) pss_nil)
    (pss_one (ps_ret (pe_ix ix_list (pe_fld (pv 0) rfl) (pv 1) (fun _ _ => rfl)))), ?_⟩
  have hj := lt2 D.r ha
  obtain ⟨gs, hg, qg⟩ := D.g
  have hl3 := qg.l
  obtain ⟨v, hv⟩ : ∃ v, gs[j]? = some v := ⟨_, List.getElem?_eq_getElem (by omega)⟩
  have hav := List.mem_of_getElem? ha
  have evG : ∀ {H' : Hp} {gs' : List V} {v' : V}, H' d.p = some (.ins C d.dx (dF d.al d.cl d.gl)) → H' d.gl = some (.lst gs') → gs'[j]? = some v' → Ev (tOp (rIxL K) (tFld K (tVar 0) "_generations") (tVar 1)) [some (.ref d.p), some (.int (j : Int))] H' v' := fun ho hg' hv' =>
    ev_op (ev_fld (ev_var rfl) ho T.cl T.nG (dF_gens _ _ _)) (ev_var rfl) (rv_ixL (sq_of hg') (atI_nat hv'))
  refine q_when (b := decide (v = .non)) (et_test (ev_op (evG D.o hg hv) ev_c rv_isNon)) (fun q H1 e1 => ?_) (fun q H1 e1 => ?_)
  · have D1 := D.ex e1
    refine q_setL (j := j) (e1 _ _ hg) (v := oV (genT a)) (ev_gen (ev_areaK T D1 (ev_var rfl) (ev_var rfl) ha) (D.r.sz a hav) (D.r.ln a hav)) (ev_gens T D1 (ev_var rfl)) (ev_var rfl) (by omega) fun H2 e2 => ?_
    have ho : upd H2 d.gl (.lst (gs.set j (oV (genT a)))) d.p = some (.ins C d.dx (dF d.al d.cl d.gl)) := by
      rw [upd_ne D.pg]
      exact e2 _ _ D1.o
    refine s_ret (evG ho upd_same (by rw [List.getElem?_set, if_pos rfl, if_pos (by omega)])) fun H3 e3 => ?_
    refine k H3 (((KpD.of_ex (e1.trans e2)).trans .upg).trans (.of_ex e3)) (DAt.ex ⟨ho, ?_, ?_, ⟨_, upd_same, qg.put ha⟩, D.n, D.r⟩ e3)
    · rw [upd_ne D.ag]
      exact e2 _ _ D1.a
    · rw [upd_ne D.n]
      exact e2 _ _ D1.c
  · have q := of_decide_eq_false q
    have hv2 : v = oV (genT a) := by
      rcases qg.g j v a hv ha with h | h
      · exact absurd h q
      · exact h
    refine s_ret (evG (e1 _ _ D.o) (e1 _ _ hg) hv) fun H2 e2 => ?_
    rw [hv2]
    exact k H2 (.of_ex (e1.trans e2)) (D.ex (e1.trans e2))
/-! ### standing -/
def spSt (C : Addr) : Sp := fun vs H Q _ => ∃ (d : DA) (z0 z1 : Str), vs = [.ref d.p] ∧ DAt C H d [z0, z1] ∧ ∀ H' : Hp, KpD d H H' → DAt C H' d [z0, z1] → Q (oV (stN (genU (cntT (TL.tl z0)).1) (genU (cntT (TL.tl z1)).1))) H'
theorem scSt : FnScope ["disk", "first", "second"] ["disk"] (defScope sStand) := ⟨rfl, rfl, rfl, by decide +kernel, rfl, by decide +kernel, by decide +kernel⟩
theorem ok_standing {f fA : Addr} {fd dA : FuncData} (F : Fun K "standing" "standing" sStand f fd) (T : Dk K mg C)
    (MA : Me K C "generation" "Disk.generation" (sDk 3) ["self", "k"] fA dA) (GA : FnOk P w K mg base CX0 69 fA dA ["self", "k"] (spGen C)) : FnOk P w K mg base CX0 70 f fd ["disk"] (spSt C) := by
  refine F.ok scSt (fun vs H Q E h => ?_) (fun cdv A outer s H vs Q E hr h => ?_)
  · obtain ⟨d, z0, z1, rfl, _⟩ := h
    rfl
  obtain ⟨d, z0, z1, rfl, D, k⟩ := h
  refine ⟨_, pss_cons (ps_set (i := 1) scSt.nd rfl (.inl rfl) (pe_meth (pv 0) T.cl MA.m GA hr MA.b .nil pass0 (pa_cons pe_int pa_nil)))
    (pss_cons (ps_set (i := 2) scSt.nd rfl (.inl rfl) (pe_meth (pv 0) T.cl MA.m GA hr MA.b .nil pass0 (pa_cons pe_int pa_nil)))
    (pss_cons (ps_if (PW.pt (pw_and (pt_cmpR op_isN1 (pv 1) pe_non (nomark _)) (pw_and1 (pt_cmpR op_isN1 (pv 2) pe_non (nomark _))))) (pss_one (ps_ret pe_non)) pss_nil)
    (pss_cons (ps_if (PW.pt (pw_or (pt_cmpR op_isN1 (pv 1) pe_non (nomark _)) (pw_or1 (PW.pt (pw_and (pt_cmpR op_notN1 (pv 2) pe_non (nomark _)) (pw_and1 (pt_cmpR op_gt (pv 2) (pv 1) (nomark _)))))))) (pss_one (ps_ret pe_int)) pss_nil)
    (pss_one (ps_ret pe_int))))), ?_⟩
  refine ⟨_, rfl, d.p, d.dx, _, rfl, D.o, no_gen _ _ _, d, [z0, z1], 0, z0, rfl, D, rfl, fun H1 x1 D1 => ?_⟩
  refine ⟨_, rfl, d.p, d.dx, _, rfl, D1.o, no_gen _ _ _, d, [z0, z1], 1, z1, rfl, D1, rfl, fun H2 x2 D2 => ?_⟩
  generalize hg0 : genU (cntT (TL.tl z0)).1 = g0 at k
  generalize hg1 : genU (cntT (TL.tl z1)).1 = g1 at k
  have hg0' : genT z0 = g0 := hg0
  have hg1' : genT z1 = g1 := hg1
  rw [hg0', hg1']
  have X2 := x1.trans x2
  have fin : ∀ {H' : Hp}, Ex H2 H' → Q (oV (stN g0 g1)) H' := fun e => k _ (X2.trans (.of_ex e)) (D2.ex e)
  clear k
  show tSeq _ _ _ [some (.ref d.p), some (oV g0), some (oV g1)] H2
  refine q_when (b := g0.isNone && g1.isNone) (et_and (et_is (et_test (ev_op (ev_var rfl) ev_c rv_isNon)) (oV_non g0)) fun _ => et_is (et_test (ev_op (ev_var rfl) ev_c rv_isNon)) (oV_non g1)) (fun q H3 e3 => ?_) (fun qa H3 e3 => ?_)
  · cases g0 with
    | some a => cases q
    | none => cases g1 with
      | some b => cases q
      | none => exact s_ret ev_c fun H4 e4 => fin (e3.trans e4)
  · refine q_when (b := g0.isNone || (!g1.isNone && (match g0, g1 with | some a, some b => decide ((b : Int) > (a : Int)) | _, _ => false))) (et_or (et_is (et_test (ev_op (ev_var rfl) ev_c rv_isNon)) (oV_non g0)) fun q0 => et_and (et_is (et_test (ev_op (ev_var rfl) ev_c rv_notNon)) (by rw [oV_non])) fun q1 => ?_) (fun q H4 e4 => ?_) (fun q H4 e4 => ?_)
    · cases g0 with
      | none => cases q0
      | some a => cases g1 with
        | none => cases q1
        | some b => exact et_test (ev_op (ev_var rfl) (ev_var rfl) rv_I0)
    · refine s_ret (v := .int ((1 : Nat) : Int)) ev_c fun H5 e5 => ?_
      have := fin ((e3.trans e4).trans e5)
      cases g0 with
      | none => cases g1 with
        | none => cases qa
        | some b => exact this
      | some a => cases g1 with
        | none => cases q
        | some b =>
          have q : (b : Int) > (a : Int) := of_decide_eq_true q
          have e : stN (some a) (some b) = some 1 := if_pos (by omega)
          rw [e] at this
          exact this
    · refine s_ret (v := .int ((0 : Nat) : Int)) ev_c fun H5 e5 => ?_
      have := fin ((e3.trans e4).trans e5)
      cases g0 with
      | none => cases q
      | some a => cases g1 with
        | none => exact this
        | some b =>
          have q : ¬ (b : Int) > (a : Int) := of_decide_eq_false q
          have e : stN (some a) (some b) = some 0 := if_neg (by omega)
          rw [e] at this
          exact this
/-! ### _law_check_on -/
theorem ckO_snoc (n m : Nat) (l : List Nat) (c : Nat) : ckO n m (l ++ [c]) = (ckO n m l + (m + l.length + 1) * wt c) % 99991 := by
  unfold ckO
  rw [ckS_app]
  simp only [ckS, Nat.add_zero]
  rw [Nat.mod_add_mod, Nat.mul_comm (wt c), Nat.add_right_comm m 1 l.length, Nat.add_assoc n]
def spLK : Sp := fun vs H Q _ => ∃ (n m : Nat) (z : Str), vs = [.int (n : Int), .int (m : Int), .str z] ∧ n < 99991 ∧ m ≤ 200000 ∧ z.length ≤ 90000 ∧ ln' (TL.tl z) = true ∧ ∀ H', Same H H' → Q (.int (ckO n m (TL.tl z) : Int)) H'
end
end Ht
/-! k32: _law_line -/
namespace Ht
open PySem PySem.Spec PyProof.Rows L2 Hu Evl
def liU (r : Option (Int × U)) : U := match r with | some (i, b) => .tup [.int i, b] | none => .non
def isI (a : U) : Bool := match a with | .int _ => true | _ => false
theorem lnU_no {l : List Nat} (h : unT l = []) : lnU l = none := by
  unfold lnU
  rw [h]
theorem lnU_np {l : List Nat} {u : U} (h : unT l = [u]) (hp : pairU u = false) : lnU l = none := by
  cases hl : lnU l with
  | none => rfl
  | some ib =>
    have := lnU_some hl
    rw [h] at this
    cases this
    cases hp
theorem lnU_ni {l : List Nat} {a b : U} (h : unT l = [.tup [a, b]]) (hp : isI a = false) : lnU l = none := by
  cases hl : lnU l with
  | none => rfl
  | some ib =>
    have := lnU_some hl
    rw [h] at this
    cases this
    cases hp
theorem lnU_yes {l : List Nat} {i : Int} {b : U} (h : unT l = [.tup [.int i, b]]) : lnU l = some (i, b) := by
  unfold lnU
  rw [h]
theorem isT_int {a : U} (h : pl a) : isT a "int" = isI a := by
  cases a with
  | bl _ => simp only [pl] at h
  | _ => simp [isT, isS, tyU, isI]
theorem od_thing {H : Hp} {t : Addr} {u : U} (h : Od H (.ref t) (toU (.inl u))) : ∃ v, H t = some (.tup [.str "thing", v]) ∧ Od H v u := by
  obtain ⟨p, va, vb, e, h1, h2, h3⟩ := od_pair (a := .str "thing") (b := u) h
  cases e
  cases h2
  exact ⟨_, h1, h3⟩
theorem od_wrong {H : Hp} {t : Addr} {i : Int} (h : Od H (.ref t) (toU (.inr i))) : H t = some (.tup [.str "wrong", .int i]) := by
  obtain ⟨p, va, vb, e, h1, h2, h3⟩ := od_pair (a := .str "wrong") (b := .int i) h
  cases e
  cases h2
  cases h3
  exact h1
theorem lits : (decide (V.str "thing" = V.str "thing") = true) ∧ (decide (V.str "wrong" = V.str "thing") = false) := by decide +kernel
section
variable {P : Program} {w : World} {K : PySem.W.Frag} {mg : Str → Option Value} {base : Heap} {C : Addr}
end
end Ht
/-! k32: _law_counted -/
namespace Ht
open PySem PySem.Spec PyProof.Rows L2 Hu Evl
theorem mt_indexN {X : Cx} : MtR X "str.index" (fun x xs H Q => ∃ (a b : Str) (i : Int) (k : Nat) (rest : List Nat), x = .str a ∧ xs = [.str b, .int i] ∧ Builtin.Str.occurrences a b (PySem.fromIndex a.length i) a.length 1 = k :: rest ∧ Q (.int (k : Nat)) H) := by
  intro pins s σ H x xs v us Q I rx rs h
  obtain ⟨a, b, i, k, rest, rfl, rfl, ho, h⟩ := h
  obtain ⟨t, rfl⟩ := rx
  cases rs with
  | cons r1 rs =>
    cases rs with
    | cons r2 rs =>
      cases rs
      obtain ⟨u, rfl⟩ := r1
      obtain ⟨z, rfl⟩ := r2
      exact call_gives PySem.F.slot_str_index (typeIs_str _ _ _) PySem.F.entry_str_index (PySem.F.args_str_index_3 _ _ _) (gives_str_index_from a b i t u z k rest ho) ⟨.int (k : Nat), H, I.tok _, ⟨_, rfl⟩, h⟩
theorem cut_tlE {z : Str} {a : Nat} (ha : a ≤ z.length) : TL.tl (cutS z (some (a : Int)) none) = (TL.tl z).drop a := by
  show ((z.cps.toList.drop (HT.sIx z.length 0 (some (a : Int)))).take (HT.sIx z.length z.length none - HT.sIx z.length 0 (some (a : Int)))) = _
  rw [HT.sIx_nat, Nat.min_eq_left ha]
  show (z.cps.toList.drop a).take (z.length - a) = _
  refine List.take_of_length_le ?_
  rw [List.length_drop]
  exact Nat.le_of_eq (by rw [TL.len_tl])
theorem eol_mem {l : List Nat} {p : Nat} : decide (10 ∈ l.drop p) = (eol l p).isSome := by
  unfold eol
  by_cases h : 10 ∈ l.drop p
  · rw [if_pos h, decide_eq_true h]
    rfl
  · rw [if_neg h, decide_eq_false h]
    rfl
theorem seg_one {l : List Nat} {p e : Nat} (hp : p ≤ e) (he : l[e]? = some 10) : (l.drop p).take (e + 1 - p) = (l.drop p).take (e - p) ++ [10] := by
  rw [show e + 1 - p = e - p + 1 by omega, List.take_add_one, List.getElem?_drop, show p + (e - p) = e by omega, he]
  rfl
theorem ckO_nl (n p : Nat) (l : List Nat) : ckO n p (l ++ [10]) = ckO n p l := by
  rw [ckO_snoc, show wt 10 = 0 by rfl, Nat.mul_zero, Nat.add_zero]
  exact Nat.mod_eq_of_lt (Nat.mod_lt _ (by decide))
section
variable {P : Program} {w : World} {K : PySem.W.Frag} {mg : Str → Option Value} {base : Heap} {C : Addr}
end
end Ht
/-! k32: _law_lines -/
namespace Ht
open PySem PySem.Spec PyProof.Rows L2 Hu Evl
/-- an entry as the law draws it -/
def eok (u : U) : Prop := pl u ∧ dpt u ≤ 29 ∧ ln u ≤ 400
theorem pr_Sl {u : U} (h : pl u) : pr (Sl u) := by
  intro c hc
  unfold Sl at hc
  rcases List.mem_append.mp hc with hc | hc
  · exact pr_tx u h c hc
  · rcases List.mem_cons.mp hc with rfl | hc
    · decide
    · exact pr_num _ c hc
section
variable {P : Program} {w : World} {K : PySem.W.Frag} {mg : Str → Option Value} {base : Heap} {C : Addr}
theorem od_get {H : Hp} : ∀ {us : List U} {vs : List V} {i : Nat} {v : V}, OdL H vs us → vs[i]? = some v → ∃ u, us[i]? = some u ∧ Od H v u
  | _, _, _, _, .nil, e => by simp at e
  | _, _, 0, _, .cons x l, e => by
    have := Option.some.inj e
    subst this
    exact ⟨_, rfl, x⟩
  | _, _, i + 1, _, .cons x l, e => od_get (i := i) l e
theorem lnS_app {a b : Str} (ha : ln' (TL.tl a) = true) (hb : ln' (TL.tl b) = true) : ln' (TL.tl (a ++ b)) = true := by
  rw [TL.tl_append]
  exact ln_app ha hb
end
end Ht
/-! k32: _law_generation -/
namespace Ht
open PySem PySem.Spec PyProof.Rows L2 Hu Evl
theorem cnt_pl {l : List Nat} : ∀ f p n, plL (cnt l f p n).1 ∧ dptL (cnt l f p n).1 ≤ 29
  | 0, p, n => ⟨trivial, Nat.zero_le _⟩
  | f + 1, p, n => by
    cases h : nxt l p n with
    | none =>
      rw [cnt_end h]
      exact ⟨trivial, Nat.zero_le _⟩
    | some r =>
      obtain ⟨b, p', n'⟩ := r
      have h1 := nxt_pl h
      have h2 := cnt_pl (l := l) f p' n'
      rw [cnt, h]
      dsimp only
      simp only [plL, dptL]
      exact ⟨⟨h1.1, h2.1⟩, by omega⟩
theorem shl {us : List U} (h : plL us) (hd : dptL us ≤ 40) : SeqAt.shaped (.list (pyds us)) = true := by
  obtain ⟨a, b⟩ := pyds_can us (smL_pl us h)
  show ((PyData.list (pyds us)).canLay0 && decide ((PyData.list (pyds us)).depth ≤ 64)) = true
  simp only [PyData.canLay0, PyData.depth, a, b, Bool.true_and]
  exact decide_eq_true (by omega)
theorem any_whole : ∀ {us : List U}, plL us → ((pyds us).any fun z => PyData.eqv z (.tuple [.str "whole"])) = us.any wholeU
  | [], _ => rfl
  | u :: us, h => by
    show (PyData.eqv (pyd u) _ || (pyds us).any _) = _
    rw [eqv_whole h.1, any_whole h.2, List.any_cons]
theorem od_drop {H : Hp} : ∀ {us : List U} {vs : List V} (n : Nat), OdL H vs us → OdL H (vs.drop n) (us.drop n)
  | _, _, 0, l => l
  | _, _, _ + 1, .nil => .nil
  | _, _, n + 1, .cons x l => od_drop n l
theorem u65 {k : Nat} {A : Around} (r : Room k A) : A.units + 65 < cLine := by have := r.un; omega
theorem cut_one (xs : List V) : cutV xs (some 1) none = xs.drop 1 := by
  unfold cutV
  rw [show HT.sIx xs.length 0 (some 1) = min 1 xs.length from HT.sIx_nat _ _ 1]
  show (xs.drop (min 1 xs.length)).take (xs.length - min 1 xs.length) = _
  cases xs with
  | nil => rfl
  | cons x xs =>
    rw [Nat.min_eq_left (by simp)]
    refine List.take_of_length_le ?_
    rw [List.length_drop]
    exact Nat.le_refl _
section
variable {P : Program} {w : World} {K : PySem.W.Frag} {mg : Str → Option Value} {base : Heap} {C : Addr}
section
variable {σ : L2.St} {H : Hp} {te to ti : TE} {ta : TA} {D : Ends} {sp : Sp} {dvs vs : List V} {E : XK}
theorem q_asgIxC {i : Int} {j : Nat} {tz : TS} (h : EvA ta σ H vs) (k : ∀ H1, Ex H H1 → sp (vs ++ dvs) H1 (fun x H2 => rIxT K x (.int i) H2 fun v H3 => tz D (σ.set j (some v)) H3) E) : tSeq (tAsg (tOp (rIxT K) (tCall sp dvs E ta) (tC (.int i))) (gName j)) tz D σ H := h H (Ex.refl H) _ fun H1 e => k H1 e
theorem plL_drop : ∀ {us : List U} (n : Nat), plL us → plL (us.drop n)
  | _, 0, h => h
  | [], _ + 1, h => h
  | _ :: _, n + 1, h => plL_drop n h.2
theorem dptL_drop : ∀ {us : List U} (n : Nat), dptL (us.drop n) ≤ dptL us
  | _, 0 => Nat.le_refl _
  | [], _ + 1 => Nat.le_refl _
  | _ :: us, n + 1 => by
    have := dptL_drop (us := us) n
    simp only [List.drop_succ_cons, dptL]
    omega
theorem et_nil {l : Addr} {xs : List V} {us : List U} (h : Ev te σ H (.ref l)) (hl : H l = some (.lst xs)) (o : OdL H xs us) (p : plL us) (d : dptL us ≤ 40) : EvT (tTest (tOp (rEqD K) te (tLst tNil))) σ H us.isEmpty := et_test fun H1 e Q q =>
  h H1 e _ fun H2 e2 => el_lst ea_nil (by show (0 : Nat) ≤ 100000; decide) H2 (e.trans e2) _ fun p' H3 hp e3 h3 => ⟨.list (pyds us), .list [], .lst (sq_of (((e.trans e2).trans e3) _ _ hl)) (odl_dp (o.ex ((e.trans e2).trans e3)) (smL_pl us p)), .lst (sq_of h3) .nil, shl p d, by decide +kernel, by
    have : PyData.eqv (.list (pyds us)) (.list []) = us.isEmpty := by cases us <;> rfl
    rw [this]
    exact q H3 (e2.trans e3)⟩
theorem et_nowhole {l : Addr} {xs : List V} {us : List U} (h : Ev te σ H (.ref l)) (hl : H l = some (.lst xs)) (o : OdL H xs us) (p : plL us) (d : dptL us ≤ 40) : EvT (tTest (tOp (rNotInD K) (tTup (tCons (tC (.str "whole")) tNil)) (tSl (rSlL K) te (tPart (tC (.int 1))) tNoPart))) σ H (!(us.drop 1).any wholeU) := et_test fun H1 e Q q =>
  eu_tup (ea_cons ev_c ea_nil) (by show (1 : Nat) ≤ 100000; decide) H1 e _ fun t H2 ht e2 h2 => (el_sl (K := K) (te := te) (xs := xs) h (eo_some ev_c) eo_none (sq_of hl)) H2 (e.trans e2) _ fun p' H3 hp e3 h3 => ⟨.tuple [.str "whole"], pyds (us.drop 1), .tup (st_of (e3 _ _ h2)) (.cons (.str _) .nil), .lst (sq_of (h3.trans (by rw [cut_one]))) (odl_dp (od_drop 1 (o.ex ((e.trans e2).trans e3))) (smL_pl _ (plL_drop 1 p))), by decide +kernel, shl (plL_drop 1 p) (Nat.le_trans (dptL_drop 1) d), by
    rw [any_whole (plL_drop 1 p)]
    exact q H3 (e2.trans e3)⟩
end
end
end Ht
/-! k32: _law_stands, _law_greater -/
namespace Ht
open PySem PySem.Spec PyProof.Rows L2 Hu Evl
section
variable {K : PySem.W.Frag} {σ : L2.St} {H : Hp} {te tl : TE} {t : TT}
theorem et_yes : EvT tYes σ H true := fun H1 _ Q q => q H1 (Ex.refl H1)
/-- [te for name in (a, b, ..) if t]: the tuple is made on the way -/
theorem el_lcNT {ys : List V} {n : Nat} {ws : List Nat} (c : Nat → Bool) (r : Nat → V) (made : EvU tl σ H ys) (few : ys.length ≤ 40000) (own : ∀ y, wipe ((wipe σ ws).set n (some y)) ws = wipe σ ws)
    (test : ∀ (k : Nat) (y : V) G, Ex H G → ys[k]? = some y → EvT t ((wipe σ ws).set n (some y)) G (c k))
    (item : ∀ (k : Nat) (y : V) G, Ex H G → ys[k]? = some y → c k = true → Ev te ((wipe σ ws).set n (some y)) G (r k)) : EvL (tLc (iTup K tl) (gName n) t te ws) σ H (given ys.length c r) := by
  intro G0 x0 W fin
  refine made G0 x0 _ fun p G1 _ x1 hp => ⟨p, rfl, ⟨ys, st_of hp⟩, fun l hl => ?_⟩
  have x01 := x0.trans x1
  refine lc_tup (xs := ys) (Cw G1 c r l) ⟨hl, Ex.new hl, upd_same⟩ (fun _ G _ w => st_of (w.2.1 p _ hp)) (fun k y G hy w => ⟨own y, ?_⟩) fun G w => ?_
  · have lt := (List.getElem?_eq_some_iff.mp hy).1
    exact cw_turn w (by omega) (test k y G1 x01 hy) (item k y G1 x01 hy)
  · exact fin l G (fresh_back x1 w.1) (x1.trans w.2.1) w.2.2
end
/-- the areas that stand -/
def smL2 (g0 g1 : Option Nat) : List V := (if g0.isSome then [V.int 0] else []) ++ (if g1.isSome then [V.int 1] else [])
section
variable {P : Program} {w : World} {K : PySem.W.Frag} {mg : Str → Option Value} {base : Heap} {C : Addr}
theorem et_nilI {σ : L2.St} {H : Hp} {te : TE} {l : Addr} {xs : List V} {ds : List PyData} (h : Ev te σ H (.ref l)) (hl : H l = some (.lst xs)) (o : ∀ H', DpAll K H' xs ds) (hs : SeqAt.shaped (.list ds) = true) : EvT (tTest (tOp (rEqD K) te (tLst tNil))) σ H ds.isEmpty := et_test fun H1 e Q q =>
  h H1 e _ fun H2 e2 => el_lst ea_nil (by show (0 : Nat) ≤ 100000; decide) H2 (e.trans e2) _ fun p' H3 hp e3 h3 => ⟨.list ds, .list [], .lst (sq_of (((e.trans e2).trans e3) _ _ hl)) (o H3), .lst (sq_of h3) .nil, hs, by decide +kernel, by
    have : PyData.eqv (.list ds) (.list []) = ds.isEmpty := by cases ds <;> rfl
    rw [this]
    exact q H3 (e2.trans e3)⟩
end
end Ht
/-! k32: drawn data; _law_entry -/
namespace Ht
open PySem PySem.Spec PyProof.Rows L2 Hu Evl
def M (d n : Nat) (u : U) : Prop := pl u ∧ dpt u ≤ d ∧ ln u ≤ n
def MS (d n : Nat) (us : List U) : Prop := plL us ∧ dptL us ≤ d ∧ lnL us ≤ n
def LA (k : Nat) (us : List U) : Prop := plL us ∧ (∀ u ∈ us, eok u) ∧ us.length = k
theorem Well.ntup {wl : WA} {H : Hp} (W : Well H wl) {a : Addr} {xs : List V} (h : H a = some (.tup xs)) : a ≠ wl.w := fun e => by
  obtain ⟨cells, pos, rest, mix, cnt, h1, _⟩ := W.ex
  rw [e, h1] at h
  cases h
theorem Od.dr {wl : WA} {H H' : Hp} {v : V} {u : U} (W : Well H wl) (D : Drawn wl H H') (o : Od H v u) (p : pl u) : Od H' v u := o.tups (fun a xs h => D.keep a _ (W.ntup h) h) (sm_pl u p)
theorem OdL.dr {wl : WA} {H H' : Hp} {vs : List V} {us : List U} (W : Well H wl) (D : Drawn wl H H') (o : OdL H vs us) (p : plL us) : OdL H' vs us := o.tups (fun a xs h => D.keep a _ (W.ntup h) h) (smL_pl us p)
theorem od_mem {H : Hp} : ∀ {us : List U} {vs : List V} {v : V}, OdL H vs us → v ∈ vs → ∃ u, u ∈ us ∧ Od H v u
  | _, _, _, .cons x l, .head _ => ⟨_, List.mem_cons_self .., x⟩
  | _, _, _, .cons x l, .tail _ h => by
    obtain ⟨u, h1, h2⟩ := od_mem l h
    exact ⟨u, List.mem_cons_of_mem _ h1, h2⟩
def EE (wl : WA) (te : TE) (σ : L2.St) (H : Hp) (P : U → Prop) : Prop := ∀ H1, Drawn wl H H1 → ∀ Q : VK, (∀ v u H2, Drawn wl H1 H2 → Od H2 v u → P u → Q v H2) → te σ H1 Q
def EA (wl : WA) (ta : TA) (σ : L2.St) (H : Hp) (P : List U → Prop) : Prop := ∀ H1, Drawn wl H H1 → ∀ Q : List V → Hp → Prop, (∀ vs us H2, Drawn wl H1 H2 → OdL H2 vs us → P us → Q vs H2) → ta σ H1 Q
section
variable {wl : WA} {σ : L2.St} {H : Hp} {te tl : TE} {ta tr : TA} {d d' n m k : Nat} {K : PySem.W.Frag} {E : XK} {D : Ends} {tz : TS} {i : Nat}
theorem ee_var {v : V} {u : U} (h : σ[i]? = some (some v)) (o : Od H v u) (W : Well H wl) (p : M d n u) : EE wl (tVar i) σ H (M d n) := fun H1 D Q q => ⟨v, h, q v u H1 (.refl D.well) (o.dr W D p.1) p⟩
theorem ee_c {v : V} {u : U} (o : ∀ H, Od H v u) (p : M d n u) : EE wl (tC v) σ H (M d n) := fun H1 D Q q => q v u H1 (.refl D.well) (o H1) p
theorem ee_ev {v : V} {u : U} (h : ∀ H, Ev te σ H v) (o : ∀ H, Od H v u) (p : M d n u) : EE wl te σ H (M d n) := fun H1 D Q q => h H1 H1 (Ex.refl _) _ fun H2 e => q v u H2 ((Drawn.refl D.well).same e) (o H2) p
theorem ea_nilD : EA wl tNil σ H (MS 0 0) := fun H1 D Q q => q [] [] H1 (.refl D.well) .nil ⟨trivial, Nat.le_refl _, Nat.le_refl _⟩
theorem ea_consD (h : EE wl te σ H (M d n)) (hr : EA wl tr σ H (MS d' m)) : EA wl (tCons te tr) σ H (MS (max d d') (n + 1 + m)) := fun H1 D Q q => h H1 D _ fun v u H2 D2 o p => hr H2 (D.trans D2) _ fun vs us H3 D3 os ps => q (v :: vs) (u :: us) H3 (D2.trans D3) (.cons (o.dr D2.well D3 p.1) os) ⟨⟨p.1, ps.1⟩, by
  have h1 := p.2.1
  have h2 := ps.2.1
  simp only [dptL]
  omega, by
  have h1 := p.2.2
  have h2 := ps.2.2
  simp only [lnL]
  omega⟩
theorem ee_tupD (h : EA wl ta σ H (MS d n)) (hn : n ≤ 100000) : EE wl (tTup ta) σ H (M (d + 1) (n + 2)) := fun H1 D Q q => h H1 D _ fun vs us H2 D2 os ps => ⟨sz_of (by
  have h1 := OdL.length os
  have h2 := lnL_len us
  have h3 := ps.2.2
  omega), fun p hp => q (.ref p) (.tup us) _ (D2.new hp) (.tup upd_same (os.ex (Ex.new hp))) ⟨by simpa only [pl] using ps.1, by
  have := ps.2.1
  simp only [dpt]
  omega, by
  have := ps.2.2
  simp only [ln]
  omega⟩⟩
theorem la_nil : EA wl tNil σ H (LA 0) := fun H1 D Q q => q [] [] H1 (.refl D.well) .nil ⟨trivial, fun u h => (by cases h), rfl⟩
theorem la_cons (h : EE wl te σ H (M d n)) (hr : EA wl tr σ H (LA k)) (hd : d ≤ 4) (hn : n ≤ 400) : EA wl (tCons te tr) σ H (LA (k + 1)) := fun H1 D Q q => h H1 D _ fun v u H2 D2 o p => hr H2 (D.trans D2) _ fun vs us H3 D3 os ps => q (v :: vs) (u :: us) H3 (D2.trans D3) (.cons (o.dr D2.well D3 p.1) os) ⟨⟨p.1, ps.1⟩, fun u' hu => by
  rcases List.mem_cons.mp hu with rfl | hu
  · exact ⟨p.1, Nat.le_trans p.2.1 (Nat.le_trans hd (by decide)), Nat.le_trans p.2.2 hn⟩
  · exact ps.2.1 u' hu, by rw [List.length_cons, ps.2.2]⟩
theorem ee_any {xs : List V} (hv : σ[0]? = some (some (.ref wl.w))) (el : ∀ H, EvL tl σ H xs) (hx : ∀ x ∈ xs, ∃ i : Int, x = .int i ∧ i.natAbs < 10 ^ 30) (l1 : 1 ≤ xs.length) (l2 : xs.length ≤ 1000) : EE wl (tCall spAnyL [] E (tCons (tVar 0) (tCons tl tNil))) σ H (M 0 32) := fun H1 D Q q =>
  ⟨_, hv, el H1 H1 (Ex.refl _) _ fun L H2 hL e2 h2 => ⟨wl, L, xs, rfl, D.well.same e2, h2, (D.well.ne hL).1, l1, l2, fun x H3 hm D3 => by
    obtain ⟨i, rfl, hi⟩ := hx x hm
    exact q _ (.int i) H3 (((Drawn.refl D.well).same e2).trans D3) (.int i) ⟨by simpa only [pl] using hi, by simp only [dpt]; omega, by simp only [ln]; omega⟩⟩⟩
theorem ee_thing (hv : σ[0]? = some (some (.ref wl.w))) : EE wl (tCall (spThing 0 2) [] E (tCons (tVar 0) (tCons (tC (.int 2)) tNil))) σ H (M 2 380) := fun H1 D Q q =>
  ⟨_, hv, wl, rfl, D.well, fun v u H2 D2 hat p l d => q v u H2 D2 (od_at (hat.keep fun b o _ h => (fr_new h).2) p) ⟨p, d, l⟩⟩
theorem q_asgEE {P : U → Prop} (h : EE wl te σ H P) (W : Well H wl) (k : ∀ v u H1, Drawn wl H H1 → Od H1 v u → P u → tz D (σ.set i (some v)) H1) : tSeq (tAsg te (gName i)) tz D σ H := h H (.refl W) _ fun v u H1 D o p => k v u H1 D o p
theorem q_asgLA (h : EA wl ta σ H (LA n)) (W : Well H wl) (hn : n ≤ 1000) (k : ∀ p vs us H1, H p = none → Drawn wl H H1 → H1 p = some (.lst vs) → OdL H1 vs us → LA n us → tz D (σ.set i (some (.ref p))) H1) : tSeq (tAsg (tLst ta) (gName i)) tz D σ H :=
  h H (.refl W) _ fun vs us H1 D1 os la => ⟨sz_of (by
    have := OdL.length os
    have := la.2.2
    omega), fun p hp => k p vs us _ (D1.free W hp) (D1.new hp) upd_same (os.ex (Ex.new hp)) la⟩
theorem q_extLA {l : Addr} {xs : List V} (hv : σ[i]? = some (some (.ref l))) (hl : H l = some (.lst xs)) (hx : xs.length ≤ 1000) (nl : l ≠ wl.w) (h : EA wl ta σ H (LA n)) (W : Well H wl) (hn : n ≤ 1000) (k : ∀ L2 ys vs H3, Drawn wl H H3 → OdL H3 ys vs → LA n vs → H3 L2 = none → H3 l = some (.lst xs) → tz D σ (upd (upd H3 L2 (.lst ys)) l (.lst (xs ++ ys)))) :
    tSeq (tDrop (tBM K "list" rExtend (tVar i) (tCons (tLst ta) tNil))) tz D σ H :=
  ⟨_, hv, .inl ⟨rfl, _, SqL.of hl⟩, h H (.refl W) _ fun ys vs H3 D3 os la => ⟨sz_of (by
    have := OdL.length os
    have := la.2.2
    omega), fun L2 hL2 => by
    have h3 : H3 l = some (.lst xs) := D3.keep l _ nl hl
    refine ⟨l, L2, xs, ys, rfl, rfl, ?_, upd_same, sz_of ?_, k L2 ys vs H3 D3 os la hL2 h3⟩
    · rw [upd_ne (ne_of_none h3 hL2)]
      exact h3
    · have := OdL.length os
      have := la.2.2
      omega⟩⟩
end
theorem cutV_mem {xs : List V} {lo hi : Option Int} {x : V} (h : x ∈ cutV xs lo hi) : x ∈ xs := by
  unfold cutV at h
  exact List.mem_of_mem_drop (List.mem_of_mem_take h)
theorem cutV_len (xs : List V) (lo hi : Option Int) : (cutV xs lo hi).length ≤ xs.length := by
  unfold cutV
  rw [List.length_take, List.length_drop]
  omega
section
variable {P : Program} {w : World} {K : PySem.W.Frag} {mg : Str → Option Value} {base : Heap} {fD : Addr} {dD : FuncData}
theorem m_str {z : Str} (h : (TL.tl z).all okW = true) (hl : z.length ≤ 6) : M 0 14 (.str z) := ⟨by simpa only [pl] using h, by simp only [dpt]; omega, by simp only [ln]; omega⟩
theorem m_int {i : Int} (h : i.natAbs < 10 ^ 30) : M 0 32 (.int i) := ⟨by simpa only [pl] using h, by simp only [dpt]; omega, by simp only [ln]; omega⟩
theorem m_non : M 0 1 .non := ⟨trivial, by simp only [dpt]; omega, by simp only [ln]; omega⟩
theorem m_area : M 0 14 (.str "area") := m_str (by decide +kernel) (by decide +kernel)
theorem m_whole : M 0 14 (.str "whole") := m_str (by decide +kernel) (by decide +kernel)
theorem m_item : M 0 14 (.str "item") := m_str (by decide +kernel) (by decide +kernel)
def ints1 : List V := [.int 0, .int 1, .int 2, .int 3, .int 9, .int 10, .int 11, .int 100]
theorem ints1_ok : ∀ x ∈ ints1, ∃ i : Int, x = .int i ∧ i.natAbs < 10 ^ 30 := by
  intro x hx
  simp only [ints1, List.mem_cons, List.not_mem_nil, or_false] at hx
  rcases hx with rfl | rfl | rfl | rfl | rfl | rfl | rfl | rfl
  all_goals exact ⟨_, rfl, by decide⟩
end
end Ht
/-! k32: _law_area -/
namespace Ht
open PySem PySem.Spec PyProof.Rows L2 Hu Evl
def ints2 : List V := [.int 0, .int 1, .int 2, .int 8, .int 9, .int 10, .int 11, .int 99, .int 100]
theorem ints2_ok : ∀ x ∈ ints2, ∃ i : Int, x = .int i ∧ i.natAbs < 10 ^ 30 := by
  intro x hx
  simp only [ints2, List.mem_cons, List.not_mem_nil, or_false] at hx
  rcases hx with rfl | rfl | rfl | rfl | rfl | rfl | rfl | rfl | rfl
  all_goals exact ⟨_, rfl, by decide⟩
/-- a list of entries -/
structure Ens (H : Hp) (l : Addr) (us : List U) : Prop where
  ex : ∃ xs, H l = some (.lst xs) ∧ OdL H xs us
  p : plL us
  e : ∀ u ∈ us, eok u
theorem ch_ln {z z' : Str} (hl : ln' (TL.tl z) = true) (h : ∀ x ∈ TL.tl z', x ∈ TL.tl z ∨ x = 10 ∨ (32 ≤ x ∧ x ≤ 126)) : ln' (TL.tl z') = true := List.all_eq_true.mpr fun c hc => by
  rcases h c hc with h | rfl | h
  · exact List.all_eq_true.mp hl c h
  · rfl
  · rw [okW_of h, Bool.or_true]
end Ht
/-! k33: lines written count; lines torn don't: no model in it -/
namespace Ht
open PySem PySem.Spec PyProof.Rows L2 Hu Evl
/-- the signs of the line of an entry, behind lines with this check -/
def lineL (n : Nat) (u : U) : List Nat := Sl (.tup [.int (n : Int), u]) ++ [10]
/-- the lines of entries, behind a text of m signs with the check n -/
def linesL : List U → Nat → Nat → List Nat
  | [], _, _ => []
  | u :: us, n, m => lineL n u ++ linesL us (ckO n m (lineL n u)) (m + (lineL n u).length)
def ckL : List U → Nat → Nat → Nat
  | [], n, _ => n
  | u :: us, n, m => ckL us (ckO n m (lineL n u)) (m + (lineL n u).length)
theorem pl_line {n : Nat} {u : U} (hn : n < 99991) (hu : pl u) : pl (.tup [.int (n : Int), u]) := by
  simp only [pl, plL, and_true]
  exact ⟨by omega, hu⟩
theorem get_midL {t s r : List Nat} {k : Nat} (h1 : t.length ≤ k) (h2 : k < t.length + s.length) : (t ++ s ++ r)[k]? = s[k - t.length]? := by
  rw [List.append_assoc, List.getElem?_append_right h1, List.getElem?_append_left (by omega)]
theorem eol_line {t r : List Nat} {n : Nat} {u : U} (hn : n < 99991) (hu : pl u) : eol (t ++ lineL n u ++ r) t.length = some (t.length + (Sl (.tup [.int (n : Int), u])).length) := by
  have hl : (lineL n u).length = (Sl (.tup [.int (n : Int), u])).length + 1 := by unfold lineL; rw [List.length_append]; rfl
  refine eol_is (by omega) ?_ fun k h1 h2 => ?_
  · rw [get_midL (by omega) (by omega)]
    unfold lineL
    rw [List.getElem?_append_right (by omega), show t.length + (Sl (.tup [.int (n : Int), u])).length - t.length - (Sl (.tup [.int (n : Int), u])).length = 0 by omega]
    rfl
  · rw [get_midL h1 (by omega)]
    unfold lineL
    rw [List.getElem?_append_left (by omega)]
    intro q
    have := pr_Sl (pl_line hn hu) 10 (List.mem_of_getElem? q)
    omega
/-- a line that was written counts -/
theorem nxt_line {t r : List Nat} {n : Nat} {u : U} (hn : n < 99991) (hu : pl u) (hd : dpt u ≤ 29) : nxt (t ++ lineL n u ++ r) t.length n = some (u, t.length + (lineL n u).length, ckO n t.length (lineL n u)) := by
  have hl : (lineL n u).length = (Sl (.tup [.int (n : Int), u])).length + 1 := by unfold lineL; rw [List.length_append]; rfl
  have seg : ((t ++ lineL n u ++ r).drop t.length).take (t.length + (Sl (.tup [.int (n : Int), u])).length - t.length) = Sl (.tup [.int (n : Int), u]) := by
    rw [List.append_assoc, List.drop_left' rfl, Nat.add_sub_cancel_left]
    unfold lineL
    rw [List.append_assoc, List.take_left' rfl]
  unfold nxt
  rw [eol_line hn hu]
  dsimp only
  rw [seg, lnU_yes (unT_back (pl_line hn hu) (by simp only [dpt, dptL]; omega))]
  dsimp only
  rw [if_pos rfl, hl]
  unfold lineL
  rw [ckO_nl]
  rfl
/-- what has no line feed is no line -/
theorem nxt_torn {t r : List Nat} {n : Nat} (h : 10 ∉ r) : nxt (t ++ r) t.length n = none := by
  unfold nxt
  rw [eol_not fun k hk q => h ?_]
  rw [List.getElem?_append_right hk] at q
  exact List.mem_of_getElem? q
theorem ckL_lt : ∀ (us : List U) (n m : Nat), n < 99991 → ckL us n m < 99991
  | [], _, _, h => h
  | u :: us, n, m, _ => ckL_lt us _ _ (Nat.mod_lt _ (by decide))
theorem cnt_lines : ∀ (us : List U) (t r : List Nat) (n f : Nat), n < 99991 → plL us → dptL us ≤ 29 → (t ++ linesL us n t.length ++ r).length < f + t.length →
    cnt (t ++ linesL us n t.length ++ r) f t.length n = (us ++ (cnt (t ++ linesL us n t.length ++ r) f (t.length + (linesL us n t.length).length) (ckL us n t.length)).1, (cnt (t ++ linesL us n t.length ++ r) f (t.length + (linesL us n t.length).length) (ckL us n t.length)).2)
  | [], t, r, n, f, _, _, _, _ => rfl
  | u :: us, t, r, n, f, hn, hp, hd, hf => by
    simp only [dptL] at hd
    have e : t ++ linesL (u :: us) n t.length ++ r = t ++ lineL n u ++ (linesL us (ckO n t.length (lineL n u)) (t.length + (lineL n u).length) ++ r) := by
      show t ++ (lineL n u ++ _) ++ r = _
      simp only [List.append_assoc]
    have e2 : t ++ linesL (u :: us) n t.length ++ r = (t ++ lineL n u) ++ linesL us (ckO n t.length (lineL n u)) (t ++ lineL n u).length ++ r := by
      rw [e, List.length_append, List.append_assoc (t ++ lineL n u)]
    have hx : nxt (t ++ linesL (u :: us) n t.length ++ r) t.length n = some (u, t.length + (lineL n u).length, ckO n t.length (lineL n u)) := by
      rw [e]
      exact nxt_line hn hp.1 (by omega)
    rw [cnt_step hf hx]
    have hlen := congrArg List.length e2
    have ih := cnt_lines us (t ++ lineL n u) r (ckO n t.length (lineL n u)) f (Nat.mod_lt _ (by decide)) hp.2 (by omega) (by
      rw [← e2, List.length_append (as := t) (bs := lineL n u)]
      omega)
    rw [← e2, List.length_append] at ih
    rw [ih]
    have e3 : (linesL (u :: us) n t.length).length = (lineL n u).length + (linesL us (ckO n t.length (lineL n u)) (t.length + (lineL n u).length)).length := by
      show (lineL n u ++ _).length = _
      rw [List.length_append]
    rw [e3, ← Nat.add_assoc]
    rfl
/-- all entries count, and what is torn behind them doesn't -/
theorem cntT_torn {us : List U} {r : List Nat} (hp : plL us) (hd : dptL us ≤ 29) (hr : 10 ∉ r) : cntT (linesL us 0 0 ++ r) = (us, (linesL us 0 0).length) := by
  unfold cntT
  have h := cnt_lines us [] r 0 ((linesL us 0 0 ++ r).length + 1) (by decide) hp hd (by show (linesL us 0 0 ++ r).length < _; simp only [List.length_nil]; omega)
  have h2 : nxt (linesL us 0 0 ++ r) (linesL us 0 0).length (ckL us 0 0) = none := nxt_torn hr
  have h : cnt (linesL us 0 0 ++ r) ((linesL us 0 0 ++ r).length + 1) 0 0 = _ := h
  rw [h]
  show (us ++ (cnt (linesL us 0 0 ++ r) _ (0 + (linesL us 0 0).length) (ckL us 0 0)).1, _) = _
  simp only [List.nil_append, List.length_nil, Nat.zero_add]
  rw [cnt_end h2, List.append_nil]
theorem nxt_ck {l : List Nat} {p n p' n' : Nat} {b : U} (h : nxt l p n = some (b, p', n')) (hn : n = ckO 0 0 (l.take p)) : n' = ckO 0 0 (l.take p') := by
  cases he : eol l p with
  | none =>
    unfold nxt at h
    rw [he] at h
    cases h
  | some e =>
    obtain ⟨q1, q2, q3, q4⟩ := eol_some he
    unfold nxt at h
    rw [he] at h
    dsimp only at h
    cases hl : lnU ((l.drop p).take (e - p)) with
    | none => rw [hl] at h; cases h
    | some ib =>
      obtain ⟨i, b'⟩ := ib
      rw [hl] at h
      dsimp only at h
      by_cases hi : i = (n : Int)
      · rw [if_pos hi] at h
        injection h with h
        injection h with _ h
        injection h with h1 h2
        have hp : (l.take p).length = p := by rw [List.length_take]; omega
        have ht : l.take (e + 1) = l.take p ++ ((l.drop p).take (e - p) ++ [10]) := by
          rw [← seg_one q1 q3, ← List.take_append_drop p l]
          simp only [List.take_append_drop]
          rw [show e + 1 = p + (e + 1 - p) by omega, List.take_add]
          rw [show p + (e + 1 - p) - p = e + 1 - p by omega]
        rw [← h1, ← h2, ht, ← ckO_app, hp, ← hn, ckO_nl]
      · rw [if_neg hi] at h
        cases h
end Ht
/-! k33: lines behind a text that counts to its end; texts cut anywhere: no model in it -/
namespace Ht
open PySem PySem.Spec PyProof.Rows L2 Hu Evl
theorem cnt_app {l r : List Nat} : ∀ (f p n f2 : Nat), l.length < f + p → (l ++ r).length < f2 + p → n = ckO 0 0 (l.take p) → p ≤ l.length → (cnt l f p n).2 = l.length →
    cnt (l ++ r) f2 p n = ((cnt l f p n).1 ++ (cnt (l ++ r) f2 l.length (ckO 0 0 l)).1, (cnt (l ++ r) f2 l.length (ckO 0 0 l)).2)
  | 0, p, n, f2, h1, _, _, h4, _ => by omega
  | f + 1, p, n, f2, h1, h2, h3, h4, h5 => by
    cases hx : nxt l p n with
    | none =>
      rw [cnt_end hx] at h5 ⊢
      have e : p = l.length := h5
      subst e
      rw [List.take_length] at h3
      rw [← h3]
      rfl
    | some x =>
      obtain ⟨b, p', n'⟩ := x
      obtain ⟨k1, k2, _⟩ := nxt_lt hx
      have e : cnt l (f + 1) p n = (b :: (cnt l f p' n').1, (cnt l f p' n').2) := by
        rw [cnt, hx]
      rw [e] at h5 ⊢
      rw [cnt_step h2 (nxt_app hx), cnt_app f p' n' f2 (by omega) (by omega) (nxt_ck hx h3) k2 h5]
      rfl
/-- a text that counts to its end -/
def Cts (l : List Nat) (us : List U) : Prop := cntT l = (us, l.length)
theorem cntT_app {l r : List Nat} {us : List U} (h : Cts l us) : cntT (l ++ r) = (us ++ (cnt (l ++ r) ((l ++ r).length + 1) l.length (ckO 0 0 l)).1, (cnt (l ++ r) ((l ++ r).length + 1) l.length (ckO 0 0 l)).2) := by
  have h' : cnt l (l.length + 1) 0 0 = (us, l.length) := h
  have := cnt_app (l := l) (r := r) (l.length + 1) 0 0 ((l ++ r).length + 1) (by omega) (by omega) rfl (Nat.zero_le _) (by rw [h'])
  unfold cntT
  rw [this, h']
/-- a line written behind it counts; its first signs don't -/
theorem cts_line {l : List Nat} {us : List U} {u : U} (h : Cts l us) (hu : pl u) (hd : dpt u ≤ 29) : Cts (l ++ lineL (ckO 0 0 l) u) (us ++ [u]) := by
  have e := cntT_app (r := lineL (ckO 0 0 l) u) h
  have hn : ckO 0 0 l < 99991 := Nat.mod_lt _ (by decide)
  have hx := nxt_line (t := l) (r := []) hn hu hd
  rw [List.append_nil] at hx
  have hz : nxt (l ++ lineL (ckO 0 0 l) u) (l.length + (lineL (ckO 0 0 l) u).length) (ckO (ckO 0 0 l) l.length (lineL (ckO 0 0 l) u)) = none := by
    have := nxt_torn (t := l ++ lineL (ckO 0 0 l) u) (r := []) (n := ckO (ckO 0 0 l) l.length (lineL (ckO 0 0 l) u)) List.not_mem_nil
    rwa [List.append_nil, List.length_append] at this
  unfold Cts
  rw [e, cnt_step (by omega) hx, cnt_end hz, List.length_append]
theorem line_last {n : Nat} {u : U} (hn : n < 99991) (hu : pl u) {j : Nat} (hj : j < (lineL n u).length) : 10 ∉ (lineL n u).take j := fun q => by
  unfold lineL at q hj
  rw [List.length_append] at hj
  have hj : j < (Sl (.tup [.int (n : Int), u])).length + 1 := hj
  rw [List.take_append_of_le_length (by omega)] at q
  have := pr_Sl (pl_line hn hu) 10 (List.mem_of_mem_take q)
  omega
theorem cnt_torn {l r : List Nat} {us : List U} (h : Cts l us) (hr : 10 ∉ r) : cntT (l ++ r) = (us, l.length) := by
  rw [cntT_app h, cnt_end (nxt_torn hr), List.append_nil]
theorem cts_nil : Cts [] [] := rfl
theorem cts_lines : ∀ (us es : List U) (l : List Nat), Cts l es → plL us → dptL us ≤ 29 → Cts (l ++ linesL us (ckO 0 0 l) l.length) (es ++ us)
  | [], es, l, h, _, _ => by
    show Cts (l ++ []) (es ++ [])
    rwa [List.append_nil, List.append_nil]
  | u :: us, es, l, h, hp, hd => by
    simp only [dptL] at hd
    have h1 := cts_line h hp.1 (by omega)
    have h2 := cts_lines us (es ++ [u]) _ h1 hp.2 (by omega)
    have e : ckO (ckO 0 0 l) l.length (lineL (ckO 0 0 l) u) = ckO 0 0 (l ++ lineL (ckO 0 0 l) u) := ckO_app l _
    show Cts (l ++ (lineL (ckO 0 0 l) u ++ linesL us (ckO (ckO 0 0 l) l.length (lineL (ckO 0 0 l) u)) (l.length + (lineL (ckO 0 0 l) u).length))) (es ++ ([u] ++ us))
    rw [e, ← List.append_assoc, ← List.append_assoc, ← List.length_append]
    exact h2
/-- lines cut anywhere: some first ones whole, and a torn one -/
theorem lines_cut : ∀ (us : List U) (n m j : Nat), n < 99991 → plL us → j < (linesL us n m).length → ∃ k r, k < us.length ∧ (linesL us n m).take j = linesL (us.take k) n m ++ r ∧ 10 ∉ r
  | [], n, m, j, _, _, h => absurd h (Nat.not_lt_zero _)
  | u :: us, n, m, j, hn, hp, h => by
    by_cases hj : j < (lineL n u).length
    · refine ⟨0, (lineL n u).take j, by simp, ?_, line_last hn hp.1 hj⟩
      show (lineL n u ++ _).take j = [] ++ _
      rw [List.take_append_of_le_length (by omega), List.nil_append]
    · have e : (linesL (u :: us) n m).length = (lineL n u).length + (linesL us (ckO n m (lineL n u)) (m + (lineL n u).length)).length := List.length_append
      obtain ⟨k, r, k1, k2, k3⟩ := lines_cut us (ckO n m (lineL n u)) (m + (lineL n u).length) (j - (lineL n u).length) (Nat.mod_lt _ (by decide)) hp.2 (by omega)
      refine ⟨k + 1, r, by simpa using k1, ?_, k3⟩
      show (lineL n u ++ _).take j = (lineL n u ++ _) ++ r
      rw [List.take_append, k2, List.take_of_length_le (by omega), List.append_assoc]
/-! ### the other area, written anew and cut anywhere -/
def areaE (g : Nat) : U := .tup [.str "area", .int (g : Int)]
def itemE (u : U) : U := .tup [.str "item", u]
def wholeE : U := .tup [.str "whole"]
theorem areaOf_area (g : Nat) : areaOf (areaE g) = some g := by
  unfold areaE areaOf
  dsimp only
  rw [if_pos (by
    have h1 : isA (.str "area") = true := by decide +kernel
    rw [h1]
    exact decide_eq_true (by omega))]
  rfl
theorem whole_item (u : U) : wholeU (itemE u) = false := rfl
theorem any_items (is : List U) : (is.map itemE).any wholeU = false := by
  induction is with
  | nil => rfl
  | cons u is ih => rw [List.map_cons, List.any_cons, ih, whole_item]; rfl
theorem genU_kept (g : Nat) (is : List U) : genU (areaE g :: (is.map itemE ++ [wholeE])) = some g := by
  rw [genU_some (areaOf_area g), List.any_append, any_items]
  have : wholeU wholeE = true := by decide +kernel
  rw [show ([wholeE].any wholeU) = true by rw [List.any_cons, this]; rfl]
  rfl
theorem genU_cut (g : Nat) (is : List U) {k : Nat} (h : k < (areaE g :: (is.map itemE ++ [wholeE])).length) : genU ((areaE g :: (is.map itemE ++ [wholeE])).take k) = none := by
  cases k with
  | zero => rfl
  | succ k =>
    rw [List.take_succ_cons, genU_some (areaOf_area g)]
    simp only [List.length_cons, List.length_append, List.length_map, List.length_nil] at h
    rw [List.take_append_of_le_length (by rw [List.length_map]; omega), ← List.map_take, any_items]
    rfl
theorem plL_take : ∀ {us : List U} (k : Nat), plL us → plL (us.take k)
  | [], _, _ => by simp [plL]
  | _ :: _, 0, _ => trivial
  | _ :: _, k + 1, h => ⟨h.1, plL_take k h.2⟩
theorem dptL_take : ∀ {us : List U} (k : Nat), dptL (us.take k) ≤ dptL us
  | [], _ => by simp
  | _ :: _, 0 => Nat.zero_le _
  | u :: us, k + 1 => by
    have := dptL_take (us := us) k
    simp only [List.take_succ_cons, dptL]
    omega
theorem cts_all {us : List U} (hp : plL us) (hd : dptL us ≤ 29) : Cts (linesL us 0 0) us := by
  have h := cts_lines us [] [] cts_nil hp hd
  rw [List.nil_append, List.nil_append] at h
  exact h
/-- written with the first j signs: it has no generation; written whole, it has its own -/
theorem gen_cut {us : List U} {g : Nat} (hp : plL us) (hd : dptL us ≤ 29) (hg : genU us = some g) (hc : ∀ k, k < us.length → genU (us.take k) = none) (j : Nat) :
    genU (cntT ((linesL us 0 0).take j)).1 = if j < (linesL us 0 0).length then none else some g := by
  by_cases h : j < (linesL us 0 0).length
  · obtain ⟨k, r, k1, k2, k3⟩ := lines_cut us 0 0 j (by decide) hp h
    rw [if_pos h, k2, cnt_torn (cts_all (plL_take k hp) (Nat.le_trans (dptL_take k) hd)) k3]
    exact hc k k1
  · rw [if_neg h, List.take_of_length_le (by omega), show cntT (linesL us 0 0) = _ from cts_all hp hd]
    exact hg
end Ht
/-! k33: is_thing, packed, sealed of the program -/
namespace Ht
open PySem PySem.Spec PyProof.Rows L2 Hu Evl
abbrev sIsThing : Stmt := topS 21
abbrev sPackedP : Stmt := topS 22
abbrev sTextOf : Stmt := topS 23
abbrev sSealed : Stmt := topS 31
/-! things, of which some tuples may be the program's own constants -/
mutual
inductive Az (K : PySem.W.Frag) (H : Hp) : V → U → Prop
  | non : Az K H .non .non
  | int (i : Int) : Az K H (.int i) (.int i)
  | str (z : Str) : Az K H (.str z) (.str z)
  | tup {a : Addr} {xs : List V} {us : List U} : SqT K H a xs → AzL K H xs us → Az K H (.ref a) (.tup us)
inductive AzL (K : PySem.W.Frag) (H : Hp) : List V → List U → Prop
  | nil : AzL K H [] []
  | cons {v : V} {u : U} {vs : List V} {us : List U} : Az K H v u → AzL K H vs us → AzL K H (v :: vs) (u :: us)
end
section
variable {K : PySem.W.Frag} {H H' : Hp}
mutual
theorem Az.ex (k : Ex H H') : ∀ {u : U} {v : V}, Az K H v u → Az K H' v u
  | _, _, .non => .non
  | _, _, .int i => .int i
  | _, _, .str z => .str z
  | _, _, .tup h l => .tup (ex_t k h) (AzL.ex k l)
theorem AzL.ex (k : Ex H H') : ∀ {us : List U} {vs : List V}, AzL K H vs us → AzL K H' vs us
  | _, _, .nil => .nil
  | _, _, .cons x l => .cons (Az.ex k x) (AzL.ex k l)
end
mutual
theorem Az.of : ∀ {u : U} {v : V}, Od H v u → pl u → Az K H v u
  | _, _, .non, _ => .non
  | _, _, .int i, _ => .int i
  | _, _, .str z, _ => .str z
  | _, _, .tup h l, p => .tup (st_of h) (AzL.of l (by simpa only [pl] using p))
  | _, _, .bl _, p => by simp only [pl] at p
  | _, _, .lst _, p => by simp only [pl] at p
  | _, _, .dct _, p => by simp only [pl] at p
theorem AzL.of : ∀ {us : List U} {vs : List V}, OdL H vs us → plL us → AzL K H vs us
  | _, _, .nil, _ => .nil
  | _, _, .cons x l, p => .cons (Az.of x p.1) (AzL.of l p.2)
end
theorem AzL.length : ∀ {us : List U} {vs : List V}, AzL K H vs us → vs.length = us.length
  | _, _, .nil => rfl
  | _, _, .cons x l => by rw [List.length_cons, List.length_cons, AzL.length l]
theorem AzL.get : ∀ {us : List U} {vs : List V} {i : Nat} {u : U}, AzL K H vs us → us[i]? = some u → ∃ v, vs[i]? = some v ∧ Az K H v u
  | _, _, _, _, .nil, e => by simp at e
  | _, _, 0, _, .cons x l, e => by
    have := Option.some.inj e
    subst this
    exact ⟨_, rfl, x⟩
  | _, _, i + 1, _, .cons x l, e => AzL.get (i := i) l e
theorem AzL.getV : ∀ {us : List U} {vs : List V} {i : Nat} {v : V}, AzL K H vs us → vs[i]? = some v → ∃ u, us[i]? = some u ∧ Az K H v u
  | _, _, _, _, .nil, e => by simp at e
  | _, _, 0, _, .cons x l, e => by
    have := Option.some.inj e
    subst this
    exact ⟨_, rfl, x⟩
  | _, _, i + 1, _, .cons x l, e => AzL.getV (i := i) l e
end
section
variable {K : PySem.W.Frag} {σ : L2.St} {H : Hp} {te tl : TE} {us : List U} {xs : List V}
theorem ev_isiZ {T : String} {v : V} {u : U} (h : Ev te σ H v) (hat : Az K H v u) (hT : T ∈ ["int", "bool", "str", "tuple"]) : Ev (tCB (L2.rIsi K) (tCons te (tCons (tC (.ty T)) tNil))) σ H (.bl (isT u T)) :=
  ev_cb (ea_cons h (ea_cons ev_c ea_nil)) fun H1 e Q q => by
    have hat1 := hat.ex e
    cases hat1 with
    | non => exact ⟨_, .ty T, _, .type T, _, rfl, .ty T, .base .non, kit_ty (kit_is (by simp) hT), q H1 (Ex.refl H1)⟩
    | int i => exact ⟨_, .ty T, _, .type T, _, rfl, .ty T, .base (.int i), kit_ty (kit_is (by simp) hT), q H1 (Ex.refl H1)⟩
    | str z => exact ⟨_, .ty T, _, .type T, _, rfl, .ty T, .base (.str z), kit_ty (kit_is (by simp) hT), q H1 (Ex.refl H1)⟩
    | tup h1 _ =>
      rcases h1 with h1 | ⟨o, its, n, lk, hc, _⟩
      · rcases h1 with h1 | ⟨ob, h1⟩
        · exact ⟨_, .ty T, _, .type T, _, rfl, .ty T, .base (.tup h1), kit_ty (kit_is (by simp) hT), q H1 (Ex.refl H1)⟩
        · exact ⟨_, .ty T, _, .type T, _, rfl, .ty T, .fTuple h1, kit_ty (kit_is (by simp) hT), q H1 (Ex.refl H1)⟩
      · exact ⟨_, .ty T, _, .type T, _, rfl, .ty T, .kTuple lk hc, kit_ty (kit_is (by simp) hT), q H1 (Ex.refl H1)⟩
/-- [f(x) for x in a tuple] -/
theorem el_lcZ {a : Addr} {j : Nat} {vs : List Nat} {g : U → V} (h : Ev tl σ H (.ref a)) (hx : SqT K H a xs) (hz : us.length ≤ 100000) (hl : AzL K H xs us) (hw : ∀ x, wipe ((wipe σ vs).set j (some x)) vs = wipe σ vs)
    (he : ∀ (x : V) (u : U), u ∈ us → Az K H x u → Ev te ((wipe σ vs).set j (some x)) H (g u)) : EvL (tLc (iTup K tl) (gName j) tYes te vs) σ H (us.map g) := fun H0 e Q q => h H0 e _ fun H1 e1 => ⟨a, rfl, ⟨xs, ex_t (e.trans e1) hx⟩, fun Dl hD =>
  lc_tup (xs := xs) (fun i H' => Ex H1 H' ∧ H' Dl = some (.lst ((us.take i).map g))) ⟨Ex.new hD, upd_same⟩ (fun i H' _ p => ex_t ((e.trans e1).trans p.1) hx) (fun i x H2 hi p => by
    obtain ⟨p1, p2⟩ := p
    have hlen := AzL.length hl
    have hu : i < us.length := by
      have := (List.getElem?_eq_some_iff.mp hi).1
      omega
    obtain ⟨x', hx', hax⟩ := AzL.get hl (List.getElem?_eq_getElem hu)
    rw [hi] at hx'
    cases hx'
    refine ⟨hw x, he x us[i] (List.getElem_mem hu) hax H2 ((e.trans e1).trans p1) _ fun H3 e3 => ⟨_, e3 _ _ p2, ?_, fun q o hq => ?_, ?_⟩⟩
    · rw [List.length_map, List.length_take]
      have := big_line
      omega
    · rw [upd_ne (ne_of_none hq hD)]
      exact e3 _ _ (p1 _ _ hq)
    · rw [upd_same, List.take_add_one, List.getElem?_eq_getElem hu, List.map_append]
      rfl) (fun H' p => q Dl H' (fresh_back e1 (by exact hD)) (e1.trans p.1) (by rw [p.2, AzL.length hl, List.take_length]))⟩
end
section
variable {P : Program} {w : World} {K : PySem.W.Frag} {mg : Str → Option Value} {base : Heap} {C : Addr}
theorem scIsThing : FnScope ["thing", "deepest", "item"] ["thing", "deepest"] (defScope sIsThing) := ⟨rfl, rfl, rfl, by decide +kernel, rfl, by decide +kernel, by decide +kernel⟩
def spThZ (K : PySem.W.Frag) (n : Nat) : Sp := fun vs H Q _ => ∃ (v : V) (u : U), vs = [v, .int (n : Int)] ∧ Az K H v u ∧ brd u ∧ ∀ H', Same H H' → Q (.bl (thB n u)) H'
def spThZP (K : PySem.W.Frag) : Nat → Sp
  | 0 => fun _ _ _ _ => False
  | n + 1 => spThZ K n
theorem ok_thZ {f f1 f2 : Addr} {fd d1 d2 : FuncData} {t : Tok} (DT : Df K mg "is_thing" sIsThing ["thing", "deepest"] f fd) (B : Bt mg) (D1 : Df K mg "is_integer" sIsInt ["thing"] f1 d1) (D2 : Df K mg "is_signs" sIsSigns ["thing"] f2 d2) (hB : mg "BOUND" = some (.int (10 ^ 30) t)) (n : Nat)
    (G : FnOk P w K mg base CX0 (1 + n) f fd ["thing", "deepest"] (spThZP K n)) : FnOk P w K mg base CX0 (1 + n + 1) f fd ["thing", "deepest"] (spThZ K n) := by
  have G1 : FnOk P w K mg base CX0 1 f1 d1 ["thing"] (spO intU) := ok_isIntO D1.F B
  have G2 : FnOk P w K mg base CX0 1 f2 d2 ["thing"] (spO sgU) := ok_isSignsO D2.F B
  refine DT.F.ok scIsThing (fun vs H Q E h => ?_) (fun cdv A outer s H vs Q E hr h => ?_)
  · obtain ⟨v, u, rfl, _⟩ := h
    rfl
  obtain ⟨v, u, rfl, hat, bu, k⟩ := h
  have hr1 : Room 1 (A.deeper (envOfC "is_thing" (defScope sIsThing) s.heap.objs.size f cdv)) := hr.mono (by omega)
  refine ⟨_, pss_cons (ps_if (pt_val (pe_callB call_isi (by rfl) B.isi boot_isi' (pa_cons (pv 0) (pa_cons (pe_bltn (by rfl) B.tup boot_tup' (show RelV (.ty "tuple") (.type "tuple") from rfl)) pa_nil))))
      (pss_one (ps_ret (pe_and (pe_cmpR op_gt (pv 1) pe_int (nomark _)) (pe_one (pe_callB (cr_all rfl) (by rfl) B.all boot_all' (pa_cons (pe_lc (own := [("item", 2)]) (g := gName 2) (tt := tYes) rfl scIsThing.nd (pi_tup (pv 0)) (blkOk_by (N := ["thing", "deepest", "item"]) (sc := defScope sIsThing) (by decide +kernel))
        (fun _ _ _ _ _ => pg_name (i := 2) scIsThing.nd rfl (Or.inl rfl)) (fun _ _ _ _ _ => pts_nil) (fun _ _ _ _ _ => pe_call G hr (by rfl) DT.g DT.F.kp DT.b .nil pass0 (pa_cons (pv 2) (pa_cons (pe_op op_sub (pv 1) pe_int) pa_nil)))) pa_nil)))))) pss_nil)
    (pss_cons (ps_if (pt_val (pe_callB call_isi (by rfl) B.isi boot_isi' (pa_cons (pv 0) (pa_cons (pe_bltn (by rfl) B.str boot_str' (show RelV (.ty "str") (.type "str") from rfl)) pa_nil))))
      (pss_one (ps_ret (pe_call G2 hr1 (by rfl) D2.g D2.F.kp D2.b .nil pass0 (pa_cons (pv 0) pa_nil)))) pss_nil)
    (pss_one (ps_ret (pe_or (pe_cmpR op_isN1 (pv 0) pe_non (nomark _)) (pe_one (pe_and (pe_call G1 hr1 (by rfl) D1.g D1.F.kp D1.b .nil pass0 (pa_cons (pv 0) pa_nil))
      (pe_one (pe_chain op_lt op_lt (pe_un un_neg (pe_glob (v := .int (10 ^ 30)) rfl hB ⟨_, rfl⟩)) (pv 0) (pe_glob (v := .int (10 ^ 30)) rfl hB ⟨_, rfl⟩))))))))), ?_⟩
  refine s_if (b := isT u "tuple") (et_B (ev_isiZ (ev_var rfl) hat (by decide))) (fun q2 H2 e2 => ?_) (fun q2 H2 e2 => s_next ?_)
  · obtain ⟨us, rfl⟩ : ∃ us, u = .tup us := by
      cases u with
      | tup us => exact ⟨us, rfl⟩
      | _ => simp [isT, isS, tyU] at q2
    have hat2 := hat.ex e2
    cases hat2 with
    | @tup a xs _ ha hl =>
      simp only [brd] at bu
      refine s_ret (ev_andV (a := decide ((0 : Int) < (n : Int))) (b := thB n (.tup us)) (ev_op (ev_var rfl) ev_c rv_I0) fun q => ?_) fun H3 e3 => ?_
      · obtain ⟨m, rfl⟩ : ∃ m, n = m + 1 := ⟨n - 1, by have := of_decide_eq_true q; omega⟩
        have EL : EvL (tLc (iTup K (tVar 0)) (gName 2) tYes (tCall (spThZP K (m + 1)) [] E0 (tCons (tVar 2) (tCons (tOp (rI0 fun i j => .int (i - j)) (tVar 1) (tC (.int 1))) tNil))) [2]) [some (V.ref a), some (.int ((m + 1 : Nat) : Int)), none] H2 ((us.map (thB m)).map V.bl) := by
          rw [List.map_map]
          refine el_lcZ (j := 2) (vs := [2]) (g := fun u => .bl (thB m u)) (ev_var rfl) ha (by omega) hl (fun _ => rfl) fun x u hu hx => ev_call (vs := [x, .int (m : Int)]) (ea_cons (ev_var rfl) (ea_cons (ev_is (ev_op (ev_var rfl) ev_c rv_I0) (by rw [show ((m + 1 : Nat) : Int) - 1 = (m : Int) by omega])) ea_nil)) fun H3 e3 Q q E => ⟨x, u, rfl, hx.ex e3, brd_mem bu.2 hu, q⟩
        refine ev_is (ev_allL (K := K) EL) ?_
        rw [List.all_map]
        rfl
      · have e4 : (decide ((0 : Int) < (n : Int)) && thB n (.tup us)) = thB n (.tup us) := by
          cases n with
          | zero => rfl
          | succ m => rw [decide_eq_true (by omega)]; rfl
        rw [e4]
        exact k H3 (e2.trans e3)
  have hat1 := hat.ex e2
  have hat2 : Od H2 v u := by
    cases hat1 with
    | non => exact .non
    | int i => exact .int i
    | str z => exact .str z
    | tup _ _ => simp [isT, isS, tyU] at q2
  refine q_if (b := isT u "str") (et_B (ev_isiZ (ev_var rfl) hat1 (by decide))) (fun q3 H3 e3 => ?_) (fun q3 H3 e3 => s_next ?_)
  · have e4 : sgU u = thB n u := by
      cases u with
      | str z => cases n <;> rfl
      | _ => simp [isT, isS, tyU] at q3
    exact s_ret (ev_is (ev_call (sp := spO sgU) (ea_cons (ev_var rfl) ea_nil) fun H4 e5 Q q E => ⟨v, u, rfl, hat2.ex (e3.trans e5), bu, q⟩) (congrArg V.bl e4)) fun H4 e5 => k H4 ((e2.trans e3).trans e5)
  · have hat3 := hat2.ex e3
    have fin : ∀ {te : TE}, Ev te [some v, some (.int (n : Int)), none] H3 (.bl (thB n u)) → tRet te { nx := fun _ H' => Q .non H', rt := Q } [some v, some (.int (n : Int)), none] H3 := fun ev => s_ret ev fun H4 e4 => k H4 ((e2.trans e3).trans e4)
    dsimp only
    refine fin ?_
    refine ev_is (ev_orV (a := decide (v = .non)) (b := thB n u) (ev_op (ev_var rfl) ev_c fun H1 _ Q q => ⟨rfl, q H1 (Ex.refl H1)⟩) fun q => ev_is (ev_andV (a := intU u) (b := thB n u) (ev_call (sp := spO intU) (ea_cons (ev_var rfl) ea_nil) fun H4 e5 Q q E => ⟨v, u, rfl, hat3.ex e5, bu, q⟩) fun qi => ?_) ?_) ?_
    · cases hat3 with
      | int i =>
        refine ev_is (ev_chain (ev_un ev_c ru_neg) (ev_var rfl) ev_c rv_I0 fun _ => rv_I0) ?_
        cases n <;> rfl
      | _ => cases qi
    · cases hat3 with
      | int i => rfl
      | non => exact absurd rfl (of_decide_eq_false q)
      | tup _ _ => simp [isT, isS, tyU] at q2
      | str z => simp [isT, isS, tyU] at q3
      | bl b => cases n <;> rfl
      | lst _ => cases n <;> rfl
      | dct _ => cases n <;> rfl
    · cases hat3 with
      | non => cases n <;> rfl
      | _ => rfl
theorem ok_thsZ {f f1 f2 : Addr} {fd d1 d2 : FuncData} {t : Tok} (DT : Df K mg "is_thing" sIsThing ["thing", "deepest"] f fd) (B : Bt mg) (D1 : Df K mg "is_integer" sIsInt ["thing"] f1 d1) (D2 : Df K mg "is_signs" sIsSigns ["thing"] f2 d2) (hB : mg "BOUND" = some (.int (10 ^ 30) t)) : ∀ n : Nat, FnOk P w K mg base CX0 (1 + n + 1) f fd ["thing", "deepest"] (spThZ K n)
  | 0 => ok_thZ DT B D1 D2 hB 0 ⟨fun _ _ _ _ h => h.elim, fun _ _ _ _ _ _ _ _ _ _ _ _ _ h => h.elim⟩
  | n + 1 => ok_thZ DT B D1 D2 hB (n + 1) (ok_thsZ DT B D1 D2 hB n)
def spPkT (K : PySem.W.Frag) (n : Nat) : Sp := fun vs H Q _ => ∃ (v : V) (u : U), vs = [v] ∧ Az K H v u ∧ pl u ∧ ln u ≤ 60000 ∧ dpt u < n ∧ ∀ H', Same H H' → Q (.str (txt u)) H'
theorem scTextOf : FnScope ["thing", "item"] ["thing"] (defScope sTextOf) := ⟨rfl, rfl, rfl, by decide +kernel, rfl, by decide +kernel, by decide +kernel⟩
theorem ok_textOf {f : Addr} {fd : FuncData} (DP : Df K mg "_text_of" sTextOf ["thing"] f fd) (B : Bt mg) : ∀ n : Nat, FnOk P w K mg base CX0 n f fd ["thing"] (spPkT K n)
  | 0 => ⟨fun _ _ _ _ ⟨_, _, e, _⟩ => by rw [e]; rfl, fun _ _ _ _ _ _ _ _ _ _ _ _ _ ⟨_, _, _, _, _, _, h, _⟩ => absurd h (Nat.not_lt_zero _)⟩
  | n + 1 => by
    have G := ok_textOf DP B n
    obtain ⟨oc, od, kV, doc, pm, an, cdv, ct, osl, rfl, lk, hcd⟩ := DP.F.ex
    refine fn_ofT lk hcd scTextOf (by decide +kernel) (by decide) (fun vs H Q E h => ?_) (fun A outer s H vs Q E hr h => ?_)
    · obtain ⟨v, u, rfl, _⟩ := h
      rfl
    obtain ⟨v, u, rfl, hat, pu, lu, du, k⟩ := h
    refine ⟨_, psst_cons (CwR.pst_if (pt_cmpR op_isN1 (pv 0) pe_non (nomark _)) (CwR.psst_one (PST.of (ps_ret pe_str))) CwR.psst_nil)
      (psst_cons (CwR.pst_if (pt_val (pe_callB call_isi (by rfl) B.isi boot_isi' (pa_cons (pv 0) (pa_cons (pe_bltn (by rfl) B.str boot_str' (show RelV (.ty "str") (.type "str") from rfl)) pa_nil))))
        (CwR.psst_one (CwR.pst_ret (CwR.pet_op op_add_str (CwR.pet_op op_add_str (CwR.PET.of pe_str) (CwR.pet_replT (CwR.pet_replC (pv 0)))) (CwR.PET.of pe_str)))) CwR.psst_nil)
      (psst_cons (PST.of (ps_if (pt_val (pe_callB call_isi (by rfl) B.isi boot_isi' (pa_cons (pv 0) (pa_cons (pe_bltn (by rfl) B.tup boot_tup' (show RelV (.ty "tuple") (.type "tuple") from rfl)) pa_nil))))
        (pss_one (ps_ret (pe_op op_add_str (pe_op op_add_str pe_str (pe_join pe_str (pe_lc (own := [("item", 1)]) (g := gName 1) (tt := tYes) rfl scTextOf.nd (pi_tup (pv 0)) (blkOk_by (N := ["thing", "item"]) (sc := defScope sTextOf) (by decide +kernel))
          (fun _ _ _ _ _ => pg_name (i := 1) scTextOf.nd rfl (Or.inl rfl)) (fun _ _ _ _ _ => pts_nil) (fun _ _ _ _ _ => pe_call G hr (by rfl) DP.g DP.F.kp DP.b .nil pass0 (pa_cons (pv 1) pa_nil))))) pe_str))) pss_nil))
      (CwR.psst_one (PST.of (ps_ret (pe_callTy call_str_int (by rfl) B.str boot_str' (pa_cons (pv 0) pa_nil))))))), ?_⟩
    refine s_if (b := decide (v = .non)) (et_test (ev_op (ev_var rfl) ev_c fun H1 _ Q q => ⟨rfl, q H1 (Ex.refl H1)⟩)) (fun q H1 e => ?_) (fun q H1 e => s_next ?_)
    · have hv := of_decide_eq_true q
      subst hv
      cases hat
      refine s_ret (ev_is (v := .str ".") ev_c (by rw [show txt .non = "." by decide +kernel])) fun H2 e2 => k H2 (e.trans e2)
    have hat1 := hat.ex e
    refine q_if (b := isT u "str") (et_B (ev_isiZ (ev_var rfl) hat1 (by decide))) (fun q3 H3 e3 => ?_) (fun q3 H3 e3 => s_next ?_)
    · obtain ⟨z, rfl⟩ : ∃ z, u = .str z := by
        cases u with
        | str z => exact ⟨z, rfl⟩
        | _ => simp [isT, isS, tyU] at q3
      have hat2 := hat1.ex e3
      cases hat2
      simp only [ln] at lu
      have hz := TL.len_tl z
      have l1 : (("'" : Str)).length = 1 := by decide +kernel
      have l2 : (("~~" : Str)).length = 2 := by decide +kernel
      have l3 : (("~'" : Str)).length = 2 := by decide +kernel
      have r1 := TK.replace_len z "~" "~~"
      rw [l2] at r1
      have jl : (Txt.replace (Txt.replace z "~" "~~") "'" "~'").length ≤ 70000 := by
        rw [TL.len_tl, repl_str]
        have := escP_len (TL.tl z)
        omega
      refine s_ret (ev_is (ev_op (ev_op ev_c (ev_repl (ev_repl (ev_var rfl) (by rw [l2]; omega)) (by rw [l3]; omega)) (rv_addZ (by omega))) ev_c (rv_addZ (by
        have : (("'" : Str) ++ Txt.replace (Txt.replace z "~" "~~") "'" "~'").length = 1 + (Txt.replace (Txt.replace z "~" "~~") "'" "~'").length := by
          rw [TL.len_tl, TL.tl_append, List.length_append, ← TL.len_tl, ← TL.len_tl, l1]
        omega))) (congrArg V.str (str_txtP z))) fun H4 e4 => k H4 ((e.trans e3).trans e4)
    have hat2 := hat1.ex e3
    refine q_if (b := isT u "tuple") (et_B (ev_isiZ (ev_var rfl) hat2 (by decide))) (fun q2 H2 e2 => ?_) (fun q2 H2 e2 => s_next ?_)
    · obtain ⟨us, rfl⟩ : ∃ us, u = .tup us := by
        cases u with
        | tup us => exact ⟨us, rfl⟩
        | _ => simp [isT, isS, tyU] at q2
      have hat3 := hat2.ex e2
      cases hat3 with
      | @tup a xs _ ha hl =>
        have pus : plL us := by simpa only [pl] using pu
        simp only [ln] at lu
        simp only [dpt] at du
        have hsum := sum_txt pus
        have hlen := lnL_len us
        have EL : EvL (tLc (iTup K (tVar 0)) (gName 1) tYes (tCall (spPkT K n) [] E0 (tCons (tVar 1) tNil)) [1]) [some (V.ref a), none] H2 ((us.map txt).map V.str) := by
          rw [List.map_map]
          exact el_lcZ (j := 1) (vs := [1]) (g := fun u => .str (txt u)) (ev_var rfl) ha (by omega) hl (fun _ => rfl) fun x u hu hx => ev_call (ea_cons (ev_var rfl) ea_nil) fun H3 e3 Q q E => ⟨x, u, rfl, hx.ex e3, pl_mem pus hu, by have := ln_mem hu; omega, by have := dpt_mem hu; omega, q⟩
        have jl : (Txt.join ("," : Str) (us.map txt)).length ≤ 70000 := by
          have h1 := joinL_len [44] ((us.map txt).map TL.tl)
          rw [TL.len_tl, TL.join_eq, TL.tl_join, show TL.tl ("," : Str) = [44] by decide +kernel]
          have e5 : (((us.map txt).map TL.tl).map (·.length)).sum = ((us.map txt).map (·.length)).sum := by
            rw [List.map_map]
            congr 1
          rw [e5] at h1
          simp only [List.length_cons, List.length_nil, List.length_map] at h1
          omega
        have l1 : (("(" : Str)).length = 1 := by decide +kernel
        have l2 : ((")" : Str)).length = 1 := by decide +kernel
        have l3 : (("," : Str)).length = 1 := by decide +kernel
        refine s_ret (ev_is (ev_op (ev_op ev_c (ev_join (K := K) ev_c EL (by rw [List.length_map, l3]; omega)) (rv_addZ (by omega))) ev_c (rv_addZ (by
          have : (("(" : Str) ++ Txt.join ("," : Str) (us.map txt)).length = 1 + (Txt.join ("," : Str) (us.map txt)).length := by
            rw [TL.len_tl, TL.tl_append, List.length_append, ← TL.len_tl, ← TL.len_tl, l1]
          omega))) (congrArg V.str (tup_txt us))) fun H5 e5 => k H5 (((e.trans e3).trans e2).trans e5)
    have hat3 := hat2.ex e2
    cases hat3 with
      | int i =>
        have hi : i.natAbs < 10 ^ 30 := by simpa only [pl] using pu
        have es : (toString i : Str) = txt (.int i) := TL.ext_tl rfl
        have ev : Ev (tCB (fun xs H Q => ∃ i : Int, xs = [V.int i] ∧ i.natAbs.log2 < 1920 ∧ Q (.str (toString i)) H) (tCons (tVar 0) tNil)) [some (V.int i), none] H2 (.str (txt (.int i))) := ev_cb (ea_cons (ev_var rfl) ea_nil) fun H4 e4 Q q =>
          ⟨i, rfl, Nat.lt_of_lt_of_le (PySem.Flt.log2_lt_of (k := 100) (by decide) (Nat.lt_of_lt_of_le hi (by decide))) (by decide), by rw [es]; exact q H4 (Ex.refl H4)⟩
        exact s_ret ev fun H4 e4 => k H4 (((e.trans e3).trans e2).trans e4)
      | non => exact absurd rfl (of_decide_eq_false q)
      | tup _ _ => simp [isT, isS, tyU] at q2
      | str z => simp [isT, isS, tyU] at q3
theorem scPackedP : FnScope ["thing"] ["thing"] (defScope sPackedP) := ⟨rfl, rfl, rfl, by decide +kernel, rfl, by decide +kernel, by decide +kernel⟩
def spPkG (K : PySem.W.Frag) : Sp := fun vs H Q _ => ∃ (v : V) (u : U), vs = [v] ∧ Az K H v u ∧ pl u ∧ ln u ≤ 20000 ∧ dpt u ≤ 30 ∧ ∀ H', Same H H' → Q (.str (txt u)) H'
theorem ok_packedG {f f1 f2 f3 f4 : Addr} {fd d1 d2 d3 d4 : FuncData} {t t2 : Tok} (F : Fun K "packed" "packed" sPackedP f fd) (B : Bt mg) (DT : Df K mg "is_thing" sIsThing ["thing", "deepest"] f1 d1) (D1 : Df K mg "is_integer" sIsInt ["thing"] f2 d2) (D2 : Df K mg "is_signs" sIsSigns ["thing"] f3 d3)
    (DX : Df K mg "_text_of" sTextOf ["thing"] f4 d4) (hB : mg "BOUND" = some (.int (10 ^ 30) t)) (hD : mg "DEEPEST" = some (.int 30 t2)) : FnOk P w K mg base CX0 33 f fd ["thing"] (spPkG K) := by
  have GT : FnOk P w K mg base CX0 32 f1 d1 ["thing", "deepest"] (spThZ K 30) := ok_thsZ DT B D1 D2 hB 30
  have GX : FnOk P w K mg base CX0 31 f4 d4 ["thing"] (spPkT K 31) := ok_textOf DX B 31
  refine F.ok scPackedP (fun vs H Q E h => ?_) (fun cdv A outer s H vs Q E hr h => ?_)
  · obtain ⟨v, u, rfl, _⟩ := h
    rfl
  obtain ⟨v, u, rfl, hat, pu, lu, du, k⟩ := h
  refine ⟨_, pss_cons (ps_if (pt_not (pt_val (pe_call GT hr (by rfl) DT.g DT.F.kp DT.b .nil pass0 (pa_cons (pv 0) (pa_cons (pe_glob (v := .int 30) rfl hD ⟨_, rfl⟩) pa_nil))))) (pss_one ps_never) pss_nil)
    (pss_one (ps_ret (pe_call GX (hr.mono (by decide)) (by rfl) DX.g DX.F.kp DX.b .nil pass0 (pa_cons (pv 0) pa_nil)))), ?_⟩
  have hth : thB 30 u = true := thB_pl pu du
  refine q_when (b := !(thB 30 u)) (et_not (et_B (ev_call (sp := spThZ K 30) (vs := [v, .int 30]) (ea_cons (ev_var rfl) (ea_cons ev_c ea_nil)) fun H1 e1 Q q E => ⟨v, u, rfl, hat.ex e1, brd_ln (by omega), q⟩))) (fun q H1 e1 => by rw [hth] at q; cases q) fun q H1 e1 => ?_
  exact s_ret (ev_call (sp := spPkT K 31) (ea_cons (ev_var rfl) ea_nil) fun H2 e2 Q q E => ⟨v, u, rfl, hat.ex (e1.trans e2), pu, by omega, by omega, q⟩) fun H2 e2 => k H2 (e1.trans e2)
def spSe (K : PySem.W.Frag) : Sp := fun vs H Q _ => ∃ (v : V) (u : U), vs = [v] ∧ Az K H v u ∧ pl u ∧ ln u ≤ 19000 ∧ dpt u ≤ 30 ∧ ∀ H', Same H H' → Q (.str (stx u)) H'
theorem scSe : FnScope ["thing", "text"] ["thing"] (defScope sSealed) := ⟨rfl, rfl, rfl, by decide +kernel, rfl, by decide +kernel, by decide +kernel⟩
theorem ok_sealed {f fP fC : Addr} {fd dP dC : FuncData} (F : Fun K "sealed" "sealed" sSealed f fd) (R : Kd K mg) (DC : Df K mg "check" sCheck ["text"] fC dC) (gP : mg "packed" = some (.ref fP)) (kP : PySem.W.keepIn K (.ref fP) = true) (bP : Binds K dP ["thing"] []) (GP : FnOk P w K mg base CX0 33 fP dP ["thing"] (spPkG K)) :
    FnOk P w K mg base CX0 34 f fd ["thing"] (spSe K) := by
  have GC : FnOk P w K mg base CX0 3 fC dC ["text"] spCk := ok_checkK DC.F R
  have B := R.B
  refine F.ok scSe (fun vs H Q E h => ?_) (fun cdv A outer s H vs Q E hr h => ?_)
  · obtain ⟨v, u, rfl, _⟩ := h
    rfl
  obtain ⟨v, u, rfl, hat, pu, lu, du, k⟩ := h
  refine ⟨_, pss_cons (ps_set (i := 1) scSe.nd rfl (.inl rfl) (pe_call GP hr (by rfl) gP kP bP .nil pass0 (pa_cons (pv 0) pa_nil)))
    (pss_one (ps_ret (pe_op op_add_str (pe_op op_add_str (pv 1) pe_str) (pe_callTy call_str_int (by rfl) B.str boot_str' (pa_cons (pe_call GC (hr.mono (by decide)) (by rfl) DC.g DC.F.kp DC.b .nil pass0 (pa_cons (pv 1) pa_nil)) pa_nil))))), ?_⟩
  have tl' := tx_len u pu
  have l5 := num_len (tx u)
  have l1 : (("#" : Str)).length = 1 := by decide +kernel
  refine q_asg (v := .str (txt u)) (ev_call (sp := spPkG K) (ea_cons (ev_var rfl) ea_nil) fun H1 e1 Q q E => ⟨v, u, rfl, hat.ex e1, pu, by omega, du, q⟩) fun H1 e1 => ?_
  refine s_ret (ev_is (ev_addS (ev_addS (ev_var rfl) ev_c (by rw [txt_len, l1]; omega)) (ev_strN (n := ck (tx u)) (ev_call (sp := spCk) (ea_cons (ev_var rfl) ea_nil) fun H2 e2 Q q E => ⟨txt u, rfl, by rw [txt_len]; omega, ln_pr (pr_tx u pu), q⟩) (Nat.lt_trans (ck_lt _) (by decide))) (by rw [app_len, txt_len, l1, str_len]; omega)) (congrArg V.str (stx_eq u))) fun H2 e2 => k H2 (e1.trans e2)
end
end Ht
/-! k33: written_lines -/
namespace Ht
open PySem PySem.Spec PyProof.Rows L2 Hu Evl
abbrev sWl : Stmt := topS 46
theorem linesL_app : ∀ (us vs : List U) (n m : Nat), linesL (us ++ vs) n m = linesL us n m ++ linesL vs (ckL us n m) (m + (linesL us n m).length)
  | [], vs, n, m => rfl
  | v :: us, vs, n, m => by
    show lineL n v ++ linesL (us ++ vs) _ _ = (lineL n v ++ linesL us _ _) ++ _
    rw [linesL_app us vs, List.append_assoc, List.append_cancel_left_eq, List.append_cancel_left_eq]
    show linesL vs (ckL us _ _) _ = linesL vs (ckL us _ _) (m + (lineL n v ++ linesL us _ _).length)
    rw [List.length_append, Nat.add_assoc]
theorem linesL_one (u : U) (n m : Nat) : linesL [u] n m = lineL n u := List.append_nil _
theorem ckL_snoc : ∀ (us : List U) (u : U) (n m : Nat), ckL (us ++ [u]) n m = ckO (ckL us n m) (m + (linesL us n m).length) (lineL (ckL us n m) u)
  | [], u, n, m => rfl
  | v :: us, u, n, m => by
    show ckL (us ++ [u]) _ _ = _
    rw [ckL_snoc us u]
    show ckO (ckL us _ _) _ _ = ckO (ckL us _ _) (m + (lineL n v ++ linesL us _ _).length) _
    rw [List.length_append, Nat.add_assoc]
    rfl
theorem linesL_take_le (us : List U) (i n m : Nat) : (linesL (us.take i) n m).length ≤ (linesL us n m).length := by
  have h := linesL_app (us.take i) (us.drop i) n m
  rw [List.take_append_drop] at h
  rw [h, List.length_append]
  omega
theorem take_snoc {us : List U} {i : Nat} {u : U} (h : us[i]? = some u) : us.take (i + 1) = us.take i ++ [u] := by
  rw [List.take_add_one, h]
  rfl
theorem lineL_ln {n : Nat} {u : U} (hn : n < 99991) (hu : pl u) : ln' (lineL n u) = true := ln_app (ln_pr (pr_Sl (pl_line hn hu))) (by decide +kernel)
theorem linesL_ln : ∀ (us : List U) (n m : Nat), n < 99991 → plL us → ln' (linesL us n m) = true
  | [], _, _, _, _ => rfl
  | u :: us, n, m, hn, hp => ln_app (lineL_ln hn hp.1) (linesL_ln us _ _ (Nat.mod_lt _ (by decide)) hp.2)
theorem lineL_le {n : Nat} {u : U} (hn : n < 99991) (hu : eok u) : (lineL n u).length ≤ 450 := by
  have pp := pl_line hn hu.1
  have hll : ln (.tup [.int (n : Int), u]) ≤ 440 := by
    have := hu.2.2
    simp only [ln, lnL]
    omega
  have ht := tx_len _ pp
  have hS := Sl_len (.tup [.int (n : Int), u])
  unfold lineL
  rw [List.length_append, List.length_singleton]
  omega
theorem linesL_le : ∀ (us : List U) (n m : Nat), n < 99991 → (∀ u ∈ us, eok u) → (linesL us n m).length ≤ 450 * us.length
  | [], _, _, _, _ => Nat.zero_le _
  | u :: us, n, m, hn, hu => by
    have h1 := lineL_le hn (hu u (List.mem_cons_self ..))
    have h2 := linesL_le us (ckO n m (lineL n u)) (m + (lineL n u).length) (Nat.mod_lt _ (by decide)) fun x hx => hu x (List.mem_cons_of_mem _ hx)
    show (lineL n u ++ _).length ≤ _
    rw [List.length_append, List.length_cons]
    omega
theorem plL_of : ∀ {us : List U}, (∀ u ∈ us, eok u) → plL us
  | [], _ => trivial
  | u :: us, h => ⟨(h u (List.mem_cons_self ..)).1, plL_of fun x hx => h x (List.mem_cons_of_mem _ hx)⟩
theorem dptL_of : ∀ {us : List U}, (∀ u ∈ us, eok u) → dptL us ≤ 29
  | [], _ => by simp only [dptL]; omega
  | u :: us, h => by
    have h1 := (h u (List.mem_cons_self ..)).2.1
    have h2 := dptL_of (us := us) fun x hx => h x (List.mem_cons_of_mem _ hx)
    simp only [dptL]
    omega
section
variable {K : PySem.W.Frag} {σ : L2.St} {H : Hp} {te ta tl : TE} {g : TG} {tu tz : TS} {D : Ends} {E : XK}
/-- for x in a tuple -/
theorem q_forT {ys : List V} {p : Addr} (h : Ev tl σ H (.ref p)) (hs : SqT K H p ys) (Inv : Nat → L2.St → Hp → Prop) (begin_ : ∀ G, Ex H G → Inv 0 σ G) (there : ∀ k s G, k ≤ ys.length → Inv k s G → SqT K G p ys)
    (turn : ∀ k y s G, ys[k]? = some y → Inv k s G → g y s G fun s2 G2 => tu { D with nx := Inv (k + 1), ct := Inv (k + 1), bk := tz D } s2 G2)
    (done : ∀ s G, Inv ys.length s G → tz D s G) : tSeq (tFor (iTup K tl) g tu) tz D σ H :=
  h H (Ex.refl H) _ fun G x => ⟨p, rfl, ⟨ys, ex_t x hs⟩, for_tup (D := { D with nx := tz D }) Inv (begin_ G x) there turn done⟩
theorem ev_seal2 {n : Nat} {v : V} {u : U} (ha : Ev ta σ H (.int (n : Int))) (hb : Ev te σ H v) (o : Az K H v u) (hu : eok u) (hn : n < 99991) :
    Ev (tCall (spSe K) [] E (tCons (tTup (tCons ta (tCons te tNil))) tNil)) σ H (.str (stx (.tup [.int (n : Int), u]))) := fun H1 e Q q =>
  (eu_tup (ea_cons ha (ea_cons hb ea_nil)) (by show (2 : Nat) ≤ 100000; decide)) H1 e (fun x H2 => (spSe K) [x] H2 Q E) fun p H2 hp e2 h2 => by
    have pp := pl_line hn hu.1
    refine ⟨.ref p, .tup [.int (n : Int), u], rfl, .tup (st_of h2) (.cons (.int _) (.cons (o.ex (e.trans e2)) .nil)), pp, ?_, ?_, fun H' s => q H' (e2.trans s)⟩
    · have := hu.2.2
      simp only [ln, lnL]
      omega
    · have := hu.2.1
      simp only [dpt, dptL]
      omega
end
section
variable {P : Program} {w : World} {K : PySem.W.Frag} {mg : Str → Option Value} {base : Heap} {C : Addr}
def spWl (K : PySem.W.Frag) : Sp := fun vs H Q _ => ∃ (p : Addr) (xs : List V) (us : List U) (n m : Nat), vs = [.ref p, .int (n : Int), .int (m : Int)] ∧ H p = some (.tup xs) ∧ AzL K H xs us ∧ (∀ u ∈ us, eok u) ∧ us.length ≤ 2000 ∧ n < 99991 ∧ m + (linesL us n m).length ≤ 90000 ∧
  ∀ (z : Str) (H' : Hp), Same H H' → TL.tl z = linesL us n m → Q (.str z) H'
theorem scWl : FnScope ["entries", "number", "many", "text", "entry", "line"] ["entries", "number", "many"] (defScope sWl) := ⟨rfl, rfl, rfl, by decide +kernel, rfl, by decide +kernel, by decide +kernel⟩
theorem ok_wl {f fS fK : Addr} {fd dS dK : FuncData} (F : Fun K "written_lines" "written_lines" sWl f fd) (B : Bt mg) (DS : Df K mg "sealed" sSealed ["thing"] fS dS) (GS : FnOk P w K mg base CX0 34 fS dS ["thing"] (spSe K))
    (DK : Df K mg "check_behind" sCheckB ["number", "many", "text"] fK dK) (GK : FnOk P w K mg base CX0 1 fK dK ["number", "many", "text"] spCB) : FnOk P w K mg base CX0 35 f fd ["entries", "number", "many"] (spWl K) := by
  refine F.ok scWl (fun vs H Q E h => ?_) (fun cdv A outer s H vs Q E hr h => ?_)
  · obtain ⟨p, xs, us, n, m, rfl, _⟩ := h
    rfl
  obtain ⟨p, xs, us, n, m, rfl, hp, ho, hu, hus, hn, hm, k⟩ := h
  refine ⟨_, pss_cons (ps_set (i := 3) scWl.nd rfl (.inl rfl) pe_str)
    (pss_cons (ps_for PassesOwn.never rfl (pi_tup (pv 0)) (pg_name (i := 4) scWl.nd rfl (Or.inl rfl))
      (pss_cons (ps_set (i := 5) scWl.nd rfl (.inl rfl) (pe_op op_add_str (pe_call GS hr (by rfl) DS.g DS.F.kp DS.b .nil pass0 (pa_cons (pe_tup (pa_cons (pv 1) (pa_cons (pv 4) pa_nil))) pa_nil)) pe_str))
      (pss_cons (ps_set (i := 1) scWl.nd rfl (.inl rfl) (pe_call GK (hr.mono (by decide)) (by rfl) DK.g DK.F.kp DK.b .nil pass0 (pa_cons (pv 1) (pa_cons (pe_op op_add (pv 2) (pe_callB call_len_str (by rfl) B.len PySem.boot_len (pa_cons (pv 3) pa_nil))) (pa_cons (pv 5) pa_nil)))))
      (pss_one (ps_set (i := 3) scWl.nd rfl (.inl rfl) (pe_op op_add_str (pv 3) (pv 5)))))))
    (pss_one (ps_ret (pv 3)))), ?_⟩
  refine q_asg (v := .str "") ev_c fun H0 e0 => ?_
  have hlen := AzL.length ho
  show tSeq _ _ _ [some (.ref p), some (.int (n : Int)), some (.int (m : Int)), some (.str ""), none, none] H0
  refine q_forT (p := p) (ys := xs) (ev_var rfl) (st_of (e0 _ _ hp)) (fun i σ' H' => ∃ (z : Str) (x4 x5 : Option V), σ' = [some (.ref p), some (.int ((ckL (us.take i) n m : Nat) : Int)), some (.int (m : Int)), some (.str z), x4, x5] ∧ Ex H H' ∧ TL.tl z = linesL (us.take i) n m) (fun H1 e1 => ⟨"", none, none, rfl, e0.trans e1, rfl⟩) ?_ ?_ ?_
  · rintro i σ' H' hi ⟨z, x4, x5, rfl, e, _⟩
    exact st_of (e _ _ hp)
  · rintro i x σ' H' hx ⟨z, x4, x5, rfl, e, hz⟩
    obtain ⟨u, hu2, ou⟩ := AzL.getV ho hx
    have ek := hu u (List.mem_of_getElem? hu2)
    have hi : i < us.length := (List.getElem?_eq_some_iff.mp hu2).1
    have hts := take_snoc hu2
    have hcl := ckL_lt (us.take i) n m hn
    have hle := linesL_take_le us (i + 1) n m
    rw [hts, linesL_app, linesL_one, List.length_append] at hle
    have hzl : z.length = (linesL (us.take i) n m).length := by rw [TL.len_tl, hz]
    have hl2 := lineL_le hcl ek
    have hs := stx_len (.tup [.int ((ckL (us.take i) n m : Nat) : Int), u])
    have hn1 : (("\n" : Str)).length = 1 := by decide +kernel
    have hty : TL.tl (stx (.tup [.int ((ckL (us.take i) n m : Nat) : Int), u]) ++ "\n") = lineL (ckL (us.take i) n m) u := by
      rw [TL.tl_append]
      rfl
    have hyl : (stx (.tup [.int ((ckL (us.take i) n m : Nat) : Int), u]) ++ "\n").length = (lineL (ckL (us.take i) n m) u).length := by rw [TL.len_tl, hty]
    refine q_asg (v := .str (stx (.tup [.int ((ckL (us.take i) n m : Nat) : Int), u]) ++ "\n")) (ev_addS (ev_seal2 (ev_var rfl) (ev_var rfl) (ou.ex e) ek hcl) ev_c (by rw [app_len] at hyl; omega)) fun H1 e1 => ?_
    generalize stx (.tup [.int ((ckL (us.take i) n m : Nat) : Int), u]) ++ ("\n" : Str) = y at hty hyl
    refine q_asg (v := .int ((ckL (us.take (i + 1)) n m : Nat) : Int)) (ev_call (sp := spCB) (vs := [.int ((ckL (us.take i) n m : Nat) : Int), .int ((m + z.length : Nat) : Int), .str y]) (ea_cons (ev_var rfl) (ea_cons (ev_is (ev_op (ev_var rfl) (ev_lenS (ev_var rfl) (by omega)) rv_I0) (congrArg V.int (by omega))) (ea_cons (ev_var rfl) ea_nil))) fun H2 e2 Q q E => ⟨_, m + z.length, y, rfl, by omega, by omega, by rw [hty]; exact lineL_ln hcl ek.1, fun H' s' => by
      have := q H' s'
      rw [hts, ckL_snoc] at this
      rw [hty, hzl]
      exact this⟩) fun H2 e2 => ?_
    refine s_asg (v := .str (z ++ y)) (ev_addS (ev_var rfl) (ev_var rfl) (by omega)) fun H3 e3 => ?_
    exact ⟨z ++ y, _, _, rfl, ((e.trans e1).trans e2).trans e3, by rw [TL.tl_append, hz, hty, hts, linesL_app, linesL_one]⟩
  · rintro σ' H' ⟨z, x4, x5, rfl, e, hz⟩
    refine s_ret (ev_var rfl) fun H1 e1 => k z H1 (e.trans e1) ?_
    rw [hz, hlen, List.take_length]
end
end Ht
/-! k33: opened -/
namespace Ht
open PySem PySem.Spec PyProof.Rows L2 Hu Evl
abbrev sOpened : Stmt := topS 45
def isIt (a : U) : Bool := match a with | .str z => z == ("item" : Str) | _ => false
def itemOf (u : U) : Option U := match u with | .tup [a, c] => if isIt a then some c else none | _ => none
/-- the items of entries -/
def itemsU (us : List U) : List U := us.filterMap itemOf
theorem itemOf_item (u : U) : itemOf (itemE u) = some u := by
  have h1 : isIt (.str "item") = true := by decide +kernel
  show (if isIt (.str "item") then some u else none) = some u
  rw [if_pos h1]
theorem itemOf_area (g : Nat) : itemOf (areaE g) = none := by
  have h1 : ¬ isIt (.str "area") = true := by decide +kernel
  show (if isIt (.str "area") then some (U.int (g : Int)) else none) = none
  rw [if_neg h1]
theorem items_map (is : List U) : itemsU (is.map itemE) = is := by
  unfold itemsU
  induction is with
  | nil => rfl
  | cons u is ih => rw [List.map_cons, List.filterMap_cons, itemOf_item, ih]
theorem items_app (a b : List U) : itemsU (a ++ b) = itemsU a ++ itemsU b := List.filterMap_append ..
theorem items_area (g : Nat) (us : List U) : itemsU (areaE g :: us) = itemsU us := by
  unfold itemsU
  rw [List.filterMap_cons, itemOf_area]
theorem items_whole : itemsU [wholeE] = [] := rfl
theorem items_one (u : U) : itemsU [itemE u] = [u] := items_map [u]
theorem items_kept (g : Nat) (is : List U) : itemsU (areaE g :: (is.map itemE ++ [wholeE])) = is := by
  rw [items_area, items_app, items_map, items_whole, List.append_nil]
theorem items_not {b : U} (h : pairU b = false) : itemOf b = none := by
  cases b with
  | tup us =>
    match us, h with
    | [], _ => rfl
    | [a], _ => rfl
    | [a, b], h => cases h
    | a :: b :: c :: us, _ => rfl
  | _ => rfl
theorem eqv_item {a : U} (h : pl a) : PyData.eqv (pyd a) (.str "item") = isIt a := by
  cases a with
  | non => rfl
  | int i => rfl
  | str z => rfl
  | tup us => rfl
  | bl _ => simp only [pl] at h
  | lst _ => simp only [pl] at h
  | dct _ => simp only [pl] at h
  | exc => simp only [pl] at h
theorem plL_items : ∀ {us : List U}, plL us → plL (itemsU us)
  | [], _ => trivial
  | u :: us, h => by
    unfold itemsU
    rw [List.filterMap_cons]
    cases hu : itemOf u with
    | none => exact plL_items h.2
    | some c =>
      refine ⟨?_, plL_items h.2⟩
      cases hp : pairU u with
      | false => rw [items_not hp] at hu; cases hu
      | true =>
        obtain ⟨a, b, rfl⟩ := pairU_inv hp
        have h1 := h.1
        simp only [pl, plL, and_true] at h1
        have hu : (if isIt a then some b else none) = some c := hu
        by_cases q : isIt a = true
        · rw [if_pos q] at hu
          rw [← Option.some.inj hu]
          exact h1.2
        · rw [if_neg q] at hu
          cases hu
theorem dptL_items : ∀ {us : List U}, dptL (itemsU us) ≤ dptL us
  | [] => Nat.le_refl _
  | u :: us => by
    unfold itemsU
    rw [List.filterMap_cons]
    have ih := dptL_items (us := us)
    unfold itemsU at ih
    cases hu : itemOf u with
    | none =>
      simp only [dptL]
      omega
    | some c =>
      cases hp : pairU u with
      | false => rw [items_not hp] at hu; cases hu
      | true =>
        obtain ⟨a, b, rfl⟩ := pairU_inv hp
        have hu : (if isIt a then some b else none) = some c := hu
        by_cases q : isIt a = true
        · rw [if_pos q] at hu
          rw [← Option.some.inj hu]
          simp only [dptL, dpt]
          omega
        · rw [if_neg q] at hu
          cases hu
/-- at least one sign an entry -/
theorem cnt_len {l : List Nat} : ∀ (f p n : Nat), p ≤ l.length → (cnt l f p n).1.length + p ≤ (cnt l f p n).2 ∧ (cnt l f p n).2 ≤ l.length
  | 0, p, n, h => by
    show 0 + p ≤ p ∧ p ≤ l.length
    omega
  | f + 1, p, n, h => by
    rw [cnt]
    cases hx : nxt l p n with
    | none =>
      show 0 + p ≤ p ∧ p ≤ l.length
      omega
    | some x =>
      obtain ⟨b, p', n'⟩ := x
      have h1 := nxt_lt hx
      have h2 := cnt_len (l := l) f p' n' h1.2.1
      dsimp only
      rw [List.length_cons]
      omega
theorem cntT_len (l : List Nat) : (cntT l).1.length ≤ l.length ∧ (cntT l).2 ≤ l.length := by
  have := cnt_len (l := l) (l.length + 1) 0 0 (Nat.zero_le _)
  unfold cntT
  omega
/-- which area stands -/
def stA (ar : List Str) : Option Nat := stN (genT (ar.getD 0 "")) (genT (ar.getD 1 ""))
theorem stN_lt {g0 g1 : Option Nat} {k : Nat} (h : stN g0 g1 = some k) : k < 2 := by
  cases g0 with
  | none => cases g1 with
    | none => cases h
    | some b => cases h; decide
  | some a => cases g1 with
    | none => cases h; decide
    | some b =>
      have h : (if a < b then some 1 else some 0) = some k := h
      by_cases q : a < b
      · rw [if_pos q] at h; cases h; decide
      · rw [if_neg q] at h; cases h; decide
/-- the entries, and how many signs count -/
def entA (ar : List Str) (k : Nat) : List U × Nat := cntT (TL.tl (ar.getD k ""))
/-- what opened tells -/
def opU (ar : List Str) : List U := match stA ar with | none => [] | some k => itemsU (entA ar k).1
def text0 : Str := mkS (linesL [areaE 0, wholeE] 0 0)
/-- the areas behind it -/
def opA (ar : List Str) : List Str := match stA ar with | none => [text0, ""] | some k => (["", ""] : List Str).set k (cutS (ar.getD k "") none (some ((entA ar k).2 : Int)))
theorem tl_text0 : TL.tl text0 = linesL [areaE 0, wholeE] 0 0 := rfl
theorem ek_area {g : Nat} (h : g < 10 ^ 20) : eok (areaE g) := by
  refine ⟨?_, ?_, ?_⟩
  · simp only [areaE, pl, plL, and_true]
    exact ⟨by decide +kernel, by show (g : Int).natAbs < 10 ^ 30; have : (10 : Nat) ^ 20 < 10 ^ 30 := by decide
                                 omega⟩
  · simp only [areaE, dpt, dptL]
    omega
  · have h4 : (("area" : Str)).length = 4 := by decide +kernel
    simp only [areaE, ln, lnL, h4]
    omega
theorem ek_whole : eok wholeE := by
  refine ⟨?_, ?_, ?_⟩
  · simp only [wholeE, pl, plL, and_true]
    decide +kernel
  · simp only [wholeE, dpt, dptL]
    omega
  · have h4 : (("whole" : Str)).length = 5 := by decide +kernel
    simp only [wholeE, ln, lnL, h4]
    omega
theorem ek0 : ∀ u ∈ [areaE 0, wholeE], eok u := by
  intro u hu
  simp only [List.mem_cons, List.not_mem_nil, or_false] at hu
  rcases hu with rfl | rfl
  · exact ek_area (by decide)
  · exact ek_whole
/-- an item's value -/
def sndV (H : Hp) : V → V
  | .ref a => match H a with | some (.tup [_, c]) => c | _ => .non
  | _ => .non
theorem given_od {H H' : Hp} {xs : List V} {us : List U} (v : Nat → V) (hv : ∀ i u c, us[i]? = some u → itemOf u = some c → Od H' (v i) c) : ∀ n, n ≤ us.length → OdL H' (given n (fun i => ((us[i]?).bind itemOf).isSome) v) ((us.take n).filterMap itemOf)
  | 0, _ => .nil
  | n + 1, hn => by
    have ih := given_od (H := H) (xs := xs) v hv n (by omega)
    have hg : us[n]? = some us[n] := List.getElem?_eq_getElem (by omega)
    rw [take_snoc hg, List.filterMap_append]
    cases hi : itemOf us[n] with
    | none =>
      rw [given_no (by rw [hg]; show (itemOf us[n]).isSome = false; rw [hi]; rfl)]
      rw [List.filterMap_cons, hi, List.filterMap_nil, List.append_nil]
      exact ih
    | some c =>
      rw [given_yes (by rw [hg]; show (itemOf us[n]).isSome = true; rw [hi]; rfl)]
      rw [List.filterMap_cons, hi, List.filterMap_nil]
      exact OdL.append ih (.cons (hv n _ c hg hi) .nil)
theorem OdL.kpd {d : DA} {C : Addr} {H H' : Hp} {ar : List Str} {vs : List V} {us : List U} (D : DAt C H d ar) (kp : KpD d H H') (o : OdL H vs us) (p : plL us) : OdL H' vs us := by
  obtain ⟨gs, hg, _⟩ := D.g
  refine o.tups (fun a xs h => kp a _ (fun e => ?_) (fun e => ?_) (fun e => ?_) h) (smL_pl us p)
  · rw [e, D.a] at h; cases h
  · rw [e, D.c] at h; cases h
  · rw [e, hg] at h; cases h
section
variable {P : Program} {w : World} {K : PySem.W.Frag} {mg : Str → Option Value} {base : Heap} {C aW : Addr}
/-- what opened, noted and kept reach -/
structure Dr (P : Program) (w : World) (K : PySem.W.Frag) (mg : Str → Option Value) (base : Heap) (C aW : Addr) : Prop where
  B : Bt mg
  T : Dk K mg C
  W : Wh K mg aW
  ar : ∃ f d, Me K C "area" "Disk.area" (sDk 1) ["self", "k"] f d ∧ FnOk P w K mg base CX0 4 f d ["self", "k"] (spArea C)
  gn : ∃ f d, Me K C "generation" "Disk.generation" (sDk 3) ["self", "k"] f d ∧ FnOk P w K mg base CX0 69 f d ["self", "k"] (spGen C)
  ap : ∃ f d, Me K C "append" "Disk.append" (sDk 4) ["self", "k", "text", "most"] f d ∧ FnOk P w K mg base CX0 4 f d ["self", "k", "text", "most"] (spApp C)
  cl : ∃ f d, Me K C "clear" "Disk.clear" (sDk 5) ["self", "k"] f d ∧ FnOk P w K mg base CX0 4 f d ["self", "k"] (spClear C)
  sh : ∃ f d, Me K C "shorten" "Disk.shorten" (sDk 6) ["self", "k", "many"] f d ∧ FnOk P w K mg base CX0 4 f d ["self", "k", "many"] (spShort C)
  st : ∃ f d, Df K mg "standing" sStand ["disk"] f d ∧ FnOk P w K mg base CX0 70 f d ["disk"] (spSt C)
  ct : ∃ f d, Df K mg "_counted" sCounted ["text"] f d ∧ FnOk P w K mg base CX0 68 f d ["text"] spCt
  wl : ∃ f d, Df K mg "written_lines" sWl ["entries", "number", "many"] f d ∧ FnOk P w K mg base CX0 35 f d ["entries", "number", "many"] (spWl K)
  pr : ∃ f d, Df K mg "is_pair" sPair ["thing"] f d ∧ FnOk P w K mg base CX0 1 f d ["thing"] spPr
theorem nil_appS (z : Str) : ("" : Str) ++ z = z := TL.ext_tl (by rw [TL.tl_append]; rfl)
theorem az_whole (W : Wh K mg aW) (H : Hp) : Az K H (.ref aW) wholeE := .tup (W.s H) (.cons (.str _) .nil)
def spOp (C : Addr) : Sp := fun vs H Q _ => ∃ (d : DA) (ar : List Str), vs = [.ref d.p] ∧ DAt C H d ar ∧ (∀ z ∈ ar, z.length ≤ 39000) ∧
  ∀ (l : Addr) (xs : List V) (H' : Hp), KpD d H H' → DAt C H' d (opA ar) → H l = none → H' l = some (.lst xs) → OdL H' xs (opU ar) → Q (.ref l) H'
theorem scOp : FnScope ["disk", "k", "entries", "many", "entry"] ["disk"] (defScope sOpened) := ⟨rfl, rfl, rfl, by decide +kernel, rfl, by decide +kernel, by decide +kernel⟩
theorem no_app (al cl gl : Addr) : (dF al cl gl).lookup ("append" : Str) = none := dF_no _ _ _ (by decide +kernel) (by decide +kernel) (by decide +kernel)
theorem no_clr (al cl gl : Addr) : (dF al cl gl).lookup ("clear" : Str) = none := dF_no _ _ _ (by decide +kernel) (by decide +kernel) (by decide +kernel)
theorem no_sho (al cl gl : Addr) : (dF al cl gl).lookup ("shorten" : Str) = none := dF_no _ _ _ (by decide +kernel) (by decide +kernel) (by decide +kernel)
theorem op_set {z0 z1 : Str} {k : Nat} {x : Str} (h : k < 2) : (([z0, z1] : List Str).set k x).set (1 - k) "" = (["", ""] : List Str).set k x := by
  match k, h with
  | 0, _ => rfl
  | 1, _ => rfl
set_option maxHeartbeats 1000000 in
theorem ok_opened {f : Addr} {fd : FuncData} (F : Fun K "opened" "opened" sOpened f fd) (R : Dr P w K mg base C aW) : FnOk P w K mg base CX0 71 f fd ["disk"] (spOp C) := by
  obtain ⟨B, T, W, ⟨fa, da, Ma, Ga⟩, ⟨fg, dg, Mg, Gg⟩, ⟨fp, dp, Mp, Gp⟩, ⟨fc, dc, Mc, Gc⟩, ⟨fs, ds, Ms, Gs⟩, ⟨ft, dt, Dt, Gt⟩, ⟨fk, dk, Dk', Gk⟩, ⟨fw, dw, Dw', Gw⟩, ⟨fr, dr, Dr', Gr⟩⟩ := R
  refine F.ok scOp (fun vs H Q E h => ?_) (fun cdv A outer s H vs Q E hr h => ?_)
  · obtain ⟨d, ar, rfl, _⟩ := h
    rfl
  obtain ⟨d, ar, rfl, D, hz, k⟩ := h
  refine ⟨_, pss_cons (ps_set (i := 1) scOp.nd rfl (.inl rfl) (pe_call Gt hr (by rfl) Dt.g Dt.F.kp Dt.b .nil pass0 (pa_cons (pv 0) pa_nil)))
    (pss_cons (ps_if (pt_cmpR op_isN1 (pv 1) pe_non (nomark _))
      (pss_cons (ps_expr (pe_meth (pv 0) T.cl Mc.m Gc (hr.mono (by decide)) Mc.b .nil pass0 (pa_cons pe_int pa_nil)))
      (pss_cons (ps_expr (pe_meth (pv 0) T.cl Mc.m Gc (hr.mono (by decide)) Mc.b .nil pass0 (pa_cons pe_int pa_nil)))
      (pss_cons (ps_expr (pe_meth (pv 0) T.cl Mp.m Gp (hr.mono (by decide)) Mp.b .nil pass0 (pa_cons pe_int (pa_cons (pe_call Gw (hr.mono (by decide)) (by rfl) Dw'.g Dw'.F.kp Dw'.b .nil pass0
        (pa_cons (pe_tup (pa_cons (pe_tup (pa_cons pe_str (pa_cons pe_int pa_nil))) (pa_cons (pe_glob (v := .ref aW) (by rfl) W.g rfl) pa_nil))) (pa_cons pe_int (pa_cons pe_int pa_nil)))) (pa_cons pe_non pa_nil)))))
      (pss_one (ps_ret (pe_lst pa_nil)))))) pss_nil)
    (pss_cons (ps_asg (pe_call Gk (hr.mono (by decide)) (by rfl) Dk'.g Dk'.F.kp Dk'.b .nil pass0 (pa_cons (pe_meth (pv 0) T.cl Ma.m Ga (hr.mono (by decide)) Ma.b .nil pass0 (pa_cons (pv 1) pa_nil)) pa_nil)) (pg_tup rfl (pgs_cons (pg_name (i := 2) scOp.nd rfl (.inl rfl)) (pgs_cons (pg_name (i := 3) scOp.nd rfl (.inl rfl)) pgs_nil))))
    (pss_cons (ps_expr (pe_meth (pv 0) T.cl Ms.m Gs (hr.mono (by decide)) Ms.b .nil pass0 (pa_cons (pv 1) (pa_cons (pv 3) pa_nil))))
    (pss_cons (ps_expr (pe_meth (pv 0) T.cl Mc.m Gc (hr.mono (by decide)) Mc.b .nil pass0 (pa_cons (pe_op op_sub pe_int (pv 1)) pa_nil)))
    (pss_one (ps_ret (pe_lc (own := [("entry", 4)]) (g := gName 4) (tt := tAnd (tB (tCall spPr [] E0 (tCons (tVar 4) tNil))) (tTest (tOp (rEqD K) (tOp (rIxT K) (tVar 4) (tC (.int 0))) (tC (.str "item"))))) rfl scOp.nd (pi_list (pv 2)) (blkOk_by (N := ["disk", "k", "entries", "many", "entry"]) (sc := defScope sOpened) (by decide +kernel))
      (fun _ _ _ _ _ => pg_name (i := 4) scOp.nd rfl (Or.inl rfl)) (fun _ _ _ _ _ => pts_one (PW.pt (pw_and (pt_val (pe_call Gr (hr.mono (by decide)) (by rfl) Dr'.g Dr'.F.kp Dr'.b .nil pass0 (pa_cons (pv 4) pa_nil))) (pw_and1 (pt_cmpR (op_eqD hr.units) (pe_ix (r := rIxT K) ix_tup (pv 4) pe_int (fun _ _ => rfl)) pe_str (nomark _)))))) (fun _ _ _ _ _ => pe_ix (r := rIxT K) ix_tup (pv 4) pe_int (fun _ _ => rfl))))))))), ?_⟩
  obtain ⟨z0, z1, rfl⟩ : ∃ z0 z1, ar = [z0, z1] := by
    match ar, D.r.l with
    | [x, y], _ => exact ⟨x, y, rfl⟩
  refine ⟨_, rfl, d, z0, z1, rfl, D, fun H1 x1 D1 => ?_⟩
  have hst : stN (genU (cntT (TL.tl z0)).1) (genU (cntT (TL.tl z1)).1) = stA [z0, z1] := rfl
  rw [hst]
  show tSeq _ _ _ [some (.ref d.p), some (oV (stA [z0, z1])), none, none, none] H1
  cases hs : stA [z0, z1] with
  | none =>
    refine q_when (et_is (et_test (ev_op (ev_var rfl) ev_c rv_isNon)) (oV_non none)) (fun _ H2 e2 => ?_) (fun q => by cases q)
    have D2 := D1.ex e2
    refine ⟨_, rfl, d.p, d.dx, _, rfl, D2.o, no_clr _ _ _, d, [z0, z1], 0, rfl, D2, by decide, fun H3 x3 D3 => ?_⟩
    refine ⟨_, rfl, d.p, d.dx, _, rfl, D3.o, no_clr _ _ _, d, _, 1, rfl, D3, by decide, fun H4 x4 D4 => ?_⟩
    have hln0 : (linesL [areaE 0, wholeE] 0 0).length ≤ 900 := linesL_le _ 0 0 (by decide) ek0
    refine ⟨_, rfl, d.p, d.dx, _, rfl, D4.o, no_app _ _ _, ⟨sz_of (show (2 : Nat) ≤ 100000 by decide), fun pa hpa => ⟨sz_of (show (2 : Nat) ≤ 100000 by decide), fun pb hpb => ?_⟩⟩⟩
    have ea := Ex.new (o := .tup [V.str "area", .int 0]) hpa
    have hAt : upd H4 pa (.tup [V.str "area", .int 0]) pa = some (.tup [V.str "area", .int 0]) := upd_same
    generalize upd H4 pa (.tup [V.str "area", .int 0]) = H5 at hpb ea hAt
    have eb := Ex.new (o := .tup [V.ref pa, .ref aW]) hpb
    have hBt : upd H5 pb (.tup [V.ref pa, .ref aW]) pb = some (.tup [V.ref pa, .ref aW]) := upd_same
    generalize upd H5 pb (.tup [V.ref pa, .ref aW]) = H6 at eb hBt
    refine ⟨pb, _, [areaE 0, wholeE], 0, 0, rfl, hBt, .cons (.tup (st_of (eb _ _ hAt)) (.cons (.str _) (.cons (.int _) .nil))) (.cons (az_whole W _) .nil), ek0, by show (2 : Nat) ≤ 2000; decide, by decide, by omega, fun z H7 s7 hzz => ?_⟩
    have e7 := (ea.trans eb).trans s7
    have hzl : z.length = (linesL [areaE 0, wholeE] 0 0).length := by rw [TL.len_tl, hzz]
    refine ⟨d, _, 0, "", z, .non, none, rfl, rfl, D4.ex e7, rfl, by rw [hzz]; exact linesL_ln _ 0 0 (by decide) (plL_of ek0), by show 0 + z.length ≤ 90000; omega, fun H8 x8 D8 => ?_⟩
    refine ⟨sz_of (show (0 : Nat) ≤ 100000 by decide), fun l hl => ?_⟩
    have X8 : KpD d H H8 := (((((x1.trans (.of_ex e2)).trans x3).trans x4).trans (.of_ex e7)).trans x8)
    have hl0 : H l = none := by
      cases q : H l with
      | none => rfl
      | some o =>
        obtain ⟨gs, hgs, _⟩ := D.g
        by_cases q1 : l = d.al
        · rw [q1, D8.a] at hl; cases hl
        by_cases q2 : l = d.cl
        · rw [q2, D8.c] at hl; cases hl
        by_cases q3 : l = d.gl
        · obtain ⟨gs8, hg8, _⟩ := D8.g
          rw [q3, hg8] at hl; cases hl
        · rw [X8 l o q1 q2 q3 q] at hl
          cases hl
    refine k l [] _ (X8.trans (.of_ex (Ex.new hl))) ?_ hl0 upd_same ?_
    · have e0 : z = text0 := TL.ext_tl hzz
      have e1 : opA [z0, z1] = [text0, ""] := by
        unfold opA
        rw [hs]
      rw [e1]
      have := D8.ex (Ex.new (o := .lst []) hl)
      have e2 : ("" : Str) ++ wrt z none = z := nil_appS z
      rw [e2] at this
      rw [← e0]
      exact this
    · have e1 : opU [z0, z1] = [] := by
        unfold opU
        rw [hs]
      rw [e1]
      exact .nil
  | some j =>
    have hj := stN_lt hs
    refine q_when (b := false) (et_is (et_test (ev_op (ev_var rfl) ev_c rv_isNon)) (oV_non (some j))) (fun q => by cases q) (fun _ H2 e2 => ?_)
    have D2 := D1.ex e2
    obtain ⟨zj, hzj⟩ : ∃ zj, ([z0, z1] : List Str)[j]? = some zj := ⟨_, List.getElem?_eq_getElem (by show j < 2; exact hj)⟩
    have hgd : ([z0, z1] : List Str).getD j "" = zj := by
      rw [List.getD_eq_getElem?_getD, hzj]
      rfl
    have hmem := List.mem_of_getElem? hzj
    have hzl := hz zj hmem
    have hlz := TL.len_tl zj
    obtain ⟨cl1, cl2⟩ := cntT_len (TL.tl zj)
    show tSeq _ _ _ [some (.ref d.p), some (.int (j : Int)), none, none, none] H2
    refine q_asgC (sp := spCt) (dvs := []) (vs := [.str zj]) (ea_cons (ev_areaM D2 (ev_var rfl) (ev_var rfl) hzj) ea_nil) fun H3 e3 => ?_
    refine ⟨zj, rfl, by omega, D.r.ln zj hmem, fun t l xs H4 s4 hl ht hl4 ho => ⟨t, _, rfl, st_of ht, rfl, .ref l, _, rfl, .int ((cntT (TL.tl zj)).2 : Int), [], rfl, rfl, ?_⟩⟩
    have E4 := e3.trans s4
    have D4 := D2.ex E4
    show tSeq _ _ _ [some (.ref d.p), some (.int (j : Int)), some (.ref l), some (.int ((cntT (TL.tl zj)).2 : Int)), none] H4
    refine ⟨_, rfl, d.p, d.dx, _, rfl, D4.o, no_sho _ _ _, _, rfl, _, rfl, d, [z0, z1], j, (cntT (TL.tl zj)).2, zj, rfl, D4, hzj, by omega, fun H5 x5 D5 => ?_⟩
    have hone : (1 : Int) - (j : Int) = ((1 - j : Nat) : Int) := by omega
    refine ⟨_, rfl, d.p, d.dx, _, rfl, D5.o, no_clr _ _ _, _, rfl, 1, (j : Int), rfl, rfl, d, _, 1 - j, by show [V.ref d.p, V.int ((1 : Int) - (j : Int))] = _; rw [hone], D5, by omega, fun H6 x6 D6 => ?_⟩
    rw [op_set hj] at D6
    obtain ⟨hp1, hp2⟩ := cnt_pl (l := TL.tl zj) ((TL.tl zj).length + 1) 0 0
    have hp1 : plL (cntT (TL.tl zj)).1 := hp1
    have hp2 : dptL (cntT (TL.tl zj)).1 ≤ 29 := hp2
    have X6 := x5.trans x6
    have ho6 := OdL.kpd D4 X6 ho hp1
    obtain ⟨gs4, hg4, _⟩ := D4.g
    have hl6 : H6 l = some (.lst xs) := X6 l _ (fun e => by have h2 := D2.a; rw [← e] at h2; rw [e3 _ _ h2] at hl; cases hl) (fun e => by have h2 := D2.c; rw [← e] at h2; rw [e3 _ _ h2] at hl; cases hl)
      (fun e => by obtain ⟨gs2, h2, _⟩ := D2.g; rw [← e] at h2; rw [e3 _ _ h2] at hl; cases hl) hl4
    have hxl := OdL.length ho6
    obtain ⟨us, hus⟩ : ∃ us, (cntT (TL.tl zj)).1 = us := ⟨_, rfl⟩
    rw [hus] at ho6 hp1 hp2 cl1 hxl
    have EL := el_lcL (K := K) (σ := [some (.ref d.p), some (.int (j : Int)), some (.ref l), some (.int ((cntT (TL.tl zj)).2 : Int)), none]) (H := H6) (a := l) (xs := xs) (tl := tVar 2) (j := 4) (vs := [4]) (t := tAnd (tB (tCall spPr [] E0 (tCons (tVar 4) tNil))) (tTest (tOp (rEqD K) (tOp (rIxT K) (tVar 4) (tC (.int 0))) (tC (.str "item"))))) (te := tOp (rIxT K) (tVar 4) (tC (.int 1)))
      (fun i => ((us[i]?).bind itemOf).isSome) (fun i => sndV H6 (xs.getD i .non)) (ev_var rfl) (sq_of hl6) (by omega) (fun x => rfl) (fun i x H7 e7 hx => ?_) (fun i x H7 e7 hx hf => ?_)
    · refine EL H6 (Ex.refl _) _ fun p H7 hp e7 h7 => ?_
      have X7 : KpD d H H7 := ((((x1.trans (.of_ex e2)).trans (.of_ex E4)).trans X6).trans (.of_ex e7))
      have D7 := D6.ex e7
      have hp0 : H p = none := by
        cases q : H p with
        | none => rfl
        | some o =>
          by_cases q1 : p = d.al
          · rw [q1, D6.a] at hp; cases hp
          by_cases q2 : p = d.cl
          · rw [q2, D6.c] at hp; cases hp
          by_cases q3 : p = d.gl
          · obtain ⟨gs8, hg8, _⟩ := D6.g
            rw [q3, hg8] at hp; cases hp
          · rw [((x1.trans (.of_ex e2)).trans (.of_ex E4)).trans X6 p o q1 q2 q3 q] at hp
            cases hp
      refine k p _ H7 X7 ?_ hp0 h7 ?_
      · have e1 : opA [z0, z1] = (["", ""] : List Str).set j (cutS zj none (some ((cntT (TL.tl zj)).2 : Int))) := by
          unfold opA
          rw [hs]
          show (["", ""] : List Str).set j (cutS (([z0, z1] : List Str).getD j "") none (some ((entA [z0, z1] j).2 : Int))) = _
          unfold entA
          rw [hgd]
        rw [e1]
        exact D7
      · have e1 : opU [z0, z1] = us.filterMap itemOf := by
          unfold opU
          rw [hs]
          show itemsU (entA [z0, z1] j).1 = _
          unfold entA
          rw [hgd, hus]
          rfl
        rw [e1]
        have := given_od (H := H6) (H' := H7) (xs := xs) (us := us) (fun i => sndV H6 (xs.getD i .non)) (fun i u c hi hc => ?_) us.length (Nat.le_refl _)
        · rw [List.take_length] at this
          rw [hxl]
          exact this
        · obtain ⟨x, hx, ox⟩ := OdL.get ho6 hi
          cases hpu : pairU u with
          | false => rw [items_not hpu] at hc; cases hc
          | true =>
            obtain ⟨a, b, rfl⟩ := pairU_inv hpu
            obtain ⟨pb, va, vb, rfl, hb, oa, ob⟩ := od_pair ox
            have hc : (if isIt a then some b else none) = some c := hc
            by_cases q : isIt a = true
            · rw [if_pos q] at hc
              rw [← Option.some.inj hc]
              have : sndV H6 (xs.getD i .non) = vb := by
                rw [List.getD_eq_getElem?_getD, hx]
                show sndV H6 (.ref pb) = vb
                unfold sndV
                dsimp only
                rw [hb]
              show Od H7 (sndV H6 (xs.getD i .non)) b
              rw [this]
              exact ob.ex e7
            · rw [if_neg q] at hc
              cases hc
    · obtain ⟨u, hu, ou⟩ := od_get ho6 hx
      have ou7 := ou.ex e7
      have hpu := List.mem_of_getElem? hu
      rw [hu]
      show EvT _ _ H7 (itemOf u).isSome
      have evP : EvT (tB (tCall spPr [] E0 (tCons (tVar 4) tNil))) [some (.ref d.p), some (.int (j : Int)), some (.ref l), some (.int ((cntT (TL.tl zj)).2 : Int)), some x] H7 (pairU u) := et_B (ev_call (sp := spPr) (ea_cons (ev_var rfl) ea_nil) fun H8 e8 Q q E => ⟨x, u, rfl, ou7.ex e8, q⟩)
      cases hp : pairU u with
      | false =>
        rw [hp] at evP
        rw [items_not hp]
        exact et_is (et_and (b := false) evP fun q => by cases q) rfl
      | true =>
        rw [hp] at evP
        obtain ⟨a, b, rfl⟩ := pairU_inv hp
        have pu := pl_mem hp1 hpu
        have du := dpt_mem (us := us) hpu
        simp only [pl, plL, and_true] at pu
        simp only [dpt, dptL] at du
        obtain ⟨pb, va, vb, rfl, hb, oa, ob⟩ := od_pair ou7
        refine et_is (et_and (b := isIt a) evP fun _ => et_test fun H8 e8 Q q => ev_ixT (i := 0) (ev_var rfl) ev_c hb rfl H8 e8 _ fun H9 e9 => ⟨pyd a, .str "item", od_dp (oa.ex (e8.trans e9)) (sm_pl a pu.1), .str _, pyd_shaped (sm_pl a pu.1) (by omega), by decide +kernel, by rw [eqv_item pu.1]; exact q H9 e9⟩) ?_
        rw [Bool.true_and]
        show isIt a = (if isIt a then some b else none).isSome
        cases isIt a <;> rfl
    · obtain ⟨u, hu, ou⟩ := od_get ho6 hx
      rw [hu] at hf
      have hf : (itemOf u).isSome = true := hf
      cases hp : pairU u with
      | false => rw [items_not hp] at hf; cases hf
      | true =>
        obtain ⟨a, b, rfl⟩ := pairU_inv hp
        obtain ⟨pb, va, vb, rfl, hb, oa, ob⟩ := od_pair ou
        have : sndV H6 (xs.getD i .non) = vb := by
          rw [List.getD_eq_getElem?_getD, hx]
          show sndV H6 (.ref pb) = vb
          unfold sndV
          dsimp only
          rw [hb]
        show Ev _ _ H7 (sndV H6 (xs.getD i .non))
        rw [this]
        exact ev_ixT (i := 1) (ev_var rfl) ev_c (e7 _ _ hb) rfl
end
end Ht
/-! k33: noted, kept -/
namespace Ht
open PySem PySem.Spec PyProof.Rows L2 Hu Evl
abbrev sNoted : Stmt := topS 47
abbrev sKept : Stmt := topS 48
theorem smL_all : ∀ {us : List U}, (∀ u ∈ us, sm u) → smL us
  | [], _ => trivial
  | u :: us, h => ⟨h u (List.mem_cons_self ..), smL_all fun x hx => h x (List.mem_cons_of_mem _ hx)⟩
section
variable {K : PySem.W.Frag} {σ : L2.St} {H : Hp} {te tl : TE} {us : List U} {xs : List V}
/-- [.. for x in a tuple], each item made anew -/
theorem lc_newT {a : Addr} {j : Nat} {vs : List Nat} {f : U → U} (h : Ev tl σ H (.ref a)) (hx : H a = some (.tup xs)) (hz : us.length ≤ 100000) (hl : OdL H xs us) (hw : ∀ x, wipe ((wipe σ vs).set j (some x)) vs = wipe σ vs) (hs : ∀ u ∈ us, sm (f u))
    (he : ∀ (x : V) (u : U) G, u ∈ us → Ex H G → Od G x u → ∀ Q : VK, (∀ v G', Ex G G' → Od G' v (f u) → Q v G') → te ((wipe σ vs).set j (some x)) G Q) :
    ∀ H0, Ex H H0 → ∀ Q : VK, (∀ p ys H', H0 p = none → Ex H0 H' → H' p = some (.lst ys) → OdL H' ys (us.map f) → Q (.ref p) H') → tLc (iTup K tl) (gName j) tYes te vs σ H0 Q := fun H0 e Q q => h H0 e _ fun H1 e1 => ⟨a, rfl, ⟨xs, st_of ((e.trans e1) _ _ hx)⟩, fun Dl hD =>
  lc_tup (xs := xs) (fun i H' => Ex H1 H' ∧ ∃ ys, H' Dl = some (.lst ys) ∧ OdL H' ys ((us.take i).map f)) ⟨Ex.new hD, [], upd_same, .nil⟩ (fun i H' _ p => st_of (((e.trans e1).trans p.1) _ _ hx)) (fun i x H2 hi p => by
    obtain ⟨p1, ys, p2, p3⟩ := p
    have hlen := OdL.length hl
    have hu : i < us.length := by
      have := (List.getElem?_eq_some_iff.mp hi).1
      omega
    obtain ⟨x', hx', hax⟩ := OdL.get hl (List.getElem?_eq_getElem hu)
    rw [hi] at hx'
    cases hx'
    have e2 := (e.trans e1).trans p1
    refine ⟨hw x, he x us[i] H2 (List.getElem_mem hu) e2 (hax.ex e2) _ fun v H3 e3 o3 => ⟨ys, e3 _ _ p2, ?_, fun q o hq => ?_, ys ++ [v], upd_same, ?_⟩⟩
    · have hyl := OdL.length p3
      rw [List.length_map, List.length_take] at hyl
      have := big_line
      omega
    · rw [upd_ne (ne_of_none hq hD)]
      exact e3 _ _ (p1 _ _ hq)
    · rw [take_snoc (List.getElem?_eq_getElem hu), List.map_append]
      refine OdL.tups (tups_upd (e3 _ _ p2)) (OdL.append (p3.ex e3) (.cons o3 .nil)) (smL_append (smL_all fun u hu2 => ?_) ⟨hs _ (List.getElem_mem hu), trivial⟩)
      obtain ⟨u2, h2, rfl⟩ := List.mem_map.mp hu2
      exact hs u2 (List.mem_of_mem_take h2)) (fun H' p => by
    obtain ⟨p1, ys, p2, p3⟩ := p
    rw [OdL.length hl, List.take_length] at p3
    exact q Dl ys H' (fresh_back e1 hD) (e1.trans p1) p2 p3)⟩
end
theorem azl_snoc {K : PySem.W.Frag} {H : Hp} {v : V} {u : U} : ∀ {us : List U} {vs : List V}, AzL K H vs us → Az K H v u → AzL K H (vs ++ [v]) (us ++ [u])
  | _, _, .nil, b => .cons b .nil
  | _, _, .cons x l, b => .cons x (azl_snoc l b)
theorem odl_one {H : Hp} {v : V} {u : U} (h : OdL H [v] [u]) : Od H v u := match h with | .cons x _ => x
theorem cb_new {σ : L2.St} {r : List V → Hp → VK → Prop} {te : TE} {H0 : Hp} {R : Addr → List V → Hp → Prop} {Q : VK} (h : ∀ Q : VK, (∀ p ys H', R p ys H' → Q (.ref p) H') → te σ H0 Q) (k : ∀ p ys H', R p ys H' → r [.ref p] H' Q) : tCB r (tCons te tNil) σ H0 Q :=
  h (fun x H1 => tNil σ H1 fun xs H2 => r (x :: xs) H2 Q) fun p ys H' x => k p ys H' x
theorem cat_read {K : PySem.W.Frag} {a b : Addr} {xs ys : List V} {H : Hp} {Q : VK} (ha : H a = some (.tup xs)) (hb : H b = some (.tup ys)) (hx : xs ≠ []) (hz : xs.length + ys.length ≤ sizeLine) (q : ∀ p H', Ex H H' → H' p = some (.tup (xs ++ ys)) → Q (.ref p) H') : rCatT K (.ref a) (.ref b) H Q :=
  ⟨a, b, xs, ys, rfl, rfl, st_of ha, st_of hb, hx, hz, fun e => q a H (Ex.refl H) (by rw [e, List.append_nil]; exact ha), fun _ p hp => q p _ (Ex.new hp) upd_same⟩
/-- an item: its entry is one that is written -/
def ikok (u : U) : Prop := pl u ∧ dpt u ≤ 28 ∧ ln u ≤ 380
theorem ikok.e {u : U} (h : ikok u) : eok (itemE u) := by
  obtain ⟨h1, h2, h3⟩ := h
  refine ⟨?_, ?_, ?_⟩
  · simp only [itemE, pl, plL, and_true]
    exact ⟨by decide +kernel, h1⟩
  · simp only [itemE, dpt, dptL]
    omega
  · have h4 : (("item" : Str)).length = 4 := by decide +kernel
    simp only [itemE, ln, lnL, h4]
    omega
/-- the line of an item behind a text -/
def lineS (a : Str) (u : U) : Str := mkS (lineL (ckO 0 0 (TL.tl a)) (itemE u))
theorem tl_lineS (a : Str) (u : U) : TL.tl (lineS a u) = lineL (ckO 0 0 (TL.tl a)) (itemE u) := rfl
theorem ck_lt0 (l : List Nat) : ckO 0 0 l < 99991 := Nat.mod_lt _ (by decide)
theorem lineS_le {a : Str} {u : U} (h : ikok u) : (lineS a u).length ≤ 450 := by
  rw [TL.len_tl, tl_lineS]
  exact lineL_le (ck_lt0 _) h.e
theorem lineS_ln {a : Str} {u : U} (h : ikok u) : ln' (TL.tl (lineS a u)) = true := by
  rw [tl_lineS]
  exact lineL_ln (ck_lt0 _) h.e.1
/-- the entries of an area that is written anew -/
def keptE (g : Nat) (us : List U) : List U := areaE g :: (us.map itemE ++ [wholeE])
def keptS (g : Nat) (us : List U) : Str := mkS (linesL (keptE g us) 0 0)
theorem tl_keptS (g : Nat) (us : List U) : TL.tl (keptS g us) = linesL (keptE g us) 0 0 := rfl
theorem ek_kept {g : Nat} {us : List U} (hg : g < 10 ^ 20) (h : ∀ u ∈ us, ikok u) : ∀ u ∈ keptE g us, eok u := by
  intro u hu
  unfold keptE at hu
  rw [List.mem_cons, List.mem_append] at hu
  rcases hu with rfl | hu | hu
  · exact ek_area hg
  · obtain ⟨u2, h2, rfl⟩ := List.mem_map.mp hu
    exact (h u2 h2).e
  · rw [List.mem_singleton.mp hu]
    exact ek_whole
theorem stN_some {g0 g1 : Option Nat} {k : Nat} (h : stN g0 g1 = some k) : ∃ g, (if k = 0 then g0 else g1) = some g := by
  cases g0 with
  | none => cases g1 with
    | none => cases h
    | some b => cases h; exact ⟨b, rfl⟩
  | some a => cases g1 with
    | none => cases h; exact ⟨a, rfl⟩
    | some b =>
      have h : (if a < b then some 1 else some 0) = some k := h
      by_cases q : a < b
      · rw [if_pos q] at h; cases h; exact ⟨b, rfl⟩
      · rw [if_neg q] at h; cases h; exact ⟨a, rfl⟩
theorem st_gen {ar : List Str} {k : Nat} {a : Str} (h : stA ar = some k) (ha : ar[k]? = some a) : ∃ g, genT a = some g := by
  obtain ⟨g, hg⟩ := stN_some h
  have hk := stN_lt h
  refine ⟨g, ?_⟩
  match k, hk with
  | 0, _ =>
    have e : ar.getD 0 "" = a := by rw [List.getD_eq_getElem?_getD, ha]; rfl
    rw [if_pos rfl, e] at hg
    exact hg
  | 1, _ =>
    have e : ar.getD 1 "" = a := by rw [List.getD_eq_getElem?_getD, ha]; rfl
    rw [if_neg (by decide), e] at hg
    exact hg
section
variable {P : Program} {w : World} {K : PySem.W.Frag} {mg : Str → Option Value} {base : Heap} {C aW : Addr}
/-! ### area_check -/
def spAck (C : Addr) : Sp := fun vs H Q _ => ∃ (d : DA) (ar : List Str) (k : Nat) (a : Str), vs = [.ref d.p, .int (k : Int)] ∧ DAt C H d ar ∧ ar[k]? = some a ∧ ∀ H', Same H H' → Q (ckV a) H'
theorem scAck : FnScope ["self", "k"] ["self", "k"] (defScope (sDk 2)) := ⟨rfl, rfl, rfl, by decide +kernel, rfl, by decide +kernel, by decide +kernel⟩
theorem ok_ack {f : Addr} {fd : FuncData} (F : Fun K "area_check" "Disk.area_check" (sDk 2) f fd) (T : Dk K mg C) : FnOk P w K mg base CX0 4 f fd ["self", "k"] (spAck C) := by
  refine F.ok scAck (fun vs H Q E h => ?_) (fun cdv A outer s H vs Q E hr h => ?_)
  · obtain ⟨d, ar, k, a, rfl, _⟩ := h
    rfl
  obtain ⟨d, ar, j, a, rfl, D, ha, k⟩ := h
  refine ⟨_, pss_one (ps_ret (pe_ix ix_list (pe_fld (pv 0) rfl) (pv 1) (fun _ _ => rfl))), ?_⟩
  exact s_ret (ev_checkK T D (ev_var rfl) (ev_var rfl) ha) fun H2 e2 => k H2 e2
theorem no_ack (al cl gl : Addr) : (dF al cl gl).lookup ("area_check" : Str) = none := dF_no _ _ _ (by decide +kernel) (by decide +kernel) (by decide +kernel)
theorem ev_ackM {σ : L2.St} {H : Hp} {ta tb : TE} {d : DA} {ar : List Str} {E : XK} {k : Nat} {a : Str} (D : DAt C H d ar) (h : Ev ta σ H (.ref d.p)) (hk : Ev tb σ H (.int (k : Int))) (ha : ar[k]? = some a) : Ev (tMeth C "area_check" (spAck C) [] E ta (tCons tb tNil)) σ H (ckV a) := fun H1 e Q q =>
  h H1 e _ fun H2 e2 => ⟨d.p, d.dx, _, rfl, (e.trans e2) _ _ D.o, no_ack _ _ _, (ea_cons hk ea_nil) H2 (e.trans e2) _ fun H3 e3 => ⟨d, ar, k, a, rfl, D.ex ((e.trans e2).trans e3), ha, fun H' s => q H' ((e2.trans e3).trans s)⟩⟩
/-- what noted and kept reach besides -/
structure Nr (P : Program) (w : World) (K : PySem.W.Frag) (mg : Str → Option Value) (base : Heap) (C aW : Addr) : Prop where
  R : Dr P w K mg base C aW
  ak : ∃ f d, Me K C "area_check" "Disk.area_check" (sDk 2) ["self", "k"] f d ∧ FnOk P w K mg base CX0 4 f d ["self", "k"] (spAck C)
  mo : ∃ f d, Df K mg "_is_most" sIsMost ["thing"] f d ∧ FnOk P w K mg base CX0 3 f d ["thing"] spMo
  th : ∃ f d, Df K mg "is_thing" sIsThing ["thing", "deepest"] f d ∧ FnOk P w K mg base CX0 30 f d ["thing", "deepest"] (spThZ K 28)
  dp : ∃ t, mg "ITEM_DEPTH" = some (.int 28 t)
theorem et_item {σ : L2.St} {H : Hp} {te : TE} {E : XK} {v : V} {u : U} (h : Ev te σ H v) (o : Od H v u) (hu : ikok u) : Ev (tCall (spThZ K 28) [] E (tCons te (tCons (tC (.int 28)) tNil))) σ H (.bl true) :=
  ev_is (ev_call (sp := spThZ K 28) (vs := [v, .int 28]) (ea_cons h (ea_cons ev_c ea_nil)) fun H1 e1 Q q E => ⟨v, u, rfl, Az.of (o.ex e1) hu.1, brd_ln (by have := hu.2.2; omega), q⟩) (congrArg V.bl (thB_pl hu.1 (by have := hu.2.1; omega)))
def spNo (C : Addr) : Sp := fun vs H Q _ => ∃ (d : DA) (ar : List Str) (k : Nat) (a : Str) (v m : V) (u : U) (o : Option Nat), vs = [.ref d.p, v, m] ∧ Od H v u ∧ ikok u ∧ mst m o ∧ DAt C H d ar ∧ (∀ z ∈ ar, z.length ≤ 80000) ∧ stA ar = some k ∧ ar[k]? = some a ∧
  ∀ H', KpD d H H' → DAt C H' d (ar.set k (a ++ wrt (lineS a u) o)) → Q (.int ((wrt (lineS a u) o).length : Int)) H'
theorem scNo : FnScope ["disk", "item", "most", "k", "line"] ["disk", "item", "most"] (defScope sNoted) := ⟨rfl, rfl, rfl, by decide +kernel, rfl, by decide +kernel, by decide +kernel⟩
theorem ok_noted {f : Addr} {fd : FuncData} (F : Fun K "noted" "noted" sNoted f fd) (N : Nr P w K mg base C aW) : FnOk P w K mg base CX0 71 f fd ["disk", "item", "most"] (spNo C) := by
  obtain ⟨⟨B, T, W, ⟨fa, da, Ma, Ga⟩, ⟨fg, dg, Mg, Gg⟩, ⟨fp, dp, Mp, Gp⟩, ⟨fc, dc, Mc, Gc⟩, ⟨fs, ds, Ms, Gs⟩, ⟨ft, dt, Dt, Gt⟩, ⟨fk, dk, Dk', Gk⟩, ⟨fw, dw, Dw', Gw⟩, ⟨fr, dr, Dr', Gr⟩⟩, ⟨fi, di, Mi, Gi⟩, ⟨fm, dm, Dm', Gm⟩, ⟨fh, dh, Dh, Gh⟩, ⟨td, hd⟩⟩ := N
  refine F.ok scNo (fun vs H Q E h => ?_) (fun cdv A outer s H vs Q E hr h => ?_)
  · obtain ⟨d, ar, k, a, v, m, u, o, rfl, _⟩ := h
    rfl
  obtain ⟨d, ar, j, zj, v, m, u, o, rfl, ou, hu, hm, D, hz, hs, hzj, k⟩ := h
  refine ⟨_, pss_cons (ps_if (pt_not (pt_val (pe_call Gh (hr.mono (by decide)) (by rfl) Dh.g Dh.F.kp Dh.b .nil pass0 (pa_cons (pv 1) (pa_cons (pe_glob (v := .int 28) (by rfl) hd ⟨_, rfl⟩) pa_nil))))) (pss_one ps_dead) pss_nil)
    (pss_cons (ps_if (pt_not (pt_val (pe_call Gm (hr.mono (by decide)) (by rfl) Dm'.g Dm'.F.kp Dm'.b .nil pass0 (pa_cons (pv 2) pa_nil)))) (pss_one ps_dead) pss_nil)
    (pss_cons (ps_set (i := 3) scNo.nd rfl (.inl rfl) (pe_call Gt hr (by rfl) Dt.g Dt.F.kp Dt.b .nil pass0 (pa_cons (pv 0) pa_nil)))
    (pss_cons (ps_if (pt_cmpR op_isN1 (pv 3) pe_non (nomark _)) (pss_one ps_dead) pss_nil)
    (pss_cons (ps_set (i := 4) scNo.nd rfl (.inl rfl) (pe_call Gw (hr.mono (by decide)) (by rfl) Dw'.g Dw'.F.kp Dw'.b .nil pass0 (pa_cons (pe_tup (pa_cons (pe_tup (pa_cons pe_str (pa_cons (pv 1) pa_nil))) pa_nil))
      (pa_cons (pe_meth (pv 0) T.cl Mi.m Gi (hr.mono (by decide)) Mi.b .nil pass0 (pa_cons (pv 3) pa_nil)) (pa_cons (pe_callB call_len_str (by rfl) B.len PySem.boot_len (pa_cons (pe_meth (pv 0) T.cl Ma.m Ga (hr.mono (by decide)) Ma.b .nil pass0 (pa_cons (pv 3) pa_nil)) pa_nil)) pa_nil)))))
    (pss_one (ps_ret (pe_meth (pv 0) T.cl Mp.m Gp (hr.mono (by decide)) Mp.b .nil pass0 (pa_cons (pv 3) (pa_cons (pv 4) (pa_cons (pv 2) pa_nil)))))))))), ?_⟩
  obtain ⟨z0, z1, rfl⟩ : ∃ z0 z1, ar = [z0, z1] := by
    match ar, D.r.l with
    | [x, y], _ => exact ⟨x, y, rfl⟩
  refine q_when (b := !true) (et_not (et_B (et_item (ev_var rfl) ou hu))) (fun q => by cases q) (fun _ H1 e1 => ?_)
  refine q_when (b := !true) (et_not (et_B (ev_call (sp := spMo) (ea_cons (ev_var rfl) ea_nil) fun H2 e2 Q q E => ⟨m, o, rfl, hm, q⟩))) (fun q => by cases q) (fun _ H2 e2 => ?_)
  have E2 := e1.trans e2
  refine ⟨_, rfl, d, z0, z1, rfl, D.ex E2, fun H3 x3 D3 => ?_⟩
  have hst : stN (genU (cntT (TL.tl z0)).1) (genU (cntT (TL.tl z1)).1) = stA [z0, z1] := rfl
  rw [hst]
  dsimp only [gName]
  show tSeq (tIfS _ _ _) _ _ [some (.ref d.p), some v, some m, some (oV (stA [z0, z1])), none] H3
  rw [hs]
  refine q_when (b := false) (et_is (et_test (ev_op (ev_var rfl) ev_c rv_isNon)) (oV_non (some j))) (fun q => by cases q) (fun _ H4 e4 => ?_)
  have D4 := D3.ex e4
  have hmem := List.mem_of_getElem? hzj
  have hzl := hz zj hmem
  have ho4 : Od H4 v u := by
    exact (odl_one (OdL.kpd (D.ex E2) x3 (.cons (ou.ex E2) .nil) ⟨hu.1, trivial⟩)).ex e4
  refine ⟨_, rfl, sz_of (show (2 : Nat) ≤ 100000 by decide), fun pa hpa => ⟨sz_of (show (1 : Nat) ≤ 100000 by decide), fun pb hpb => ?_⟩⟩
  have ea := Ex.new (o := .tup [V.str "item", v]) hpa
  have hAt : upd H4 pa (.tup [V.str "item", v]) pa = some (.tup [V.str "item", v]) := upd_same
  generalize upd H4 pa (.tup [V.str "item", v]) = H5 at hpb ea hAt
  have eb := Ex.new (o := .tup [V.ref pa]) hpb
  have hBt : upd H5 pb (.tup [V.ref pa]) pb = some (.tup [V.ref pa]) := upd_same
  generalize upd H5 pb (.tup [V.ref pa]) = H6 at eb hBt
  have D6 := D4.ex (ea.trans eb)
  refine (ea_cons (ev_ackM D6 (ev_var rfl) (ev_var rfl) hzj) (ea_cons (ev_lenS (ev_areaM D6 (ev_var rfl) (ev_var rfl) hzj) (by omega)) ea_nil)) H6 (Ex.refl _) _ fun H7 e7 => ?_
  have hlz := TL.len_tl zj
  have hll := lineL_le (n := ckO 0 0 (TL.tl zj)) (ck_lt0 _) hu.e
  refine ⟨pb, _, [itemE u], ckO 0 0 (TL.tl zj), zj.length, rfl, e7 _ _ hBt, .cons (.tup (st_of ((eb.trans e7) _ _ hAt)) (.cons (.str _) (.cons (Az.of (ho4.ex ((ea.trans eb).trans e7)) hu.1) .nil))) .nil, fun x hx => by rw [List.mem_singleton.mp hx]; exact hu.e, by show (1 : Nat) ≤ 2000; decide, ck_lt0 _, by rw [linesL_one]; omega, fun z H8 s8 hzz => ?_⟩
  rw [linesL_one] at hzz
  have ez : z = lineS zj u := TL.ext_tl hzz
  subst ez
  have D8 := D6.ex (e7.trans s8)
  have hle := lineS_le (a := zj) hu
  refine ⟨_, rfl, d.p, d.dx, _, rfl, D8.o, no_app _ _ _, _, rfl, _, rfl, _, rfl, d, [z0, z1], j, zj, lineS zj u, m, o, rfl, hm, D8, hzj, lineS_ln hu, by omega, fun H9 x9 D9 => ?_⟩
  exact k H9 (((KpD.of_ex E2).trans x3).trans ((KpD.of_ex (((e4.trans (ea.trans eb)).trans e7).trans s8)).trans x9)) D9
def spKe (C : Addr) : Sp := fun vs H Q _ => ∃ (d : DA) (ar : List Str) (k g : Nat) (a : Str) (pi : Addr) (m : V) (xs : List V) (us : List U) (o : Option Nat), vs = [.ref d.p, .ref pi, m] ∧ H pi = some (.tup xs) ∧ OdL H xs us ∧ (∀ u ∈ us, ikok u) ∧ us.length ≤ 1900 ∧ mst m o ∧ DAt C H d ar ∧ stA ar = some k ∧ ar[k]? = some a ∧ genT a = some g ∧ g < 10 ^ 19 ∧ (keptS (g + 1) us).length ≤ 80000 ∧
  ∀ H', KpD d H H' → DAt C H' d (ar.set (1 - k) (wrt (keptS (g + 1) us) o)) → Q (.int ((wrt (keptS (g + 1) us) o).length : Int)) H'
theorem scKe : FnScope ["disk", "items", "most", "k", "newer", "text", "item"] ["disk", "items", "most"] (defScope sKept) := ⟨rfl, rfl, rfl, by decide +kernel, rfl, by decide +kernel, by decide +kernel⟩
set_option maxHeartbeats 1000000 in
theorem ok_kept {f : Addr} {fd : FuncData} (F : Fun K "kept" "kept" sKept f fd) (N : Nr P w K mg base C aW) : FnOk P w K mg base CX0 71 f fd ["disk", "items", "most"] (spKe C) := by
  obtain ⟨⟨B, T, W, ⟨fa, da, Ma, Ga⟩, ⟨fg, dg, Mg, Gg⟩, ⟨fp, dp, Mp, Gp⟩, ⟨fc, dc, Mc, Gc⟩, ⟨fs, ds, Ms, Gs⟩, ⟨ft, dt, Dt, Gt⟩, ⟨fk, dk, Dk', Gk⟩, ⟨fw, dw, Dw', Gw⟩, ⟨fr, dr, Dr', Gr⟩⟩, ⟨fi, di, Mi, Gi⟩, ⟨fm, dm, Dm', Gm⟩, ⟨fh, dh, Dh, Gh⟩, ⟨td, hd⟩⟩ := N
  refine F.ok scKe (fun vs H Q E h => ?_) (fun cdv A outer s H vs Q E hr h => ?_)
  · obtain ⟨d, ar, k, g, a, pi, m, xs, us, o, rfl, _⟩ := h
    rfl
  obtain ⟨d, ar, j, g, zj, pi, m, xs, us, o, rfl, hpi, ho, hu, hul, hm, D, hs, hzj, hg, hgl, hkl, k⟩ := h
  refine ⟨_, pss_cons (ps_if (PW.pt (pw_or (pt_not (pt_val (pe_callB call_isi (by rfl) B.isi boot_isi' (pa_cons (pv 1) (pa_cons (pe_bltn (by rfl) B.tup boot_tup' (show RelV (.ty "tuple") (.type "tuple") from rfl)) pa_nil)))))
      (pw_or1 (pt_not (pt_val (pe_callB (cr_all rfl) (by rfl) B.all boot_all' (pa_cons (pe_lc (own := [("item", 6)]) (g := gName 6) (tt := tYes) rfl scKe.nd (pi_tup (pv 1)) (blkOk_by (N := ["disk", "items", "most", "k", "newer", "text", "item"]) (sc := defScope sKept) (by decide +kernel))
        (fun _ _ _ _ _ => pg_name (i := 6) scKe.nd rfl (Or.inl rfl)) (fun _ _ _ _ _ => pts_nil) (fun _ _ _ _ _ => pe_call Gh (hr.mono (by decide)) (by rfl) Dh.g Dh.F.kp Dh.b .nil pass0 (pa_cons (pv 6) (pa_cons (pe_glob (v := .int 28) (by rfl) hd ⟨_, rfl⟩) pa_nil)))) pa_nil))))))) (pss_one ps_dead) pss_nil)
    (pss_cons (ps_if (pt_not (pt_val (pe_call Gm (hr.mono (by decide)) (by rfl) Dm'.g Dm'.F.kp Dm'.b .nil pass0 (pa_cons (pv 2) pa_nil)))) (pss_one ps_dead) pss_nil)
    (pss_cons (ps_set (i := 3) scKe.nd rfl (.inl rfl) (pe_call Gt hr (by rfl) Dt.g Dt.F.kp Dt.b .nil pass0 (pa_cons (pv 0) pa_nil)))
    (pss_cons (ps_if (pt_cmpR op_isN1 (pv 3) pe_non (nomark _)) (pss_one ps_dead) pss_nil)
    (pss_cons (ps_set (i := 4) scKe.nd rfl (.inl rfl) (pe_op op_add (pe_meth (pv 0) T.cl Mg.m Gg (hr.mono (by decide)) Mg.b .nil pass0 (pa_cons (pv 3) pa_nil)) pe_int))
    (pss_cons (ps_set (i := 5) scKe.nd rfl (.inl rfl) (pe_call Gw (hr.mono (by decide)) (by rfl) Dw'.g Dw'.F.kp Dw'.b .nil pass0 (pa_cons
      (pe_op op_catT (pe_op op_catT (pe_tup (pa_cons (pe_tup (pa_cons pe_str (pa_cons (pv 4) pa_nil))) pa_nil))
        (pe_callTy call_tuple_of (by rfl) B.tup boot_tup' (pa_cons (pe_lc (own := [("item", 6)]) (g := gName 6) (tt := tYes) rfl scKe.nd (pi_tup (pv 1)) (blkOk_by (N := ["disk", "items", "most", "k", "newer", "text", "item"]) (sc := defScope sKept) (by decide +kernel))
          (fun _ _ _ _ _ => pg_name (i := 6) scKe.nd rfl (Or.inl rfl)) (fun _ _ _ _ _ => pts_nil) (fun _ _ _ _ _ => pe_tup (pa_cons pe_str (pa_cons (pv 6) pa_nil)))) pa_nil)))
        (pe_tup (pa_cons (pe_glob (v := .ref aW) (by rfl) W.g rfl) pa_nil))) (pa_cons pe_int (pa_cons pe_int pa_nil)))))
    (pss_cons (ps_expr (pe_meth (pv 0) T.cl Mc.m Gc (hr.mono (by decide)) Mc.b .nil pass0 (pa_cons (pe_op op_sub pe_int (pv 3)) pa_nil)))
    (pss_one (ps_ret (pe_meth (pv 0) T.cl Mp.m Gp (hr.mono (by decide)) Mp.b .nil pass0 (pa_cons (pe_op op_sub pe_int (pv 3)) (pa_cons (pv 5) (pa_cons (pv 2) pa_nil)))))))))))), ?_⟩
  obtain ⟨z0, z1, rfl⟩ : ∃ z0 z1, ar = [z0, z1] := by
    match ar, D.r.l with
    | [x, y], _ => exact ⟨x, y, rfl⟩
  have hj := stN_lt hs
  have hg20 : g + 1 < 10 ^ 20 := by omega
  have pus : plL us := by
    have : ∀ {us : List U}, (∀ u ∈ us, ikok u) → plL us := fun {us} h => by
      induction us with
      | nil => trivial
      | cons u us ih => exact ⟨(h u (List.mem_cons_self ..)).1, ih fun x hx => h x (List.mem_cons_of_mem _ hx)⟩
    exact this hu
  have EL : EvL (tLc (iTup K (tVar 1)) (gName 6) tYes (tCall (spThZ K 28) [] E0 (tCons (tVar 6) (tCons (tC (.int 28)) tNil))) [6]) [some (.ref d.p), some (.ref pi), some m, none, none, none, none] H ((us.map fun _ => true).map V.bl) := by
    rw [List.map_map]
    exact el_lcO (j := 6) (vs := [6]) (g := fun _ => .bl true) (ev_var rfl) hpi (by omega) ho (fun _ => rfl) fun x u hu2 ox => et_item (ev_var rfl) ox (hu u hu2)
  refine q_when (b := !true || !true) (et_or (et_not (et_B (ev_isiO (u := .tup us) (ev_var rfl) (.tup hpi ho) (by decide)))) fun _ => et_not (et_B (ev_is (ev_allL (K := K) EL) (by rw [all_true])))) (fun q => by cases q) (fun _ H1 e1 => ?_)
  refine q_when (b := !true) (et_not (et_B (ev_call (sp := spMo) (ea_cons (ev_var rfl) ea_nil) fun H2 e2 Q q E => ⟨m, o, rfl, hm, q⟩))) (fun q => by cases q) (fun _ H2 e2 => ?_)
  have E2 := e1.trans e2
  refine ⟨_, rfl, d, z0, z1, rfl, D.ex E2, fun H3 x3 D3 => ?_⟩
  have hst : stN (genU (cntT (TL.tl z0)).1) (genU (cntT (TL.tl z1)).1) = stA [z0, z1] := rfl
  rw [hst]
  dsimp only [gName]
  show tSeq (tIfS _ _ _) _ _ [some (.ref d.p), some (.ref pi), some m, some (oV (stA [z0, z1])), none, none, none] H3
  rw [hs]
  refine q_when (b := false) (et_is (et_test (ev_op (ev_var rfl) ev_c rv_isNon)) (oV_non (some j))) (fun q => by cases q) (fun _ H4 e4 => ?_)
  have D4 := D3.ex e4
  refine ⟨_, rfl, d.p, d.dx, _, rfl, D4.o, no_gen _ _ _, _, rfl, d, [z0, z1], j, zj, rfl, D4, hzj, fun H5 x5 D5 => ?_⟩
  rw [hg]
  refine ⟨(g : Int), 1, rfl, rfl, ?_⟩
  have X5 : KpD d H H5 := ((KpD.of_ex E2).trans x3).trans ((KpD.of_ex e4).trans x5)
  have ho5 : OdL H5 xs us := OdL.kpd D X5 ho pus
  have hpi5 : H5 pi = some (.tup xs) := by
    obtain ⟨gs, hgs, _⟩ := D.g
    exact X5 pi _ (fun e => by have := D.a; rw [← e, hpi] at this; cases this) (fun e => by have := D.c; rw [← e, hpi] at this; cases this) (fun e => by rw [← e, hpi] at hgs; cases hgs) hpi
  dsimp only [gName]
  show tSeq (tAsg _ _) _ _ [some (.ref d.p), some (.ref pi), some m, some (.int (j : Int)), some (.int ((g : Int) + 1)), none, none] H5
  have hg1 : (g : Int) + 1 = ((g + 1 : Nat) : Int) := by omega
  rw [hg1]
  refine ⟨_, rfl, sz_of (show (2 : Nat) ≤ 100000 by decide), fun pa hpa => ⟨sz_of (show (1 : Nat) ≤ 100000 by decide), fun pb hpb => ?_⟩⟩
  have ea := Ex.new (o := .tup [V.str "area", .int ((g + 1 : Nat) : Int)]) hpa
  have hAt : upd H5 pa (.tup [V.str "area", .int ((g + 1 : Nat) : Int)]) pa = some (.tup [V.str "area", .int ((g + 1 : Nat) : Int)]) := upd_same
  generalize upd H5 pa (.tup [V.str "area", .int ((g + 1 : Nat) : Int)]) = H6 at hpb ea hAt
  have eb := Ex.new (o := .tup [V.ref pa]) hpb
  have hBt : upd H6 pb (.tup [V.ref pa]) pb = some (.tup [V.ref pa]) := upd_same
  generalize upd H6 pb (.tup [V.ref pa]) = H7 at eb hBt
  have E7 := ea.trans eb
  refine cb_new (R := fun L ys H8 => H7 L = none ∧ Ex H7 H8 ∧ H8 L = some (.lst ys) ∧ OdL H8 ys (us.map itemE)) (fun Q q => (lc_newT (K := K) (tl := tVar 1) (σ := [some (.ref d.p), some (.ref pi), some m, some (.int (j : Int)), some (.int ((g + 1 : Nat) : Int)), none, none]) (j := 6) (vs := [6]) (te := tTup (tCons (tC (.str "item")) (tCons (tVar 6) tNil))) (f := itemE) (ev_var rfl) (E7 _ _ hpi5) (by omega) (ho5.ex E7) (fun _ => rfl) (fun u hu2 => sm_pl _ (hu u hu2).e.1)
    (fun x u G hu2 eG oG Q q => ⟨_, rfl, sz_of (show (2 : Nat) ≤ 100000 by decide), fun p hp => q (.ref p) _ (Ex.new hp) (.tup upd_same (.cons (.str _) (.cons (oG.ex (Ex.new hp)) .nil)))⟩)) H7 (Ex.refl _) Q fun L ys H8 h1 h2 h3 h4 => q L ys H8 ⟨h1, h2, h3, h4⟩) fun L ys H8 ⟨hL, e8, hl8, o8⟩ => ?_
  have hyl := OdL.length o8
  rw [List.length_map] at hyl
  refine ⟨L, ys, rfl, .inl ⟨sq_of hl8, fun t ht => ?_⟩⟩
  have et := Ex.new (o := .tup ys) ht
  have htt : upd H8 t (.tup ys) t = some (.tup ys) := upd_same
  generalize upd H8 t (.tup ys) = H9 at et htt
  have E9 := e8.trans et
  -- the tuple of all entries
  have hbig := big_line
  refine cat_read (E9 _ _ hBt) htt (by simp) (by simp only [List.length_cons, List.length_nil]; omega) fun q1 Ha ea1 h1 => ?_
  refine ⟨sz_of (show (1 : Nat) ≤ 100000 by decide), fun pw hpw => ?_⟩
  have ew := Ex.new (o := .tup [V.ref aW]) hpw
  refine cat_read (ew _ _ h1) upd_same (by simp) (by simp only [List.length_cons, List.length_nil, List.length_append]; omega) fun q2 Hb eb2 h2 => ?_
  have E10 := (ea1.trans ew).trans eb2
  have pit : plL (us.map itemE) := plL_of fun x hx => by
    obtain ⟨u2, h2, rfl⟩ := List.mem_map.mp hx
    exact (hu u2 h2).e
  have oz : AzL K Hb ([V.ref pa] ++ ys ++ [V.ref aW]) (keptE (g + 1) us) :=
    .cons (.tup (st_of (((eb.trans E9).trans E10) _ _ hAt)) (.cons (.str _) (.cons (.int _) .nil))) (azl_snoc (AzL.of (o8.ex (et.trans E10)) pit) (az_whole W _))
  refine ⟨q2, _, keptE (g + 1) us, 0, 0, rfl, h2, oz, ek_kept hg20 hu, ?_, by decide, ?_, fun z Hd sd hz => ?_⟩
  · unfold keptE
    rw [List.length_cons, List.length_append, List.length_map]
    show us.length + 1 + 1 ≤ 2000
    omega
  · rw [Nat.zero_add, ← tl_keptS, ← TL.len_tl]
    omega
  have ez : z = keptS (g + 1) us := TL.ext_tl hz
  subst ez
  have Ed : Ex H5 Hd := (E7.trans E9).trans (E10.trans sd)
  have Dd := D5.ex Ed
  have hone : (1 : Int) - (j : Int) = ((1 - j : Nat) : Int) := by omega
  refine ⟨_, rfl, d.p, d.dx, _, rfl, Dd.o, no_clr _ _ _, _, rfl, 1, (j : Int), rfl, rfl, d, _, 1 - j, by show [V.ref d.p, V.int ((1 : Int) - (j : Int))] = _; rw [hone], Dd, by omega, fun He xe De => ?_⟩
  have hget : (([z0, z1] : List Str).set (1 - j) "")[1 - j]? = some "" := by
    match j, hj with
    | 0, _ => rfl
    | 1, _ => rfl
  have hset : (([z0, z1] : List Str).set (1 - j) "").set (1 - j) ("" ++ wrt (keptS (g + 1) us) o) = ([z0, z1] : List Str).set (1 - j) (wrt (keptS (g + 1) us) o) := by
    rw [nil_appS, List.set_set]
  refine ⟨_, rfl, d.p, d.dx, _, rfl, De.o, no_app _ _ _, _, rfl, 1, (j : Int), rfl, rfl, _, rfl, _, rfl, d, _, 1 - j, "", keptS (g + 1) us, m, o, by show [V.ref d.p, V.int ((1 : Int) - (j : Int)), _, m] = _; rw [hone], hm, De, hget, ?_, ?_, fun Hf xf Df => ?_⟩
  · rw [tl_keptS]
    exact linesL_ln _ 0 0 (by decide) (plL_of (ek_kept hg20 hu))
  · show 0 + _ ≤ _
    omega
  · rw [hset] at Df
    exact k Hf (((X5.trans (.of_ex Ed)).trans xe).trans xf) Df
end
end Ht
/-! k34: any value as an argument: what raises, and what doesn't -/
namespace Ht
open PySem PySem.Spec PyProof.Rows L2 Hu Evl
section
variable {P : Program} {w : World} {K : PySem.W.Frag} {mg : Str → Option Value} {base : Heap} {f : Addr} {fd : FuncData} {ps : List Str} {k : Nat} {sp sp1 sp2 : Sp}
/-- what never raises, told as what may -/
theorem liftX (F : FnOk P w K mg base CX0 k f fd ps sp) : FnOk P w K mg base (L2.CX P w) k f fd ps sp :=
  ⟨F.len, fun A outer s H args us vs Q E hr he hb hv hs => codeAny_mono (F.run A outer s H args us vs Q E hr he hb hv hs) fun r s' hq => by
    cases r with
    | error e => exact (show False from hq).elim
    | ok fl => cases fl <;> exact hq⟩
/-- two promises of one def -/
def orS (sp1 sp2 : Sp) : Sp := fun vs H Q E => sp1 vs H Q E ∨ sp2 vs H Q E
theorem orX {CX : CXT} (F : FnOk P w K mg base CX k f fd ps sp1) (G : FnOk P w K mg base CX k f fd ps sp2) : FnOk P w K mg base CX k f fd ps (orS sp1 sp2) :=
  ⟨fun vs H Q E h => h.elim (F.len vs H Q E) (G.len vs H Q E), fun A outer s H args us vs Q E hr he hb hv hs => hs.elim (F.run A outer s H args us vs Q E hr he hb hv) (G.run A outer s H args us vs Q E hr he hb hv)⟩
end
theorem pss_dead {X : Cx} {l : List Stmt} : PSs X l (fun _ _ _ => False) := ⟨fun _ _ _ _ _ _ h => h.elim⟩
def areaU (u : U) : Bool := match u with | .int i => decide (0 ≤ i) && decide (i ≤ 1) | _ => false
def mostU (u : U) : Bool := match u with | .int i => decide (0 ≤ i) | .non => true | _ => false
section
variable {P : Program} {w : World} {K : PySem.W.Frag} {mg : Str → Option Value} {base : Heap} {C : Addr}
theorem ok_isAreaO {f f1 : Addr} {fd d1 : FuncData} (F : Fun K "_is_area" "_is_area" sIsArea f fd) (D1 : Df K mg "is_count" sCount ["thing"] f1 d1) (G1 : FnOk P w K mg base CX0 2 f1 d1 ["thing"] (spO cntU)) : FnOk P w K mg base CX0 3 f fd ["thing"] (spO areaU) := by
  refine F.ok scIsArea (fun vs H Q E h => ?_) (fun cdv A outer s H vs Q E hr h => ?_)
  · obtain ⟨k, _, rfl, _⟩ := h
    rfl
  obtain ⟨v, u, rfl, ho, hb, k⟩ := h
  refine ⟨_, pss_one (ps_ret (pe_and (pe_call G1 (hr.mono (by decide)) (by rfl) D1.g D1.F.kp D1.b .nil pass0 (pa_cons (pv 0) pa_nil)) (pe_one (pe_cmpR op_le (pv 0) pe_int (nomark _))))), ?_⟩
  refine s_ret (v := .bl (cntU u && (match u with | .int i => decide (i ≤ 1) | _ => false))) (ev_andV (ev_O (g := cntU) (u := u) (ev_var rfl) ho hb) fun q => ?_) fun H1 e => ?_
  · cases u with
    | int i =>
      cases ho
      exact ev_op (ev_var rfl) ev_c rv_I0
    | _ => cases q
  · have := k H1 e
    cases u <;> exact this
theorem ok_isMostO {f f1 : Addr} {fd d1 : FuncData} (F : Fun K "_is_most" "_is_most" sIsMost f fd) (D1 : Df K mg "is_count" sCount ["thing"] f1 d1) (G1 : FnOk P w K mg base CX0 2 f1 d1 ["thing"] (spO cntU)) : FnOk P w K mg base CX0 3 f fd ["thing"] (spO mostU) := by
  refine F.ok scIsMost (fun vs H Q E h => ?_) (fun cdv A outer s H vs Q E hr h => ?_)
  · obtain ⟨k, _, rfl, _⟩ := h
    rfl
  obtain ⟨v, u, rfl, ho, hb, k⟩ := h
  refine ⟨_, pss_one (ps_ret (pe_or (pe_cmpR op_isN1 (pv 0) pe_non (nomark _)) (pe_one (pe_call G1 (hr.mono (by decide)) (by rfl) D1.g D1.F.kp D1.b .nil pass0 (pa_cons (pv 0) pa_nil))))), ?_⟩
  have rn : ∀ {H : Hp}, RV rIsN v .non H (.bl (decide (v = .non))) := fun H1 _ Q q => ⟨rfl, q H1 (Ex.refl H1)⟩
  refine s_ret (v := .bl (decide (v = .non) || cntU u)) (ev_orV (ev_op (ev_var rfl) ev_c rn) fun q => ev_O (g := cntU) (u := u) (ev_var rfl) ho hb) fun H1 e => ?_
  have := k H1 e
  cases ho <;> first | exact this | (rw [decide_eq_false (fun z => by cases z), Bool.false_or]; exact this)
end
end Ht
/-! k34: what area, clear, shorten, append raise -/
namespace Ht
open PySem PySem.Spec PyProof.Rows L2 Hu Evl
/-- what is reached where something is wrong -/
structure Dx (P : Program) (w : World) (K : PySem.W.Frag) (mg : Str → Option Value) (base : Heap) (CA CT CN : Addr) : Prop where
  B : Bt mg
  A : ∃ f fd, Df K mg "_is_area" sIsArea ["thing"] f fd ∧ FnOk P w K mg base CX0 3 f fd ["thing"] (spO areaU)
  M : ∃ f fd, Df K mg "_is_most" sIsMost ["thing"] f fd ∧ FnOk P w K mg base CX0 3 f fd ["thing"] (spO mostU)
  N : ∃ f fd, Df K mg "is_count" sCount ["thing"] f fd ∧ FnOk P w K mg base CX0 2 f fd ["thing"] (spO cntU)
  L : ∃ f fd, Df K mg "is_lined" sIsLined ["thing"] f fd ∧ FnOk P w K mg base CX0 2 f fd ["thing"] (spO linU)
  EA : Ec K mg "NoArea" CA
  ET : Ec K mg "NoText" CT
  EN : Ec K mg "NoNumber" CN
section
variable {P : Program} {w : World} {K : PySem.W.Frag} {mg : Str → Option Value} {base : Heap} {C CA CT CN : Addr}
theorem et_notO {g : U → Bool} {H : Hp} {v : V} {u : U} {σ : L2.St} {te : TE} {E : XK} (h : Ev te σ H v) (o : Od H v u) (b : brd u) : EvT (tNot (tB (tCall (spO g) [] E (tCons te tNil)))) σ H (!(g u)) := et_not (et_B (ev_O h o b))
/-! ### area, clear -/
def spAreaX (CA : Addr) : Sp := fun vs H Q E => ∃ (x v : V) (u : U), vs = [x, v] ∧ Od H v u ∧ brd u ∧ areaU u = false ∧ ∀ H', Same H H' → E (.ref CA) none H'
theorem ok_areaX {f : Addr} {fd : FuncData} (F : Fun K "area" "Disk.area" (sDk 1) f fd) (R : Dx P w K mg base CA CT CN) : FnOk P w K mg base (L2.CX P w) 4 f fd ["self", "k"] (spAreaX CA) := by
  obtain ⟨fA, dA, DA', GA⟩ := R.A
  refine F.okX scArea (fun vs H Q E h => ?_) (fun cdv A outer s H vs Q E hr h => ?_)
  · obtain ⟨x, v, u, rfl, _⟩ := h
    rfl
  obtain ⟨x, v, u, rfl, ho, hb, hn, k⟩ := h
  refine ⟨_, pss_cons (ps_if (pt_not (pt_val (pe_call GA (hr.mono (by decide)) (by rfl) DA'.g DA'.F.kp DA'.b .nil pass0 (pa_cons (pv 1) pa_nil))))
      (pss_one (ps_raise rfl (takes_of rfl rfl rfl rfl) (pmk_own0 PySem.F.excBase_ValueError R.EA.x R.EA.g R.EA.k (raises_own R.EA.b R.EA.t) rfl))) pss_nil) pss_dead, ?_⟩
  exact q_when (et_notO (ev_var rfl) ho hb) (fun q H1 e1 => k H1 e1) (fun q => by rw [hn] at q; cases q)
theorem ok_clearX {f : Addr} {fd : FuncData} (F : Fun K "clear" "Disk.clear" (sDk 5) f fd) (R : Dx P w K mg base CA CT CN) : FnOk P w K mg base (L2.CX P w) 4 f fd ["self", "k"] (spAreaX CA) := by
  obtain ⟨fA, dA, DA', GA⟩ := R.A
  refine F.okX scClear (fun vs H Q E h => ?_) (fun cdv A outer s H vs Q E hr h => ?_)
  · obtain ⟨x, v, u, rfl, _⟩ := h
    rfl
  obtain ⟨x, v, u, rfl, ho, hb, hn, k⟩ := h
  refine ⟨_, pss_cons (ps_if (pt_not (pt_val (pe_call GA (hr.mono (by decide)) (by rfl) DA'.g DA'.F.kp DA'.b .nil pass0 (pa_cons (pv 1) pa_nil))))
      (pss_one (ps_raise rfl (takes_of rfl rfl rfl rfl) (pmk_own0 PySem.F.excBase_ValueError R.EA.x R.EA.g R.EA.k (raises_own R.EA.b R.EA.t) rfl))) pss_nil) pss_dead, ?_⟩
  exact q_when (et_notO (ev_var rfl) ho hb) (fun q H1 e1 => k H1 e1) (fun q => by rw [hn] at q; cases q)
/-! ### append -/
def spAppX (CA CT CN : Addr) : Sp := fun vs H Q E => ∃ (x v1 v2 v3 : V) (u1 u2 u3 : U), vs = [x, v1, v2, v3] ∧ Od H v1 u1 ∧ Od H v2 u2 ∧ Od H v3 u3 ∧ brd u1 ∧ brd u2 ∧ brd u3 ∧ (areaU u1 && linU u2 && mostU u3) = false ∧
  ∀ H', Same H H' → E (.ref (if areaU u1 then if linU u2 then CN else CT else CA)) none H'
theorem ok_appX {f : Addr} {fd : FuncData} (F : Fun K "append" "Disk.append" (sDk 4) f fd) (R : Dx P w K mg base CA CT CN) : FnOk P w K mg base (L2.CX P w) 4 f fd ["self", "k", "text", "most"] (spAppX CA CT CN) := by
  obtain ⟨fA, dA, DA', GA⟩ := R.A
  obtain ⟨fM, dM, DM, GM⟩ := R.M
  obtain ⟨fL, dL, DL, GL⟩ := R.L
  refine F.okX scApp (fun vs H Q E h => ?_) (fun cdv A outer s H vs Q E hr h => ?_)
  · obtain ⟨x, v1, v2, v3, u1, u2, u3, rfl, _⟩ := h
    rfl
  obtain ⟨x, v1, v2, v3, u1, u2, u3, rfl, o1, o2, o3, b1, b2, b3, hn, k⟩ := h
  refine ⟨_, pss_cons (ps_if (pt_not (pt_val (pe_call GA (hr.mono (by decide)) (by rfl) DA'.g DA'.F.kp DA'.b .nil pass0 (pa_cons (pv 1) pa_nil))))
      (pss_one (ps_raise rfl (takes_of rfl rfl rfl rfl) (pmk_own0 PySem.F.excBase_ValueError R.EA.x R.EA.g R.EA.k (raises_own R.EA.b R.EA.t) rfl))) pss_nil)
    (pss_cons (ps_if (pt_not (pt_val (pe_call GL (hr.mono (by decide)) (by rfl) DL.g DL.F.kp DL.b .nil pass0 (pa_cons (pv 2) pa_nil))))
      (pss_one (ps_raise rfl (takes_of rfl rfl rfl rfl) (pmk_own0 PySem.F.excBase_ValueError R.ET.x R.ET.g R.ET.k (raises_own R.ET.b R.ET.t) rfl))) pss_nil)
    (pss_cons (ps_if (pt_not (pt_val (pe_call GM (hr.mono (by decide)) (by rfl) DM.g DM.F.kp DM.b .nil pass0 (pa_cons (pv 3) pa_nil))))
      (pss_one (ps_raise rfl (takes_of rfl rfl rfl rfl) (pmk_own0 PySem.F.excBase_ValueError R.EN.x R.EN.g R.EN.k (raises_own R.EN.b R.EN.t) rfl))) pss_nil) pss_dead)), ?_⟩
  refine q_when (et_notO (ev_var rfl) o1 b1) (fun q H1 e1 => ?_) (fun q H1 e1 => ?_)
  · have q : areaU u1 = false := by cases h : areaU u1 <;> simp_all
    have := k H1 e1
    rw [q] at this
    exact this
  have q1 : areaU u1 = true := by cases h : areaU u1 <;> simp_all
  refine q_when (et_notO (ev_var rfl) (o2.ex e1) b2) (fun q H2 e2 => ?_) (fun q H2 e2 => ?_)
  · have q : linU u2 = false := by cases h : linU u2 <;> simp_all
    have := k H2 (e1.trans e2)
    rw [q1, q] at this
    exact this
  have q2 : linU u2 = true := by cases h : linU u2 <;> simp_all
  refine q_when (et_notO (ev_var rfl) ((o3.ex e1).ex e2) b3) (fun q H3 e3 => ?_) (fun q H3 e3 => ?_)
  · have := k H3 ((e1.trans e2).trans e3)
    rw [q1, q2] at this
    exact this
  · rw [q1, q2] at hn
    have hn : mostU u3 = false := hn
    rw [hn] at q
    cases q
/-! ### shorten -/
def shU (u : U) (n : Nat) : Bool := match u with | .int i => decide (0 ≤ i) && decide (i ≤ n) | _ => false
def spShX (C CA CN : Addr) : Sp := fun vs H Q E => ∃ (d : DA) (ar : List Str) (v1 v2 : V) (u1 u2 : U), vs = [.ref d.p, v1, v2] ∧ DAt C H d ar ∧ Od H v1 u1 ∧ Od H v2 u2 ∧ brd u1 ∧ brd u2 ∧ (∀ a ∈ ar, (areaU u1 && shU u2 a.length) = false) ∧
  ∀ H', Same H H' → E (.ref (if areaU u1 then CN else CA)) none H'
theorem ok_shX {f : Addr} {fd : FuncData} (F : Fun K "shorten" "Disk.shorten" (sDk 6) f fd) (T : Dk K mg C) (R : Dx P w K mg base CA CT CN) : FnOk P w K mg base (L2.CX P w) 4 f fd ["self", "k", "many"] (spShX C CA CN) := by
  obtain ⟨fA, dA, DA', GA⟩ := R.A
  obtain ⟨fN, dN, DN, GN⟩ := R.N
  refine F.okX scShort (fun vs H Q E h => ?_) (fun cdv A outer s H vs Q E hr h => ?_)
  · obtain ⟨d, ar, v1, v2, u1, u2, rfl, _⟩ := h
    rfl
  obtain ⟨d, ar, v1, v2, u1, u2, rfl, D, o1, o2, b1, b2, hn, k⟩ := h
  refine ⟨_, pss_cons (ps_if (pt_not (pt_val (pe_call GA (hr.mono (by decide)) (by rfl) DA'.g DA'.F.kp DA'.b .nil pass0 (pa_cons (pv 1) pa_nil))))
      (pss_one (ps_raise rfl (takes_of rfl rfl rfl rfl) (pmk_own0 PySem.F.excBase_ValueError R.EA.x R.EA.g R.EA.k (raises_own R.EA.b R.EA.t) rfl))) pss_nil)
    (pss_cons (ps_if (PW.pt (pw_or (pt_not (pt_val (pe_call GN (hr.mono (by decide)) (by rfl) DN.g DN.F.kp DN.b .nil pass0 (pa_cons (pv 2) pa_nil)))) (pw_or1 (pt_cmpR op_gt (pv 2) (pe_callB call_len_str (by rfl) R.B.len PySem.boot_len (pa_cons (pe_ix ix_list (pe_fld (pv 0) rfl) (pv 1) (fun _ _ => rfl)) pa_nil)) (nomark _)))))
      (pss_one (ps_raise rfl (takes_of rfl rfl rfl rfl) (pmk_own0 PySem.F.excBase_ValueError R.EN.x R.EN.g R.EN.k (raises_own R.EN.b R.EN.t) rfl))) pss_nil) pss_dead), ?_⟩
  refine q_when (et_notO (ev_var rfl) o1 b1) (fun q H1 e1 => ?_) (fun q H1 e1 => ?_)
  · have q : areaU u1 = false := by cases h : areaU u1 <;> simp_all
    have := k H1 e1
    rw [q] at this
    exact this
  have q1 : areaU u1 = true := by cases h : areaU u1 <;> simp_all
  obtain ⟨j, a, hv, ha⟩ : ∃ (j : Nat) (a : Str), v1 = .int (j : Int) ∧ ar[j]? = some a := by
    cases u1 with
    | int i =>
      cases o1
      have q1 : (decide (0 ≤ i) && decide (i ≤ 1)) = true := q1
      obtain ⟨x, y⟩ := Bool.and_eq_true_iff.mp q1
      have x := of_decide_eq_true x
      have y := of_decide_eq_true y
      have l := D.r.l
      exact ⟨i.toNat, ar[i.toNat]'(by omega), by rw [show ((i.toNat : Nat) : Int) = i by omega], List.getElem?_eq_getElem (by omega)⟩
    | _ => cases q1
  subst hv
  have ha9 := D.r.sz a (List.mem_of_getElem? ha)
  have hs := hn a (List.mem_of_getElem? ha)
  rw [q1] at hs
  have hs : shU u2 a.length = false := hs
  have D1 := D.ex e1
  have K2 := fun H2 (e2 : Ex H H2) => k H2 e2
  rw [q1] at K2
  refine q_when (b := true) (et_is (et_or (a := !(cntU u2)) (b := true) (et_notO (ev_var rfl) (o2.ex e1) b2) fun q => ?_) (by cases cntU u2 <;> rfl)) (fun q H2 e2 => K2 H2 (e1.trans e2)) (fun q => by cases q)
  cases u2 with
  | int i =>
    cases o2
    have q : (!decide (0 ≤ i)) = false := q
    have q : decide (0 ≤ i) = true := by cases h : decide (0 ≤ i) <;> simp_all
    have hs : (decide (0 ≤ i) && decide (i ≤ (a.length : Int))) = false := hs
    rw [q] at hs
    have hs : decide (i ≤ (a.length : Int)) = false := hs
    have hs := of_decide_eq_false hs
    exact et_is (et_test (ev_op (ev_var rfl) (ev_lenS (ev_areaK T D1 (ev_var rfl) (ev_var rfl) ha) (by omega)) rv_I0)) (decide_eq_true (by omega))
  | _ => cases q
end
end Ht
/-! k34: is_thing of any value -/
namespace Ht
open PySem PySem.Spec PyProof.Rows L2 Hu Evl
section
variable {P : Program} {w : World} {K : PySem.W.Frag} {mg : Str → Option Value} {base : Heap} {C : Addr}
def spThO (n : Nat) : Sp := fun vs H Q _ => ∃ (v : V) (u : U), vs = [v, .int (n : Int)] ∧ Od H v u ∧ brd u ∧ ∀ H', Same H H' → Q (.bl (thB n u)) H'
def spThOP : Nat → Sp
  | 0 => fun _ _ _ _ => False
  | n + 1 => spThO n
theorem ok_thO {f f1 f2 : Addr} {fd d1 d2 : FuncData} {t : Tok} (DT : Df K mg "is_thing" sIsThing ["thing", "deepest"] f fd) (B : Bt mg) (D1 : Df K mg "is_integer" sIsInt ["thing"] f1 d1) (D2 : Df K mg "is_signs" sIsSigns ["thing"] f2 d2) (hB : mg "BOUND" = some (.int (10 ^ 30) t)) (n : Nat)
    (G : FnOk P w K mg base CX0 (1 + n) f fd ["thing", "deepest"] (spThOP n)) : FnOk P w K mg base CX0 (1 + n + 1) f fd ["thing", "deepest"] (spThO n) := by
  have G1 : FnOk P w K mg base CX0 1 f1 d1 ["thing"] (spO intU) := ok_isIntO D1.F B
  have G2 : FnOk P w K mg base CX0 1 f2 d2 ["thing"] (spO sgU) := ok_isSignsO D2.F B
  refine DT.F.ok scIsThing (fun vs H Q E h => ?_) (fun cdv A outer s H vs Q E hr h => ?_)
  · obtain ⟨v, u, rfl, _⟩ := h
    rfl
  obtain ⟨v, u, rfl, hat, bu, k⟩ := h
  have hr1 : Room 1 (A.deeper (envOfC "is_thing" (defScope sIsThing) s.heap.objs.size f cdv)) := hr.mono (by omega)
  refine ⟨_, pss_cons (ps_if (pt_val (pe_callB call_isi (by rfl) B.isi boot_isi' (pa_cons (pv 0) (pa_cons (pe_bltn (by rfl) B.tup boot_tup' (show RelV (.ty "tuple") (.type "tuple") from rfl)) pa_nil))))
      (pss_one (ps_ret (pe_and (pe_cmpR op_gt (pv 1) pe_int (nomark _)) (pe_one (pe_callB (cr_all rfl) (by rfl) B.all boot_all' (pa_cons (pe_lc (own := [("item", 2)]) (g := gName 2) (tt := tYes) rfl scIsThing.nd (pi_tup (pv 0)) (blkOk_by (N := ["thing", "deepest", "item"]) (sc := defScope sIsThing) (by decide +kernel))
        (fun _ _ _ _ _ => pg_name (i := 2) scIsThing.nd rfl (Or.inl rfl)) (fun _ _ _ _ _ => pts_nil) (fun _ _ _ _ _ => pe_call G hr (by rfl) DT.g DT.F.kp DT.b .nil pass0 (pa_cons (pv 2) (pa_cons (pe_op op_sub (pv 1) pe_int) pa_nil)))) pa_nil)))))) pss_nil)
    (pss_cons (ps_if (pt_val (pe_callB call_isi (by rfl) B.isi boot_isi' (pa_cons (pv 0) (pa_cons (pe_bltn (by rfl) B.str boot_str' (show RelV (.ty "str") (.type "str") from rfl)) pa_nil))))
      (pss_one (ps_ret (pe_call G2 hr1 (by rfl) D2.g D2.F.kp D2.b .nil pass0 (pa_cons (pv 0) pa_nil)))) pss_nil)
    (pss_one (ps_ret (pe_or (pe_cmpR op_isN1 (pv 0) pe_non (nomark _)) (pe_one (pe_and (pe_call G1 hr1 (by rfl) D1.g D1.F.kp D1.b .nil pass0 (pa_cons (pv 0) pa_nil))
      (pe_one (pe_chain op_lt op_lt (pe_un un_neg (pe_glob (v := .int (10 ^ 30)) rfl hB ⟨_, rfl⟩)) (pv 0) (pe_glob (v := .int (10 ^ 30)) rfl hB ⟨_, rfl⟩))))))))), ?_⟩
  refine s_if (b := isT u "tuple") (et_B (ev_isiO (ev_var rfl) hat (by decide))) (fun q2 H2 e2 => ?_) (fun q2 H2 e2 => s_next ?_)
  · obtain ⟨us, rfl⟩ : ∃ us, u = .tup us := by
      cases u with
      | tup us => exact ⟨us, rfl⟩
      | _ => simp [isT, isS, tyU] at q2
    have hat2 := hat.ex e2
    cases hat2 with
    | @tup a xs _ ha hl =>
      simp only [brd] at bu
      refine s_ret (ev_andV (a := decide ((0 : Int) < (n : Int))) (b := thB n (.tup us)) (ev_op (ev_var rfl) ev_c rv_I0) fun q => ?_) fun H3 e3 => ?_
      · obtain ⟨m, rfl⟩ : ∃ m, n = m + 1 := ⟨n - 1, by have := of_decide_eq_true q; omega⟩
        have EL : EvL (tLc (iTup K (tVar 0)) (gName 2) tYes (tCall (spThOP (m + 1)) [] E0 (tCons (tVar 2) (tCons (tOp (rI0 fun i j => .int (i - j)) (tVar 1) (tC (.int 1))) tNil))) [2]) [some (V.ref a), some (.int ((m + 1 : Nat) : Int)), none] H2 ((us.map (thB m)).map V.bl) := by
          rw [List.map_map]
          refine el_lcO (j := 2) (vs := [2]) (g := fun u => .bl (thB m u)) (ev_var rfl) ha (by omega) hl (fun _ => rfl) fun x u hu hx => ev_call (vs := [x, .int (m : Int)]) (ea_cons (ev_var rfl) (ea_cons (ev_is (ev_op (ev_var rfl) ev_c rv_I0) (by rw [show ((m + 1 : Nat) : Int) - 1 = (m : Int) by omega])) ea_nil)) fun H3 e3 Q q E => ⟨x, u, rfl, hx.ex e3, brd_mem bu.2 hu, q⟩
        refine ev_is (ev_allL (K := K) EL) ?_
        rw [List.all_map]
        rfl
      · have e4 : (decide ((0 : Int) < (n : Int)) && thB n (.tup us)) = thB n (.tup us) := by
          cases n with
          | zero => rfl
          | succ m => rw [decide_eq_true (by omega)]; rfl
        rw [e4]
        exact k H3 (e2.trans e3)
  have hat2 := hat.ex e2
  refine q_if (b := isT u "str") (et_B (ev_isiO (ev_var rfl) hat2 (by decide))) (fun q3 H3 e3 => ?_) (fun q3 H3 e3 => s_next ?_)
  · have e4 : sgU u = thB n u := by
      cases u with
      | str z => cases n <;> rfl
      | _ => simp [isT, isS, tyU] at q3
    exact s_ret (ev_is (ev_call (sp := spO sgU) (ea_cons (ev_var rfl) ea_nil) fun H4 e5 Q q E => ⟨v, u, rfl, hat2.ex (e3.trans e5), bu, q⟩) (congrArg V.bl e4)) fun H4 e5 => k H4 ((e2.trans e3).trans e5)
  · have hat3 := hat2.ex e3
    have fin : ∀ {te : TE}, Ev te [some v, some (.int (n : Int)), none] H3 (.bl (thB n u)) → tRet te { nx := fun _ H' => Q .non H', rt := Q } [some v, some (.int (n : Int)), none] H3 := fun ev => s_ret ev fun H4 e4 => k H4 ((e2.trans e3).trans e4)
    dsimp only
    refine fin ?_
    refine ev_is (ev_orV (a := decide (v = .non)) (b := thB n u) (ev_op (ev_var rfl) ev_c fun H1 _ Q q => ⟨rfl, q H1 (Ex.refl H1)⟩) fun q => ev_is (ev_andV (a := intU u) (b := thB n u) (ev_call (sp := spO intU) (ea_cons (ev_var rfl) ea_nil) fun H4 e5 Q q E => ⟨v, u, rfl, hat3.ex e5, bu, q⟩) fun qi => ?_) ?_) ?_
    · cases hat3 with
      | int i =>
        refine ev_is (ev_chain (ev_un ev_c ru_neg) (ev_var rfl) ev_c rv_I0 fun _ => rv_I0) ?_
        cases n <;> rfl
      | _ => cases qi
    · cases hat3 with
      | int i => rfl
      | non => exact absurd rfl (of_decide_eq_false q)
      | tup _ _ => simp [isT, isS, tyU] at q2
      | str z => simp [isT, isS, tyU] at q3
      | bl b => cases n <;> rfl
      | lst _ => cases n <;> rfl
      | dct _ => cases n <;> rfl
    · cases hat3 with
      | non => cases n <;> rfl
      | _ => rfl
theorem ok_thsO {f f1 f2 : Addr} {fd d1 d2 : FuncData} {t : Tok} (DT : Df K mg "is_thing" sIsThing ["thing", "deepest"] f fd) (B : Bt mg) (D1 : Df K mg "is_integer" sIsInt ["thing"] f1 d1) (D2 : Df K mg "is_signs" sIsSigns ["thing"] f2 d2) (hB : mg "BOUND" = some (.int (10 ^ 30) t)) : ∀ n : Nat, FnOk P w K mg base CX0 (1 + n + 1) f fd ["thing", "deepest"] (spThO n)
  | 0 => ok_thO DT B D1 D2 hB 0 ⟨fun _ _ _ _ h => h.elim, fun _ _ _ _ _ _ _ _ _ _ _ _ _ h => h.elim⟩
  | n + 1 => ok_thO DT B D1 D2 hB (n + 1) (ok_thsO DT B D1 D2 hB n)
end
end Ht
/-! k34: what lines, rest, noted, kept raise -/
namespace Ht
open PySem PySem.Spec PyProof.Rows L2 Hu Evl
section
variable {P : Program} {w : World} {K : PySem.W.Frag} {mg : Str → Option Value} {base : Heap} {C CA CT CN CI CS : Addr}
/-! ### _counted, lines, rest -/
theorem s_retIxS {σ : L2.St} {H : Hp} {ta : TA} {D : Ends} {sp : Sp} {vs : List V} {E : L2.St → XK} {i : Int} (h : EvA ta σ H vs) (k : ∀ H1, Ex H H1 → sp vs H1 (fun x H2 => rIxT K x (.int i) H2 D.rt) (E σ)) : tRet (tOp (rIxT K) (tCallS sp E ta) (tC (.int i))) D σ H := h H (Ex.refl H) _ fun H1 e => k H1 e
def spTextX (CT : Addr) : Sp := fun vs H Q E => ∃ (v : V) (u : U), vs = [v] ∧ Od H v u ∧ brd u ∧ linU u = false ∧ ∀ H', Same H H' → E (.ref CT) none H'
theorem ok_countedX {f : Addr} {fd : FuncData} (F : Fun K "_counted" "_counted" sCounted f fd) (R : Dx P w K mg base CA CT CN) : FnOk P w K mg base (L2.CX P w) 3 f fd ["text"] (spTextX CT) := by
  obtain ⟨fL, dL, DL, GL⟩ := R.L
  refine F.okX scCt (fun vs H Q E h => ?_) (fun cdv A outer s H vs Q E hr h => ?_)
  · obtain ⟨v, u, rfl, _⟩ := h
    rfl
  obtain ⟨v, u, rfl, ho, hb, hn, k⟩ := h
  refine ⟨_, pss_cons (ps_if (pt_not (pt_val (pe_call GL (hr.mono (by decide)) (by rfl) DL.g DL.F.kp DL.b .nil pass0 (pa_cons (pv 0) pa_nil))))
      (pss_one (ps_raise rfl (takes_of rfl rfl rfl rfl) (pmk_own0 PySem.F.excBase_ValueError R.ET.x R.ET.g R.ET.k (raises_own R.ET.b R.ET.t) rfl))) pss_nil) pss_dead, ?_⟩
  exact q_when (et_notO (ev_var rfl) ho hb) (fun q H1 e1 => k H1 e1) (fun q => by rw [hn] at q; cases q)
theorem ok_linesX {f fC : Addr} {fd dC : FuncData} (F : Fun K "lines" "lines" sLines f fd) (DC : Df K mg "_counted" sCounted ["text"] fC dC) (R : Dx P w K mg base CA CT CN) : FnOk P w K mg base (L2.CX P w) 4 f fd ["text"] (spTextX CT) := by
  have GC : FnOk P w K mg base (L2.CX P w) 3 fC dC ["text"] (spTextX CT) := ok_countedX DC.F R
  refine F.okX scLn (fun vs H Q E h => ?_) (fun cdv A outer s H vs Q E hr h => ?_)
  · obtain ⟨v, u, rfl, _⟩ := h
    rfl
  obtain ⟨v, u, rfl, ho, hb, hn, k⟩ := h
  refine ⟨_, pss_one (ps_ret (pe_ix ix_tup (pe_callS GC hr rfl DC.g DC.F.kp DC.b (fun σ => passAt (takes_of rfl rfl rfl rfl) σ) (pa_cons (pv 0) pa_nil)) pe_int (fun _ _ => rfl))), ?_⟩
  refine s_retIxS (sp := spTextX CT) (vs := [v]) (ea_cons (ev_var rfl) ea_nil) fun H1 e1 => ?_
  exact ⟨v, u, rfl, ho.ex e1, hb, hn, fun H' s' => k H' (e1.trans s')⟩
theorem ok_restX {f fC : Addr} {fd dC : FuncData} (F : Fun K "rest" "rest" sRest f fd) (DC : Df K mg "_counted" sCounted ["text"] fC dC) (R : Dx P w K mg base CA CT CN) : FnOk P w K mg base (L2.CX P w) 4 f fd ["text"] (spTextX CT) := by
  have GC : FnOk P w K mg base (L2.CX P w) 3 fC dC ["text"] (spTextX CT) := ok_countedX DC.F R
  refine F.okX scRs (fun vs H Q E h => ?_) (fun cdv A outer s H vs Q E hr h => ?_)
  · obtain ⟨v, u, rfl, _⟩ := h
    rfl
  obtain ⟨v, u, rfl, ho, hb, hn, k⟩ := h
  refine ⟨_, pss_one (ps_ret (pe_ix ix_tup (pe_callS GC hr rfl DC.g DC.F.kp DC.b (fun σ => passAt (takes_of rfl rfl rfl rfl) σ) (pa_cons (pv 0) pa_nil)) pe_int (fun _ _ => rfl))), ?_⟩
  refine s_retIxS (sp := spTextX CT) (vs := [v]) (ea_cons (ev_var rfl) ea_nil) fun H1 e1 => ?_
  exact ⟨v, u, rfl, ho.ex e1, hb, hn, fun H' s' => k H' (e1.trans s')⟩
/-! ### noted, kept -/
/-- what is reached of noted and kept where something is wrong -/
structure Nx (P : Program) (w : World) (K : PySem.W.Frag) (mg : Str → Option Value) (base : Heap) (C CN CI CS : Addr) : Prop where
  B : Bt mg
  M : ∃ f fd, Df K mg "_is_most" sIsMost ["thing"] f fd ∧ FnOk P w K mg base CX0 3 f fd ["thing"] (spO mostU)
  th : ∃ f d, Df K mg "is_thing" sIsThing ["thing", "deepest"] f d ∧ FnOk P w K mg base CX0 30 f d ["thing", "deepest"] (spThO 28)
  st : ∃ f d, Df K mg "standing" sStand ["disk"] f d ∧ FnOk P w K mg base CX0 70 f d ["disk"] (spSt C)
  dp : ∃ t, mg "ITEM_DEPTH" = some (.int 28 t)
  EN : Ec K mg "NoNumber" CN
  EI : Ec K mg "NoItems" CI
  ES : Ec K mg "NoStand" CS
theorem et_thO {σ : L2.St} {H : Hp} {te : TE} {E : XK} {v : V} {u : U} (h : Ev te σ H v) (o : Od H v u) (b : brd u) : Ev (tCall (spThO 28) [] E (tCons te (tCons (tC (.int 28)) tNil))) σ H (.bl (thB 28 u)) :=
  ev_call (sp := spThO 28) (vs := [v, .int 28]) (ea_cons h (ea_cons ev_c ea_nil)) fun H1 e1 Q q E => ⟨v, u, rfl, o.ex e1, b, q⟩
def spNoX (C CN CI CS : Addr) : Sp := fun vs H Q E => ∃ (d : DA) (ar : List Str) (v m : V) (u um : U), vs = [.ref d.p, v, m] ∧ DAt C H d ar ∧ Od H v u ∧ Od H m um ∧ brd u ∧ brd um ∧ (thB 28 u && mostU um && (stA ar).isSome) = false ∧
  ∀ H', KpD d H H' → E (.ref (if thB 28 u then if mostU um then CS else CN else CI)) none H'
theorem ok_noX {f : Addr} {fd : FuncData} (F : Fun K "noted" "noted" sNoted f fd) (N : Nx P w K mg base C CN CI CS) : FnOk P w K mg base (L2.CX P w) 71 f fd ["disk", "item", "most"] (spNoX C CN CI CS) := by
  obtain ⟨B, ⟨fm, dm, Dm', Gm⟩, ⟨fh, dh, Dh, Gh⟩, ⟨ft, dt, Dt, Gt⟩, ⟨td, hd⟩, EN, EI, ES⟩ := N
  refine F.okX scNo (fun vs H Q E h => ?_) (fun cdv A outer s H vs Q E hr h => ?_)
  · obtain ⟨d, ar, v, m, u, um, rfl, _⟩ := h
    rfl
  obtain ⟨d, ar, v, m, u, um, rfl, D, ou, om, bu, bm, hn, k⟩ := h
  refine ⟨_, pss_cons (ps_if (pt_not (pt_val (pe_call Gh (hr.mono (by decide)) (by rfl) Dh.g Dh.F.kp Dh.b .nil pass0 (pa_cons (pv 1) (pa_cons (pe_glob (v := .int 28) (by rfl) hd ⟨_, rfl⟩) pa_nil)))))
      (pss_one (ps_raise rfl (takes_of rfl rfl rfl rfl) (pmk_own0 PySem.F.excBase_ValueError EI.x EI.g EI.k (raises_own EI.b EI.t) rfl))) pss_nil)
    (pss_cons (ps_if (pt_not (pt_val (pe_call Gm (hr.mono (by decide)) (by rfl) Dm'.g Dm'.F.kp Dm'.b .nil pass0 (pa_cons (pv 2) pa_nil))))
      (pss_one (ps_raise rfl (takes_of rfl rfl rfl rfl) (pmk_own0 PySem.F.excBase_ValueError EN.x EN.g EN.k (raises_own EN.b EN.t) rfl))) pss_nil)
    (pss_cons (ps_set (i := 3) scNo.nd rfl (.inl rfl) (pe_call Gt hr (by rfl) Dt.g Dt.F.kp Dt.b .nil pass0 (pa_cons (pv 0) pa_nil)))
    (pss_cons (ps_if (pt_cmpR op_isN1 (pv 3) pe_non (nomark _))
      (pss_one (ps_raise rfl (takes_of rfl rfl rfl rfl) (pmk_own0 PySem.F.excBase_ValueError ES.x ES.g ES.k (raises_own ES.b ES.t) rfl))) pss_nil) pss_dead))), ?_⟩
  obtain ⟨z0, z1, rfl⟩ : ∃ z0 z1, ar = [z0, z1] := by
    match ar, D.r.l with
    | [x, y], _ => exact ⟨x, y, rfl⟩
  refine q_when (b := !(thB 28 u)) (et_not (et_B (et_thO (ev_var rfl) ou bu))) (fun q H1 e1 => ?_) (fun q H1 e1 => ?_)
  · have q : thB 28 u = false := by cases h : thB 28 u <;> simp_all
    have := k H1 (KpD.of_ex e1)
    rw [q] at this
    exact this
  have q1 : thB 28 u = true := by cases h : thB 28 u <;> simp_all
  refine q_when (et_notO (ev_var rfl) (om.ex e1) bm) (fun q H2 e2 => ?_) (fun q H2 e2 => ?_)
  · have q : mostU um = false := by cases h : mostU um <;> simp_all
    have := k H2 (KpD.of_ex (e1.trans e2))
    rw [q1, q] at this
    exact this
  have q2 : mostU um = true := by cases h : mostU um <;> simp_all
  refine ⟨_, rfl, d, z0, z1, rfl, D.ex (e1.trans e2), fun H3 x3 D3 => ?_⟩
  have hst : stN (genU (cntT (TL.tl z0)).1) (genU (cntT (TL.tl z1)).1) = stA [z0, z1] := rfl
  rw [hst]
  have hs : stA [z0, z1] = none := by
    rw [q1, q2] at hn
    cases h : stA [z0, z1] with
    | none => rfl
    | some j => rw [h] at hn; cases hn
  dsimp only [gName]
  show tSeq (tIfS _ _ _) _ _ [some (.ref d.p), some v, some m, some (oV (stA [z0, z1])), none] H3
  rw [hs]
  refine q_when (b := true) (et_is (et_test (ev_op (ev_var rfl) ev_c rv_isNon)) (oV_non none)) (fun _ H4 e4 => ?_) (fun q => by cases q)
  have := k H4 (((KpD.of_ex (e1.trans e2)).trans x3).trans (KpD.of_ex e4))
  rw [q1, q2] at this
  exact this
def itU (u : U) : Bool := match u with | .tup us => us.all (thB 28) | _ => false
def spKeX (C CN CI CS : Addr) : Sp := fun vs H Q E => ∃ (d : DA) (ar : List Str) (v m : V) (u um : U), vs = [.ref d.p, v, m] ∧ DAt C H d ar ∧ Od H v u ∧ Od H m um ∧ brd u ∧ brd um ∧ (itU u && mostU um && (stA ar).isSome) = false ∧
  ∀ H', KpD d H H' → DAt C H' d ar → E (.ref (if itU u then if mostU um then CS else CN else CI)) none H'
theorem ok_keX {f : Addr} {fd : FuncData} (F : Fun K "kept" "kept" sKept f fd) (N : Nx P w K mg base C CN CI CS) : FnOk P w K mg base (L2.CX P w) 71 f fd ["disk", "items", "most"] (spKeX C CN CI CS) := by
  obtain ⟨B, ⟨fm, dm, Dm', Gm⟩, ⟨fh, dh, Dh, Gh⟩, ⟨ft, dt, Dt, Gt⟩, ⟨td, hd⟩, EN, EI, ES⟩ := N
  refine F.okX scKe (fun vs H Q E h => ?_) (fun cdv A outer s H vs Q E hr h => ?_)
  · obtain ⟨d, ar, v, m, u, um, rfl, _⟩ := h
    rfl
  obtain ⟨d, ar, v, m, u, um, rfl, D, ou, om, bu, bm, hn, k⟩ := h
  refine ⟨_, pss_cons (ps_if (PW.pt (pw_or (pt_not (pt_val (pe_callB call_isi (by rfl) B.isi boot_isi' (pa_cons (pv 1) (pa_cons (pe_bltn (by rfl) B.tup boot_tup' (show RelV (.ty "tuple") (.type "tuple") from rfl)) pa_nil)))))
      (pw_or1 (pt_not (pt_val (pe_callB (cr_all rfl) (by rfl) B.all boot_all' (pa_cons (pe_lc (own := [("item", 6)]) (g := gName 6) (tt := tYes) rfl scKe.nd (pi_tup (pv 1)) (blkOk_by (N := ["disk", "items", "most", "k", "newer", "text", "item"]) (sc := defScope sKept) (by decide +kernel))
        (fun _ _ _ _ _ => pg_name (i := 6) scKe.nd rfl (Or.inl rfl)) (fun _ _ _ _ _ => pts_nil) (fun _ _ _ _ _ => pe_call Gh (hr.mono (by decide)) (by rfl) Dh.g Dh.F.kp Dh.b .nil pass0 (pa_cons (pv 6) (pa_cons (pe_glob (v := .int 28) (by rfl) hd ⟨_, rfl⟩) pa_nil)))) pa_nil)))))))
      (pss_one (ps_raise rfl (takes_of rfl rfl rfl rfl) (pmk_own0 PySem.F.excBase_ValueError EI.x EI.g EI.k (raises_own EI.b EI.t) rfl))) pss_nil)
    (pss_cons (ps_if (pt_not (pt_val (pe_call Gm (hr.mono (by decide)) (by rfl) Dm'.g Dm'.F.kp Dm'.b .nil pass0 (pa_cons (pv 2) pa_nil))))
      (pss_one (ps_raise rfl (takes_of rfl rfl rfl rfl) (pmk_own0 PySem.F.excBase_ValueError EN.x EN.g EN.k (raises_own EN.b EN.t) rfl))) pss_nil)
    (pss_cons (ps_set (i := 3) scKe.nd rfl (.inl rfl) (pe_call Gt hr (by rfl) Dt.g Dt.F.kp Dt.b .nil pass0 (pa_cons (pv 0) pa_nil)))
    (pss_cons (ps_if (pt_cmpR op_isN1 (pv 3) pe_non (nomark _))
      (pss_one (ps_raise rfl (takes_of rfl rfl rfl rfl) (pmk_own0 PySem.F.excBase_ValueError ES.x ES.g ES.k (raises_own ES.b ES.t) rfl))) pss_nil) pss_dead))), ?_⟩
  obtain ⟨z0, z1, rfl⟩ : ∃ z0 z1, ar = [z0, z1] := by
    match ar, D.r.l with
    | [x, y], _ => exact ⟨x, y, rfl⟩
  refine q_when (b := !(itU u)) (et_is (et_or (a := !(isT u "tuple")) (b := !(itU u)) (et_not (et_B (ev_isiO (ev_var rfl) ou (by decide)))) fun q => ?_) ?_) (fun q H1 e1 => ?_) (fun q H1 e1 => ?_)
  · obtain ⟨us, rfl⟩ : ∃ us, u = .tup us := by
      cases u with
      | tup us => exact ⟨us, rfl⟩
      | _ => simp [isT, isS, tyU] at q
    cases ou with
    | @tup a xs _ ha hl =>
      simp only [brd] at bu
      have EL : EvL (tLc (iTup K (tVar 1)) (gName 6) tYes (tCall (spThO 28) [] E0 (tCons (tVar 6) (tCons (tC (.int 28)) tNil))) [6]) [some (.ref d.p), some (.ref a), some m, none, none, none, none] H ((us.map (thB 28)).map V.bl) := by
        rw [List.map_map]
        exact el_lcO (j := 6) (vs := [6]) (g := fun u => .bl (thB 28 u)) (ev_var rfl) ha (by omega) hl (fun _ => rfl) fun x u hu2 ox => et_thO (ev_var rfl) ox (brd_mem bu.2 hu2)
      refine et_not (et_B (ev_is (ev_allL (K := K) EL) ?_))
      rw [List.all_map]
      rfl
  · cases u <;> simp [isT, isS, tyU, itU]
  · have q : itU u = false := by cases h : itU u <;> simp_all
    have := k H1 (KpD.of_ex e1) (D.ex e1)
    rw [q] at this
    exact this
  have q1 : itU u = true := by cases h : itU u <;> simp_all
  refine q_when (et_notO (ev_var rfl) (om.ex e1) bm) (fun q H2 e2 => ?_) (fun q H2 e2 => ?_)
  · have q : mostU um = false := by cases h : mostU um <;> simp_all
    have := k H2 (KpD.of_ex (e1.trans e2)) (D.ex (e1.trans e2))
    rw [q1, q] at this
    exact this
  have q2 : mostU um = true := by cases h : mostU um <;> simp_all
  refine ⟨_, rfl, d, z0, z1, rfl, D.ex (e1.trans e2), fun H3 x3 D3 => ?_⟩
  have hst : stN (genU (cntT (TL.tl z0)).1) (genU (cntT (TL.tl z1)).1) = stA [z0, z1] := rfl
  rw [hst]
  have hs : stA [z0, z1] = none := by
    rw [q1, q2] at hn
    cases h : stA [z0, z1] with
    | none => rfl
    | some j => rw [h] at hn; cases hn
  dsimp only [gName]
  show tSeq (tIfS _ _ _) _ _ [some (.ref d.p), some v, some m, some (oV (stA [z0, z1])), none, none, none] H3
  rw [hs]
  refine q_when (b := true) (et_is (et_test (ev_op (ev_var rfl) ev_c rv_isNon)) (oV_non none)) (fun _ H4 e4 => ?_) (fun q => by cases q)
  have := k H4 (((KpD.of_ex (e1.trans e2)).trans x3).trans (KpD.of_ex e4)) (D3.ex e4)
  rw [q1, q2] at this
  exact this
end
end Ht
/-! k34: _law_refusal, which gets a lambda -/
namespace Ht
open PySem PySem.Spec PyProof.Rows L2 Hu Evl
abbrev lRefusal : Stmt := topS 61
theorem count_eqU {x : V} : ∀ {xs : List V} {us : List Value}, Vals xs us → xs.all flatV = true → us.countP (eqU x) = xs.countP fun y => eqV y x
  | _, _, .nil, _ => rfl
  | y :: xs, u :: us, .cons r t, f => by
    rw [List.all_cons, Bool.and_eq_true] at f
    rw [List.countP_cons, List.countP_cons, eqU_of r f.1, count_eqU t f.2]
def rCntV (K : PySem.W.Frag) : V → List V → Hp → VK → Prop := fun x xs H Q => ∃ (p : Addr) (ys : List V) (y : V), x = .ref p ∧ xs = [y] ∧ SqL K H p ys ∧ flatV y = true ∧ ys.all flatV = true ∧ Q (.int ((ys.countP fun z => eqV z y : Nat) : Int)) H
theorem mt_countV {X : Cx} : MtR X "list.count" (rCntV X.K) := by
  intro pins s σ H x xs v us Q I rx rxs h
  obtain ⟨p, ys, y, rfl, rfl, hs, fy, fys, q⟩ := h
  cases rx
  cases rxs with
  | cons ry rt =>
    rename_i uy ut
    cases rt
    obtain ⟨its, rv, ⟨⟨cls, dd, data, sl⟩, n, ho, hc, hdn, hd⟩, hlen⟩ := I.list hs
    simp only at hc hd
    subst hc hd
    refine call_meets PySem.F.slot_list_count ⟨_, ho, rfl⟩ PySem.F.entry_list_count (PySem.F.args_list_count_2 _ _)
      (SeqAt.list_countAt p its.toArray n dd sl uy (eqU y)) ⟨ho, fun u' hu' => mem_eqAt ry fy rv fys u' (by simpa using hu'), ?_⟩
    have ec : its.toArray.toList.countP (eqU y) = ys.countP fun z => eqV z y := count_eqU rv fys
    refine ⟨.int ((ys.countP fun z => eqV z y : Nat) : Int), H, I.tok _, ⟨s.toks, ?_⟩, q⟩
    show Value.int ((its.toArray.toList.countP (eqU y) : Nat) : Int) s.toks = Value.int ((ys.countP fun z => eqV z y : Nat) : Int) s.toks
    rw [ec]
/-- a reading that knows how many names there are -/
theorem pss_len {X : Cx} {l : List Stmt} {t : TS} {n : Nat} (h : PSs X l t) (hn : X.N.length = n) : PSs X l (fun D σ H => σ.length = n → t D σ H) := ⟨fun pins s σ H D I q => h.run pins s σ H D I (q (I.len.trans hn))⟩
/-- the five errors -/
def nmE (i : Fin 5) : Str := match i with | 0 => "NoArea" | 1 => "NoText" | 2 => "NoNumber" | 3 => "NoItems" | 4 => "NoStand"
def wdE (i : Fin 5) : Str := match i with | 0 => "area" | 1 => "text" | 2 => "number" | 3 => "items" | 4 => "stand"
structure Er (K : PySem.W.Frag) (mg : Str → Option Value) (cs : Fin 5 → Addr) (CH : Addr) : Prop where
  g : ∀ i, mg (nmE i) = some (.ref (cs i))
  x : ∀ i, ExcC K (cs i)
  k : ∀ i j, PySem.W.kitOne K (.ref (cs i)) (.ref (cs j)) = some (decide (i = j))
  h : ∀ i, PySem.W.exmOne K (.ref (cs i)) (.ref CH) = some true
  gH : mg "HomeError" = some (.ref CH)
def rIs5 (K : PySem.W.Frag) (cs : Fin 5 → Addr) (a : Addr) (cls : Value) (d : Option Addr) : List V → Hp → VK → Prop := fun xs H Q => ∃ i, cls = .ref (cs i) ∧ d = none ∧ rIsE K (cs i) a xs H Q
theorem call_is5 {X : Cx} {a : Addr} {mg : Str → Option Value} {cs : Fin 5 → Addr} {CH : Addr} {oe : Obj} {cls : Value} {d : Option Addr} {pn : List (Addr × Obj)} (R : Er X.K mg cs CH) (hz : Zc cls d oe) (hf : ∃ vs, oe.data = .fields vs) : CallR (X.suite a ((a, oe) :: pn)) (.builtin "isinstance") (rIs5 X.K cs a cls d) := by
  intro pins s σ H xs us Q I r h
  obtain ⟨i, e1, e2, h⟩ := h
  subst e1 e2
  exact call_isE (R.x i) hz hf pins s σ H xs us Q I r h
theorem ev_is5 {K : PySem.W.Frag} {mg : Str → Option Value} {cs : Fin 5 → Addr} {CH a : Addr} {σ : L2.St} {H : Hp} {te : TE} {i : Fin 5} (R : Er K mg cs CH) (h : Ev te σ H (.ref a)) (j : Fin 5) : Ev (tCB (rIs5 K cs a (.ref (cs i)) none) (tCons te (tCons (tC (.ref (cs j))) tNil))) σ H (.bl (decide (i = j))) :=
  ev_cb (ea_cons h (ea_cons ev_c ea_nil)) fun H1 e Q q => ⟨i, rfl, rfl, .ref (cs j), .ref (cs j), decide (i = j), rfl, fun u hu => hu, R.k i j, q H1 (Ex.refl H1)⟩
/-- what _law_refusal makes of the lambda's reading -/
def TTr (cs : Fin 5 → Addr) : (XK → Hp → VK → Prop) → Hp → VK → Prop := fun tl H Q =>
  ∀ (E : XK) (R : VK), (∀ v H', Q (.str "let") H' → R v H') → (∀ i H', (∀ H'', Ex H' H'' → Q (.str (wdE i)) H'') → E (.ref (cs i)) none H') → tl E H R
theorem scRef : FnScope ["ask", "told", "e", "flags"] ["ask"] (defScope lRefusal) := ⟨rfl, rfl, rfl, by decide +kernel, rfl, by decide +kernel, by decide +kernel⟩
def flE (i : Fin 5) : List V := [V.bl (decide (i = 0)), .bl (decide (i = 1)), .bl (decide (i = 2)), .bl (decide (i = 3)), .bl (decide (i = 4))]
def wsE : List V := [.str "area", .str "text", .str "number", .str "items", .str "stand"]
theorem fl_count (i : Fin 5) : ((flE i).countP fun z => eqV z (.bl true)) = 1 := by revert i; decide
theorem fl_flat (i : Fin 5) : (flE i).all flatV = true := rfl
theorem fl_get (i : Fin 5) : (flE i)[i.val]? = some (.bl true) := by
  match i with
  | 0 => rfl
  | 1 => rfl
  | 2 => rfl
  | 3 => rfl
  | 4 => rfl
theorem ws_get (i : Fin 5) : wsE[i.val]? = some (.str (wdE i)) := by
  match i with
  | 0 => rfl
  | 1 => rfl
  | 2 => rfl
  | 3 => rfl
  | 4 => rfl
theorem fl_no (i : Fin 5) : ∀ (m : Nat) (z : V), m < i.val → (flE i)[m]? = some z → eqV z (.bl true) = false := by
  have h : ∀ i m : Fin 5, m < i → ∃ b, (flE i)[m.val]? = some (.bl b) ∧ b = false := by
    intro i m hm
    match i, m, hm with
    | 1, 0, _ => exact ⟨_, rfl, rfl⟩
    | 2, 0, _ => exact ⟨_, rfl, rfl⟩
    | 2, 1, _ => exact ⟨_, rfl, rfl⟩
    | 3, 0, _ => exact ⟨_, rfl, rfl⟩
    | 3, 1, _ => exact ⟨_, rfl, rfl⟩
    | 3, 2, _ => exact ⟨_, rfl, rfl⟩
    | 4, 0, _ => exact ⟨_, rfl, rfl⟩
    | 4, 1, _ => exact ⟨_, rfl, rfl⟩
    | 4, 2, _ => exact ⟨_, rfl, rfl⟩
    | 4, 3, _ => exact ⟨_, rfl, rfl⟩
  intro m z hm hz
  obtain ⟨b, hb, e⟩ := h i ⟨m, Nat.lt_trans hm i.isLt⟩ hm
  rw [hz] at hb
  cases hb
  subst e
  rfl
section
variable {K : PySem.W.Frag} {σ : L2.St} {H : Hp} {L : Addr} {i : Fin 5} {to : TE}
theorem ev_cntE (h : Ev to σ H (.ref L)) (hL : H L = some (.lst (flE i))) : Ev (tBM K "list" (rCntV K) to (tCons (tC (.bl true)) tNil)) σ H (.int 1) := fun H1 e Q q =>
  h H1 e _ fun H2 e2 => ⟨.inl ⟨rfl, _, SqL.of ((e.trans e2) _ _ hL)⟩, L, _, .bl true, rfl, rfl, SqL.of ((e.trans e2) _ _ hL), rfl, fl_flat i, by rw [fl_count]; exact q H2 e2⟩
theorem ev_idxE (h : Ev to σ H (.ref L)) (hL : H L = some (.lst (flE i))) : Ev (tBM K "list" (rIndex K) to (tCons (tC (.bl true)) tNil)) σ H (.int (i.val : Int)) := fun H1 e Q q =>
  h H1 e _ fun H2 e2 => ⟨.inl ⟨rfl, _, SqL.of ((e.trans e2) _ _ hL)⟩, L, _, .bl true, i.val, .bl true, rfl, rfl, SqL.of ((e.trans e2) _ _ hL), rfl, fl_flat i, fl_get i, rfl, fl_no i, q H2 e2⟩
theorem ev_wdE (h : Ev to σ H (.int (i.val : Int))) : Ev (tOp (rIxL K) (tLst (tCons (tC (.str "area")) (tCons (tC (.str "text")) (tCons (tC (.str "number")) (tCons (tC (.str "items")) (tCons (tC (.str "stand")) tNil)))))) to) σ H (.str (wdE i)) := fun H1 e Q q =>
  (el_lst (ea_cons ev_c (ea_cons ev_c (ea_cons ev_c (ea_cons ev_c (ea_cons ev_c ea_nil))))) (by show (5 : Nat) ≤ 100000; decide)) H1 e _ fun p H2 hp e2 h2 => h H2 (e.trans e2) _ fun H3 e3 => ⟨p, wsE, (i.val : Int), _, rfl, rfl, SqL.of (e3 _ _ h2), atI_nat (ws_get i), q H3 (e2.trans e3)⟩
end
def sufOf (l : List Stmt) : List Stmt := match l with
  | _ :: .Try _ (.ExceptHandler _ _ s _ :: _) _ _ _ :: _ => s
  | _ => []
abbrev ZR (X : Cx) (g : Addr) (cdg : Value) (s : Shared) (H : Hp) : Cx := (cxOf C8.CX0 X.prog X.w X.K X.mg X.base ["ask", "told", "e", "flags"] "_law_refusal" (defScope lRefusal) g cdg X.A X.stack s H C8.E0).nox
theorem ref_suite {X : Cx} {cs : Fin 5 → Addr} {CH g : Addr} {cdg : Value} {s : Shared} {H0 : Hp} (B : Bt X.mg) (R : Er X.K X.mg cs CH) (a : Addr) (oe : Obj) (cls : Value) (d : Option Addr) (pn : List (Addr × Obj)) (hz : Zc cls d oe) (hf : ∃ vs, oe.data = .fields vs) :
    PSs ((ZR X g cdg s H0).suite a ((a, oe) :: pn)) (sufOf (defBody lRefusal)) (fun D σ H => σ.length = 4 → ∃ i, cls = .ref (cs i) ∧ d = none ∧ σ[2]? = some (some (.ref a)) ∧ ∀ σ' H', σ'.length = 4 → σ'[1]? = some (some (.str (wdE i))) → Ex H H' → D.nx σ' H') := by
  have P : ∃ t, PSs ((ZR X g cdg s H0).suite a ((a, oe) :: pn)) (sufOf (defBody lRefusal)) t ∧ ∀ D σ H, σ.length = 4 → (∃ i, cls = .ref (cs i) ∧ d = none ∧ σ[2]? = some (some (.ref a)) ∧ ∀ σ' H', σ'.length = 4 → σ'[1]? = some (some (.str (wdE i))) → Ex H H' → D.nx σ' H') → t D σ H := by
    refine ⟨_, pss_cons (ps_set (i := 3) scRef.nd rfl (.inl rfl) (pe_lst
          (pa_cons (pe_callB (call_is5 R hz hf) (by rfl) B.isi boot_isi' (pa_cons (pv 2) (pa_cons (pe_glob (v := .ref (cs 0)) (by rfl) (R.g 0) (by rfl)) pa_nil)))
          (pa_cons (pe_callB (call_is5 R hz hf) (by rfl) B.isi boot_isi' (pa_cons (pv 2) (pa_cons (pe_glob (v := .ref (cs 1)) (by rfl) (R.g 1) (by rfl)) pa_nil)))
          (pa_cons (pe_callB (call_is5 R hz hf) (by rfl) B.isi boot_isi' (pa_cons (pv 2) (pa_cons (pe_glob (v := .ref (cs 2)) (by rfl) (R.g 2) (by rfl)) pa_nil)))
          (pa_cons (pe_callB (call_is5 R hz hf) (by rfl) B.isi boot_isi' (pa_cons (pv 2) (pa_cons (pe_glob (v := .ref (cs 3)) (by rfl) (R.g 3) (by rfl)) pa_nil))) pa_nil))))))
        (pss_cons (ps_expr (pe_bm PySem.F.plainAttrs_list PySem.F.slot_list_append PySem.F.type_list_append mt_append (pv 3) (pa_cons (pe_callB (call_is5 R hz hf) (by rfl) B.isi boot_isi' (pa_cons (pv 2) (pa_cons (pe_glob (v := .ref (cs 4)) (by rfl) (R.g 4) (by rfl)) pa_nil))) pa_nil)))
        (pss_one (ps_set (i := 1) scRef.nd rfl (.inl rfl) (pe_ifExp (pt_cmpR op_eq (pe_bm PySem.F.plainAttrs_list PySem.F.slot_list_count PySem.F.type_list_count mt_countV (pv 3) (pa_cons pe_bl pa_nil)) pe_int (nomark _))
          (pe_ix ix_list (pe_lst (pa_cons pe_str (pa_cons pe_str (pa_cons pe_str (pa_cons pe_str (pa_cons pe_str pa_nil)))))) (pe_bm PySem.F.plainAttrs_list PySem.F.slot_list_index PySem.F.type_list_index mt_index (pv 3) (pa_cons pe_bl pa_nil)) (fun _ _ => rfl)) pe_str)))), ?_⟩
    rintro D σ H hl ⟨i, rfl, rfl, h2, k⟩
    obtain ⟨x0, x1, x3, rfl⟩ : ∃ x0 x1 x3, σ = [x0, x1, some (.ref a), x3] := by
      match σ, hl, h2 with
      | [x0, x1, x2, x3], _, h2 => exact ⟨x0, x1, x3, by rw [show x2 = some (V.ref a) from Option.some.inj h2]⟩
    refine q_asgL (el_lst (ea_cons (ev_is5 R (ev_var rfl) 0) (ea_cons (ev_is5 R (ev_var rfl) 1) (ea_cons (ev_is5 R (ev_var rfl) 2) (ea_cons (ev_is5 R (ev_var rfl) 3) ea_nil)))) (by show (4 : Nat) ≤ 100000; decide)) fun L H1 hL e1 h1 => ?_
    refine q_app (K := X.K) h1 (ev_var rfl) (ev_is5 R (ev_var rfl) 4) (by show (4 : Nat) < 100000; decide) fun H2 e2 => ?_
    have hL2 : upd H2 L (.lst ([V.bl (decide (i = 0)), .bl (decide (i = 1)), .bl (decide (i = 2)), .bl (decide (i = 3))] ++ [.bl (decide (i = 4))])) L = some (.lst [V.bl (decide (i = 0)), .bl (decide (i = 1)), .bl (decide (i = 2)), .bl (decide (i = 3)), .bl (decide (i = 4))]) := upd_same
    have E2 : Ex H (upd H2 L (.lst ([V.bl (decide (i = 0)), .bl (decide (i = 1)), .bl (decide (i = 2)), .bl (decide (i = 3))] ++ [.bl (decide (i = 4))]))) := Ex.mut (e1.trans e2) hL
    generalize upd H2 L (.lst ([V.bl (decide (i = 0)), .bl (decide (i = 1)), .bl (decide (i = 2)), .bl (decide (i = 3))] ++ [.bl (decide (i = 4))])) = H3 at hL2 E2
    refine s_asg (v := .str (wdE i)) (ev_if (b := true) (et_is (et_test (ev_op (ev_cntE (i := i) (ev_var rfl) hL2) ev_c (rv_eq rfl))) rfl) (fun _ => ev_wdE (ev_idxE (i := i) (ev_var rfl) hL2)) (fun q => by cases q)) fun H4 e4 => ?_
    exact k _ H4 rfl rfl (E2.trans e4)
  obtain ⟨t, h1, h2⟩ := P
  exact ⟨fun pins s' σ H' D I q => h1.run pins s' σ H' D I (h2 D σ H' I.len (q I.len))⟩
theorem ref_gives {X : Cx} {cs : Fin 5 → Addr} {CH g : Addr} {cdg : Value} {q : Str} (B : Bt X.mg) (R : Er X.K X.mg cs CH) : LamX.GivesTo X ["ask", "told", "e", "flags"] "_law_refusal" (defScope lRefusal) g cdg (defBody lRefusal) "ask" q (TTr cs) := by
  intro f c' s H Q tl act hc h
  have SU := fun a oe cls d pn hz hf => ref_suite (X := X) (g := g) (cdg := cdg) (s := s) (H0 := H) B R a oe cls d pn hz hf
  refine ⟨_, pss_cons (ps_set (i := 1) scRef.nd rfl (.inl rfl) pe_str)
    (pss_cons (ps_try_as (i := 2) (c := .ref CH)
      (tb := fun W D σ H => ∃ Ech : XK, (∀ cls d σ' H', Ech cls d H' → W cls d σ' H') ∧ σ[0]? = some (some (.ref f)) ∧ H c' = some (LamX.CodeO c' q) ∧ tl Ech H (fun _ H' => D.nx σ H')) (Wout := fun _ _ _ _ => False) rfl rfl scRef.nd rfl rfl ⟨rfl, by decide, .inl R.gH⟩ takes0
      (fun W pn xe tk _ => ?_) SU)
    (pss_one (ps_ret (pv 1)))), ?_⟩
  · refine ⟨fun pins s' σ H' D I h' => ?_⟩
    obtain ⟨Ech, hW, h1, h2, h3⟩ := h'
    exact (pss_one (ps_expr (act W pn xe Ech _ _ tk hW))).run pins s' σ H' D I ⟨h1, h2, h3⟩
  · refine ⟨fun cls d H' => ∃ i, cls = .ref (cs i) ∧ d = none ∧ ∀ H'', Ex H' H'' → Q (.str (wdE i)) H'', ?_, rfl, hc, h _ _ (fun v H' hq => ⟨_, rfl, hq⟩) fun i H' hq => ⟨i, rfl, rfl, hq⟩⟩
    rintro cls d σ' H' ⟨i, rfl, rfl, hq⟩
    refine ⟨true, R.h i, fun _ a ha hl => ?_, fun q => Bool.noConfusion q⟩
    rw [List.length_set] at hl
    refine ⟨i, rfl, rfl, ?_, fun σ2 H2 hl2 h1 e2 => ?_⟩
    · rw [List.getElem?_set_self (by omega)]
    · refine ⟨.str (wdE i), ?_, hq H2 e2⟩
      rw [List.getElem?_set_ne (by decide)]
      exact h1
end Ht
/-! k34: _law_of, _law_first -/
namespace Ht
open PySem PySem.Spec PyProof.Rows L2 Hu Evl
abbrev lFirstW : Stmt := topS 62
abbrev lOf : Stmt := topS 63
def ofW (b : Bool) (z : Str) : Str := if b then "let" else z
def noLet (z : Str) : Bool := !decide (V.str z = V.str "let")
def hdW (zs : List Str) : Str := match zs with
  | [] => "let"
  | z :: _ => z
def firstW (zs : List Str) : Str := hdW (zs.filter noLet)
section
variable {K : PySem.W.Frag} {σ : L2.St} {H : Hp} {te tl : TE} {t : TT}
/-- [te for name in a list found at a if t] -/
theorem el_lcNL {ys : List V} {a : Addr} {n : Nat} {ws : List Nat} (c : Nat → Bool) (r : Nat → V) (h : Ev tl σ H (.ref a)) (ha : H a = some (.lst ys)) (few : ys.length ≤ 40000) (own : ∀ y, wipe ((wipe σ ws).set n (some y)) ws = wipe σ ws)
    (test : ∀ (k : Nat) (y : V) G, Ex H G → ys[k]? = some y → EvT t ((wipe σ ws).set n (some y)) G (c k))
    (item : ∀ (k : Nat) (y : V) G, Ex H G → ys[k]? = some y → c k = true → Ev te ((wipe σ ws).set n (some y)) G (r k)) : EvL (tLc (iList K tl) (gName n) t te ws) σ H (given ys.length c r) := by
  intro G0 x0 W fin
  refine h G0 x0 _ fun G1 x1 => ⟨a, rfl, ⟨ys, sq_of ((x0.trans x1) _ _ ha)⟩, fun l hl => ?_⟩
  have x01 := x0.trans x1
  refine lc_list (xs := ys) (Cw G1 c r l) ⟨hl, Ex.new hl, upd_same⟩ (fun _ G _ w => sq_of (w.2.1 a _ (x01 _ _ ha))) (fun k y G hy w => ⟨own y, ?_⟩) fun G w => ?_
  · have lt := (List.getElem?_eq_some_iff.mp hy).1
    exact cw_turn w (by omega) (test k y G1 x01 hy) (item k y G1 x01 hy)
  · exact fin l G (fresh_back x1 w.1) (x1.trans w.2.1) w.2.2
end
section
variable {P : Program} {w : World} {K : PySem.W.Frag} {mg : Str → Option Value} {base : Heap}
def spOf : Sp := fun vs H Q _ => ∃ (p : Addr) (v : V) (b : Bool) (z : Str), vs = [.ref p, .str z] ∧ H p = some (.tup [v, .bl b]) ∧ ∀ H', Same H H' → Q (.str (ofW b z)) H'
theorem scOf : FnScope ["thing", "word"] ["thing", "word"] (defScope lOf) := ⟨rfl, rfl, rfl, by decide +kernel, rfl, by decide +kernel, by decide +kernel⟩
theorem ev_flag {σ : L2.St} {H : Hp} {te : TE} {p : Addr} {v : V} {b : Bool} (h : Ev te σ H (.ref p)) (hp : H p = some (.tup [v, .bl b])) : Ev (tOp (rIxT K) te (tC (.int 1))) σ H (.bl b) := fun H1 e Q q =>
  h H1 e _ fun H2 e2 => ⟨p, _, 1, .bl b, rfl, rfl, st_of ((e.trans e2) _ _ hp), rfl, q H2 e2⟩
theorem ok_of {f : Addr} {fd : FuncData} (F : Fun K "_law_of" "_law_of" lOf f fd) : FnOk P w K mg base CX0 1 f fd ["thing", "word"] spOf := by
  refine F.ok scOf (fun vs H Q E h => ?_) (fun cdv A outer s H vs Q E hr h => ?_)
  · obtain ⟨p, v, b, z, rfl, _⟩ := h
    rfl
  obtain ⟨p, v, b, z, rfl, hp, k⟩ := h
  refine ⟨_, pss_one (ps_ret (pe_ifExp (pt_val (pe_ix ix_tup (pv 0) pe_int (fun _ _ => rfl))) pe_str (pv 1))), ?_⟩
  exact s_ret (v := .str (ofW b z)) (ev_if (b := b) (et_B (ev_flag (ev_var rfl) hp)) (fun q => by subst q; exact ev_c) (fun q => by subst q; exact ev_var rfl)) fun H1 e => k H1 e
def spFirst : Sp := fun vs H Q _ => ∃ (l : Addr) (zs : List Str), vs = [.ref l] ∧ H l = some (.lst (zs.map V.str)) ∧ zs.length ≤ 40000 ∧ (∀ z ∈ zs, PyData.strOk z = true) ∧ ∀ H', Same H H' → Q (.str (firstW zs)) H'
theorem scFirst : FnScope ["dues", "due", "some"] ["dues"] (defScope lFirstW) := ⟨rfl, rfl, rfl, by decide +kernel, rfl, by decide +kernel, by decide +kernel⟩
theorem given_filter (zs : List Str) : ∀ n, n ≤ zs.length → given n (fun k => zs[k]?.any noLet) (fun k => .str (zs[k]?.getD "")) = ((zs.take n).filter noLet).map V.str
  | 0, _ => rfl
  | n + 1, h => by
    have ih := given_filter zs n (by omega)
    have e : zs[n]? = some (zs[n]'(by omega)) := List.getElem?_eq_getElem (by omega)
    generalize zs[n]'(by omega) = z at e
    rw [List.take_add_one, e, List.filter_append, List.map_append, ← ih]
    cases hb : noLet z with
    | true =>
      rw [given_yes (by rw [e]; exact hb), e]
      show _ = _ ++ List.map V.str (List.filter noLet [z])
      rw [List.filter_cons, hb]
      rfl
    | false =>
      rw [given_no (by rw [e]; exact hb)]
      show _ = _ ++ List.map V.str (List.filter noLet [z])
      rw [List.filter_cons, hb]
      simp
theorem dp_strs {K : PySem.W.Frag} {H : Hp} : ∀ zs : List Str, DpAll K H (zs.map V.str) (zs.map PyData.str)
  | [] => .nil
  | z :: zs => .cons (.str z) (dp_strs zs)
theorem shaped_strs (zs : List Str) (hs : ∀ z ∈ zs, PyData.strOk z = true) : SeqAt.shaped (.list (zs.map PyData.str)) = true := by
  have h : ∀ zs : List Str, (∀ z ∈ zs, PyData.strOk z = true) → PyData.canLayAll0 (zs.map PyData.str) = true ∧ PyData.depthAll (zs.map PyData.str) ≤ 1 := fun zs hs => by
    induction zs with
    | nil => exact ⟨rfl, by simp [PyData.depthAll]⟩
    | cons z zs ih => have ih := ih (fun z hz => hs z (List.mem_cons_of_mem _ hz)); have hz := hs z (List.mem_cons_self ..); exact ⟨by simp [PyData.canLayAll0, PyData.canLay0, ih.1, hz], by have := ih.2; simp [PyData.depthAll, PyData.depth]; omega⟩
  obtain ⟨a, b⟩ := h zs hs
  show ((PyData.list (zs.map PyData.str)).canLay0 && decide ((PyData.list (zs.map PyData.str)).depth ≤ 64)) = true
  simp only [PyData.canLay0, PyData.depth, a, Bool.true_and]
  exact decide_eq_true (by omega)
theorem et_neI {K : PySem.W.Frag} {σ : L2.St} {H : Hp} {te : TE} {l : Addr} {xs : List V} {ds : List PyData} (h : Ev te σ H (.ref l)) (hl : H l = some (.lst xs)) (o : ∀ H', DpAll K H' xs ds) (hs : SeqAt.shaped (.list ds) = true) : EvT (tTest (tOp (rNeD K) te (tLst tNil))) σ H (!ds.isEmpty) := et_test fun H1 e Q q =>
  h H1 e _ fun H2 e2 => el_lst ea_nil (by show (0 : Nat) ≤ 100000; decide) H2 (e.trans e2) _ fun p' H3 hp e3 h3 => ⟨.list ds, .list [], .lst (sq_of (((e.trans e2).trans e3) _ _ hl)) (o H3), .lst (sq_of h3) .nil, hs, by decide +kernel, by
    have : PyData.eqv (.list ds) (.list []) = ds.isEmpty := by cases ds <;> rfl
    rw [this]
    exact q H3 (e2.trans e3)⟩
theorem ok_first {f : Addr} {fd : FuncData} (F : Fun K "_law_first" "_law_first" lFirstW f fd) : FnOk P w K mg base CX0 1 f fd ["dues"] spFirst := by
  refine F.ok scFirst (fun vs H Q E h => ?_) (fun cdv A outer s H vs Q E hr h => ?_)
  · obtain ⟨l, zs, rfl, _⟩ := h
    rfl
  obtain ⟨l, zs, rfl, hl, hz, hok, k⟩ := h
  refine ⟨_, pss_cons (ps_setLc (i := 2) (own := [("due", 1)]) (g := gName 1) (tt := tTest (tOp rNe (tVar 1) (tC (.str "let")))) rfl scFirst.nd rfl rfl rfl (pi_list (pv 0)) (blkOk_by (N := ["dues", "due", "some"]) (sc := defScope lFirstW) (by decide +kernel))
        (fun _ _ _ _ _ => pg_name (i := 1) scFirst.nd rfl (Or.inl rfl)) (fun _ _ _ _ _ => pts_one (pt_cmpR op_ne (pv 1) pe_str (nomark _))) (fun _ _ _ _ _ => pv 1))
    (pss_one (ps_ret (pe_ifExp (pt_cmpR (op_neD hr.units) (pv 2) (pe_lst pa_nil) (nomark _)) (pe_ix ix_list (pv 2) pe_int (fun _ _ => rfl)) pe_str))), ?_⟩
  refine q_asgL (el_lcNL (n := 1) (fun k => zs[k]?.any noLet) (fun k => .str (zs[k]?.getD "")) (ev_var rfl) hl (by rw [List.length_map]; exact hz) (fun _ => rfl) (fun j y G e hy => ?_) fun j y G e hy hc => ?_) fun L H1 hL e1 h1 => ?_
  · rw [List.getElem?_map] at hy
    cases hj : zs[j]? with
    | none => rw [hj] at hy; cases hy
    | some z =>
      rw [hj] at hy
      cases hy
      exact et_is (et_test (ev_op (ev_var rfl) ev_c (rv_ne rfl))) (by rfl)
  · rw [List.getElem?_map] at hy
    cases hj : zs[j]? with
    | none => rw [hj] at hy; cases hy
    | some z =>
      rw [hj] at hy
      cases hy
      exact ev_var rfl
  rw [List.length_map, given_filter zs zs.length (Nat.le_refl _), List.take_length] at h1
  have hk : ∀ H2, Ex H H2 → Q (.str (firstW zs)) H2 := k
  unfold firstW at hk
  have hoy : ∀ z ∈ zs.filter noLet, PyData.strOk z = true := fun z hz => hok z (List.mem_filter.mp hz).1
  generalize zs.filter noLet = ys at h1 hk hoy
  refine s_ret (v := .str (hdW ys)) (ev_if (b := !(ys.map PyData.str).isEmpty) (et_neI (ev_var rfl) h1 (fun _ => dp_strs ys) (shaped_strs ys hoy)) (fun q => ?_) (fun q => ?_)) fun H2 e2 => hk H2 (e1.trans e2)
  · cases ys with
    | nil => cases q
    | cons z ys => exact ev_op (ev_var rfl) ev_c (rv_ixL (sq_of h1) (show atI (List.map V.str (z :: ys)) ((0 : Nat) : Int) = some (V.str (hdW (z :: ys))) from atI_nat rfl))
  · cases ys with
    | nil => exact ev_c
    | cons z ys => cases q
end
end Ht
/-! k34: _law_deep -/
namespace Ht
open PySem PySem.Spec PyProof.Rows L2 Hu Evl
abbrev lDeep : Stmt := topS 60
inductive Dq : U → Prop
  | non : Dq .non
  | nil : Dq (.tup [])
  | zero : Dq (.int 0)
  | lst : Dq (.lst [])
  | dct : Dq (.dct [])
  | one {u : U} : Dq u → Dq (.tup [u])
/-- what is wrapped at least once -/
inductive Dw : U → Prop
  | lst : Dw (.lst [])
  | dct : Dw (.dct [])
  | one {u : U} : Dq u → Dw (.tup [u])
theorem Dq.brd {u : U} (h : Dq u) : brd u := by
  induction h with
  | one _ ih => simp only [Ht.brd, Ht.brdL]; exact ⟨by simp, ih, trivial⟩
  | nil => simp only [Ht.brd, Ht.brdL]; exact ⟨by simp, trivial⟩
  | _ => simp only [Ht.brd]
theorem ix_pick {xs : List V} {d : Int} (h0 : 0 ≤ d) (h1 : d < xs.length) : ∃ x, atI xs d = some x ∧ x ∈ xs := by
  have hd : d.toNat < xs.length := by omega
  have e : d = ((d.toNat : Nat) : Int) := by omega
  refine ⟨xs[d.toNat], ?_, List.getElem_mem hd⟩
  have ha : atI xs ((d.toNat : Nat) : Int) = some xs[d.toNat] := atI_nat (List.getElem?_eq_getElem hd)
  rw [← e] at ha
  exact ha
theorem ex_del {w : Addr} {H H' : Hp} (k : Keep w H H') : Ex (del H w) (del H' w) := fun b o h => by
  by_cases e : b = w
  · rw [e, del_same] at h
    cases h
  · rw [del_ne e] at h ⊢
    exact k b o e h
theorem del_ex (H : Hp) (w : Addr) : Ex (del H w) H := fun b o h => by
  by_cases e : b = w
  · rw [e, del_same] at h
    cases h
  · rw [del_ne e] at h
    exact h
section
variable {P : Program} {w : World} {K : PySem.W.Frag} {mg : Str → Option Value} {base : Heap} {fD : Addr} {dD : FuncData}
def spDeep : Sp := fun vs H Q _ => ∃ wl : WA, vs = [.ref wl.w] ∧ Well H wl ∧ ∀ (v : V) (u : U) (H' : Hp), Drawn wl H H' → Od (del H' wl.w) v u → Dw u → brd u → Q v H'
theorem scDeep : FnScope ["hand", "found", "turn"] ["hand"] (defScope lDeep) := ⟨rfl, rfl, rfl, by decide +kernel, rfl, by decide +kernel, by decide +kernel⟩
theorem ok_deep {f : Addr} {fd : FuncData} (F : Fun K "_law_deep" "_law_deep" lDeep f fd) (B : Bt mg) (D : Dd P w K mg base fD dD) : FnOk P w K mg base CX0 2 f fd ["hand"] spDeep := by
  refine F.ok scDeep (fun vs H Q E h => ?_) (fun cdv A outer s H vs Q E hr h => ?_)
  · obtain ⟨wl, rfl, _⟩ := h
    rfl
  obtain ⟨wl, rfl, W, k⟩ := h
  refine ⟨_, Evl.pss_cut (ps_set (i := 1) scDeep.nd rfl (.inl rfl) (pe_ix ix_list (pe_lst (pa_cons pe_non (pa_cons (pe_tup pa_nil) (pa_cons pe_int pa_nil)))) (pe_draw D hr (by decide) (by rfl) (pv 0) pe_int) (fun _ _ => rfl)))
    (pss_cons (ps_for PassesOwn.never rfl (pi_range1 (by rfl) B.range (pa_cons (pe_op op_add pe_int (pe_draw D hr (by decide) (by rfl) (pv 0) pe_int)) pa_nil)) (pg_name (i := 2) scDeep.nd rfl (Or.inl rfl))
      (pss_one (ps_set (i := 1) scDeep.nd rfl (.inl rfl) (pe_ix ix_list (pe_lst (pa_cons (pe_lst (pa_cons (pv 1) pa_nil)) (pa_cons (pe_tup (pa_cons (pv 1) pa_nil)) (pa_cons (pe_disp (pps_cons pe_int (pv 1) pps_nil) rfl rfl (by decide) (by decide)) pa_nil)))) (pe_draw D hr (by decide) (by rfl) (pv 0) pe_int) (fun _ _ => rfl)))))
    (pss_one (ps_ret (pv 1)))), ?_⟩
  refine ⟨fun σ' H' => ∃ (v : V) (u : U), σ' = [some (.ref wl.w), some v, none] ∧ Drawn wl H H' ∧ Od (del H' wl.w) v u ∧ Dq u, ?_, ?_⟩
  · refine ⟨sz_of (show (0 : Nat) ≤ 100000 by decide), fun p hp => ⟨sz_of (show (3 : Nat) ≤ 100000 by decide), fun L hL => ?_⟩⟩
    have np := (W.ne hp).1
    have D1 := (Drawn.refl W).new (o := .tup []) hp
    have nL := (D1.well.ne hL).1
    have D2 := D1.new (o := .lst [V.non, .ref p, .int 0]) hL
    have gp : (upd (upd H p (.tup [])) L (.lst [V.non, .ref p, .int 0])) p = some (.tup []) := (Ex.new hL) _ _ upd_same
    refine ⟨_, rfl, wl, 3, rfl, D2.well, by decide, by decide, fun d H1 d0 d1 D3 => ?_⟩
    obtain ⟨x, hx, hm⟩ := ix_pick (xs := [V.non, .ref p, .int 0]) (d := d) d0 d1
    refine ⟨L, _, d, x, rfl, rfl, SqL.of (D3.keep L _ nL upd_same), hx, ?_⟩
    simp only [List.mem_cons, List.not_mem_nil, or_false] at hm
    rcases hm with rfl | rfl | rfl
    · exact ⟨_, .non, rfl, D2.trans D3, .non, .non⟩
    · refine ⟨_, .tup [], rfl, D2.trans D3, .tup ?_ .nil, .nil⟩
      rw [del_ne np]
      exact D3.keep p _ np gp
    · exact ⟨_, .int 0, rfl, D2.trans D3, .int 0, .zero⟩
  rintro σ' H1 ⟨v, u, rfl, D1, o1, q1⟩
  refine ⟨_, rfl, wl, 8, rfl, D1.well, by decide, by decide, fun m H2 m0 m1 D2 => ⟨14, m, rfl, rfl, 14 + m, rfl, by omega, by omega, ?_⟩⟩
  refine for_range (lo := 0) (n := (14 + m).toNat) (fun i σ' H' => ∃ (v : V) (u : U) (x2 : Option V), σ' = [some (.ref wl.w), some v, x2] ∧ Drawn wl H H' ∧ Od (del H' wl.w) v u ∧ Dq u ∧ (1 ≤ i → Dw u)) ⟨v, u, none, rfl, D1.trans D2, o1.ex (ex_del D2.keep), q1, fun h => absurd h (by decide)⟩ ?_ ?_
  · rintro i σ' H3 hi ⟨v, u, x2, rfl, D3, o3, q3, _⟩
    refine ⟨_, rfl, sz_of (show (1 : Nat) ≤ 100000 by decide), fun a ha => ⟨_, rfl, sz_of (show (1 : Nat) ≤ 100000 by decide), fun b hb => fun c hc => ⟨_, rfl, upd_same, [(.inl 0, v)], rfl, (by show (1 : Nat) ≤ 15; decide), sz_of (show (3 : Nat) ≤ 100000 by decide), fun L hL => ?_⟩⟩⟩
    have W3 := D3.well
    have na := (W3.ne ha).1
    have E1 := (Drawn.refl W3).new (o := .lst [v]) ha
    have nb := (E1.well.ne hb).1
    have E2 := E1.new (o := .tup [v]) hb
    have nc := (E2.well.ne hc).1
    have E3 := (E2.new (o := .dK []) hc).put (p := c) (o := .dK (mergeK [] [(.inl 0, v)])) W3 (E2.free W3 hc)
    have nL := (E3.well.ne hL).1
    have E4 := E3.new (o := .lst [V.ref a, .ref b, .ref c]) hL
    refine ⟨_, rfl, wl, 3, rfl, E4.well, by decide, by decide, fun d H4 d0 d1 E5 => ?_⟩
    obtain ⟨x, hx, hm⟩ := ix_pick (xs := [V.ref a, .ref b, .ref c]) (d := d) d0 d1
    have ab : a ≠ b := ne_of_none upd_same hb
    have ac : a ≠ c := ne_of_none ((Ex.new hb) _ _ upd_same) hc
    have bc : b ≠ c := ne_of_none upd_same hc
    have ga : H4 a = some (.lst [v]) := E5.keep a _ na ((Ex.new hL) _ _ (by rw [upd_ne ac, upd_ne ac, upd_ne ab]; exact upd_same))
    have gb : H4 b = some (.tup [v]) := E5.keep b _ nb ((Ex.new hL) _ _ (by rw [upd_ne bc, upd_ne bc]; exact upd_same))
    have gc : H4 c = some (.dK (mergeK [] [(.inl 0, v)])) := E5.keep c _ nc ((Ex.new hL) _ _ upd_same)
    refine ⟨L, _, d, x, rfl, rfl, SqL.of (E5.keep L _ nL upd_same), hx, ?_⟩
    have DD := D3.trans (E4.trans E5)
    simp only [List.mem_cons, List.not_mem_nil, or_false] at hm
    rcases hm with rfl | rfl | rfl
    · exact ⟨_, .lst [], _, rfl, DD, .lst (by rw [del_ne na]; exact ga), .lst, fun _ => .lst⟩
    · exact ⟨_, .tup [u], _, rfl, DD, .tup (by rw [del_ne nb]; exact gb) (.cons (o3.ex (ex_del (E4.trans E5).keep)) .nil), .one q3, fun _ => .one q3⟩
    · exact ⟨_, .dct [], _, rfl, DD, .dct (by rw [del_ne nc]; exact gc), .dct, fun _ => .dct⟩
  · rintro σ' H3 ⟨v, u, x2, rfl, D3, o3, q3, q4⟩
    exact ⟨_, rfl, k v u H3 D3 o3 (q4 (by omega)) q3.brd⟩
end
theorem Dw.area {u : U} (h : Dw u) : areaU u = false := by cases h <;> rfl
theorem Dw.lin {u : U} (h : Dw u) : linU u = false := by cases h <;> rfl
theorem Dw.most {u : U} (h : Dw u) : mostU u = false := by cases h <;> rfl
theorem Dw.sh {u : U} (h : Dw u) (n : Nat) : shU u n = false := by cases h <;> rfl
end Ht
/-! k34: _law_nested -/
namespace Ht
open PySem PySem.Spec PyProof.Rows L2 Hu Evl
abbrev sNested : Stmt := topS 55
mutual
theorem thB_no : ∀ {u : U} {n : Nat}, n < dpt u → thB n u = false
  | .tup us, 0, _ => rfl
  | .tup us, n + 1, h => by
    simp only [dpt] at h
    show us.all (thB n) = false
    exact thBL_no (by omega)
  | .non, n, h => by simp only [dpt] at h; omega
  | .bl _, n, h => by simp only [dpt] at h; omega
  | .int _, n, h => by simp only [dpt] at h; omega
  | .str _, n, h => by simp only [dpt] at h; omega
  | .lst _, n, h => by simp only [dpt] at h; omega
  | .dct _, n, h => by simp only [dpt] at h; omega
  | .exc, n, h => by simp only [dpt] at h; omega
theorem thBL_no : ∀ {us : List U} {n : Nat}, n < dptL us → us.all (thB n) = false
  | [], n, h => by simp only [dptL] at h; omega
  | u :: us, n, h => by
    simp only [dptL] at h
    rw [List.all_cons]
    by_cases q : n < dpt u
    · rw [thB_no q, Bool.false_and]
    · rw [thBL_no (us := us) (n := n) (by omega), Bool.and_false]
end
section
variable {P : Program} {w : World} {K : PySem.W.Frag} {mg : Str → Option Value} {base : Heap} {fD : Addr} {dD : FuncData} {C : Addr}
def spNested (C : Addr) : Sp := fun vs H Q _ => ∃ (wl : WA) (m : Nat), vs = [.ref wl.w, .int (m : Int)] ∧ Well H wl ∧ 1 ≤ m ∧ m ≤ 30 ∧ ∀ (v : V) (u : U) (H' : Hp), Drawn wl H H' → At wl.w C H' v u → pl u → ln u ≤ 40 + 5 * m → dpt u = m → Q v H'
theorem scNested : FnScope ["hand", "many", "found", "k"] ["hand", "many"] (defScope sNested) := ⟨rfl, rfl, rfl, by decide +kernel, rfl, by decide +kernel, by decide +kernel⟩
theorem ok_nested {f fA : Addr} {fd dA : FuncData} (F : Fun K "_law_nested" "_law_nested" sNested f fd) (B : Bt mg) (D : Dd P w K mg base fD dD) (DA : Df K mg "_law_any" sAny ["hand", "things"] fA dA) : FnOk P w K mg base CX0 3 f fd ["hand", "many"] (spNested C) := by
  have GA : FnOk P w K mg base CX0 2 fA dA ["hand", "things"] spAnyL := ok_anyL DA.F B D
  refine F.ok scNested (fun vs H Q E h => ?_) (fun cdv A outer s H vs Q E hr h => ?_)
  · obtain ⟨wl, m, rfl, _⟩ := h
    rfl
  obtain ⟨wl, m, rfl, W, m1, m30, k⟩ := h
  refine ⟨_, Evl.pss_cut (ps_set (i := 2) scNested.nd rfl (.inl rfl) (pe_call GA hr (by rfl) DA.g DA.F.kp DA.b .nil pass0 (pa_cons (pv 0) (pa_cons (pe_lst (pa_cons (pe_tup pa_nil) (pa_cons (pe_tup (pa_cons pe_int pa_nil)) (pa_cons (pe_tup (pa_cons pe_str pa_nil)) pa_nil)))) pa_nil))))
    (pss_cons (ps_for PassesOwn.never rfl (pi_range1 (by rfl) B.range (pa_cons (pe_op op_sub (pv 1) pe_int) pa_nil)) (pg_name (i := 3) scNested.nd rfl (Or.inl rfl))
      (pss_one (ps_set (i := 2) scNested.nd rfl (.inl rfl) (pe_ifExp (pt_cmpR op_gt (pe_draw D hr (by decide) (by rfl) (pv 0) pe_int) pe_int (nomark _)) (pe_tup (pa_cons (pv 2) pa_nil)) (pe_tup (pa_cons pe_non (pa_cons (pv 2) pa_nil)))))))
    (pss_one (ps_ret (pv 2)))), ?_⟩
  refine ⟨fun σ' H' => ∃ (v : V) (u : U) (x3 : Option V), σ' = [some (.ref wl.w), some (.int (m : Int)), some v, x3] ∧ At wl.w C H' v u ∧ pl u ∧ ln u ≤ 40 + 5 ∧ dpt u = 1 ∧ Drawn wl H H', ?_, ?_⟩
  · refine ⟨_, rfl, sz_of (show (0 : Nat) ≤ 100000 by decide), fun p1 hp1 => ⟨sz_of (show (1 : Nat) ≤ 100000 by decide), fun p2 hp2 => ⟨sz_of (show (1 : Nat) ≤ 100000 by decide), fun p3 hp3 => ⟨sz_of (show (3 : Nat) ≤ 100000 by decide), fun L hL => ?_⟩⟩⟩⟩
    have D1 := (((Drawn.refl W).new (o := .tup []) hp1).new (o := .tup [V.int 3]) hp2).new (o := .tup [V.str "a"]) hp3
    have D2 := D1.new (o := .lst [V.ref p1, .ref p2, .ref p3]) hL
    refine ⟨wl, L, _, rfl, D2.well, upd_same, (D1.well.ne hL).1, (show 1 ≤ 3 by decide), (show 3 ≤ 1000 by decide), fun x H' hx D3 => ?_⟩
    have n1 := (W.ne hp1).1
    have n2 := (((Drawn.refl W).new (o := .tup []) hp1).well.ne hp2).1
    have n3 := ((((Drawn.refl W).new (o := .tup []) hp1).new (o := .tup [V.int 3]) hp2).well.ne hp3).1
    have g1 : H' p1 = some (.tup []) := D3.keep p1 _ n1 ((Ex.new hL) _ _ ((Ex.new hp3) _ _ ((Ex.new hp2) _ _ upd_same)))
    have g2 : H' p2 = some (.tup [.int 3]) := D3.keep p2 _ n2 ((Ex.new hL) _ _ ((Ex.new hp3) _ _ upd_same))
    have g3 : H' p3 = some (.tup [.str "a"]) := D3.keep p3 _ n3 ((Ex.new hL) _ _ upd_same)
    simp only [List.mem_cons, List.not_mem_nil, or_false] at hx
    rcases hx with rfl | rfl | rfl
    · exact ⟨_, .tup [], _, rfl, .tup g1 n1 .nil, by simp [pl, plL], by simp [ln, lnL], by simp [dpt, dptL], D2.trans D3⟩
    · exact ⟨_, .tup [.int 3], _, rfl, .tup g2 n2 (.cons (.int 3) .nil), by simp [pl, plL], by simp [ln, lnL], by simp [dpt, dptL], D2.trans D3⟩
    · exact ⟨_, .tup [.str "a"], _, rfl, .tup g3 n3 (.cons (.str "a") .nil), (by simp only [pl, plL]; exact ⟨by decide +kernel, trivial⟩), (by simp only [ln, lnL]; decide +kernel), by simp [dpt, dptL], D2.trans D3⟩
  rintro σ' H1 ⟨v, u, x3, rfl, hv, pu, lu, du, D1⟩
  refine ⟨_, rfl, _, _, rfl, rfl, (m : Int) - 1, rfl, by omega, by omega, ?_⟩
  refine for_range (lo := 0) (n := ((m : Int) - 1).toNat) (fun i σ H' => ∃ (v : V) (u : U) (x3 : Option V), σ = [some (.ref wl.w), some (.int (m : Int)), some v, x3] ∧ At wl.w C H' v u ∧ pl u ∧ ln u ≤ 45 + 5 * i ∧ dpt u = 1 + i ∧ Drawn wl H H') ⟨v, u, x3, rfl, hv, pu, lu, du, D1⟩ ?_ ?_
  · rintro i σ H2 hi ⟨v, u, x3, rfl, hv, pu, lu, du, D2⟩
    refine ⟨_, rfl, wl, 3, rfl, D2.well, by decide, by decide, fun d H3 d0 d1 D3 => ⟨_, _, rfl, rfl, _, rfl, ite2 (fun q => ?_) (fun q => ?_)⟩⟩
    · have hv3 : At wl.w C H3 v u := hv.keep fun b o nb q => D3.keep b o nb q
      refine ⟨_, rfl, sz_of (show (1 : Nat) ≤ 100000 by decide), fun p hp => ⟨.ref p, .tup [u], _, rfl, .tup upd_same (D3.well.ne hp).1 (.cons (ex_at (Ex.new hp) hv3) .nil), by simp only [pl, plL]; exact ⟨pu, trivial⟩, by simp only [ln, lnL]; omega, by simp only [dpt, dptL]; omega, (D2.trans D3).new hp⟩⟩
    · have hv3 : At wl.w C H3 v u := hv.keep fun b o nb q => D3.keep b o nb q
      refine ⟨_, rfl, sz_of (show (2 : Nat) ≤ 100000 by decide), fun p hp => ⟨.ref p, .tup [.non, u], _, rfl, .tup upd_same (D3.well.ne hp).1 (.cons .non (.cons (ex_at (Ex.new hp) hv3) .nil)), by simp only [pl, plL]; exact ⟨trivial, pu, trivial⟩, by simp only [ln, lnL]; omega, by simp only [dpt, dptL]; omega, (D2.trans D3).new hp⟩⟩
  · rintro σ H2 ⟨v, u, x3, rfl, hv, pu, lu, du, D2⟩
    exact ⟨_, rfl, k v u H2 D2 hv pu (by omega) (by omega)⟩
end
end Ht
/-! k34: what stands still in a turn (Zo), a moment of it (Sg), the lambdas' readings -/
namespace Ht
open PySem PySem.Spec PyProof.Rows L2 Hu Evl
open LamX (ExtN Tabs TabS CodeO tLam)
/-- what stands still: it tells neither the hand's list nor tables -/
structure Zo (Z : Hp) (wl : WA) : Prop where
  w : Z wl.w = none
  t : ∀ b ps, Z b ≠ some (.tbl ps)
/-- a heap at some moment of a turn -/
structure Sg (Z : Hp) (wl : WA) (T : List (Addr × Str)) (H : Hp) : Prop where
  ex : Ex Z H
  well : Well H wl
  tabs : Tabs T H
/-- a copy's places, apart from all that stands still -/
structure Cp (Z : Hp) (wl : WA) (d : DA) : Prop where
  p : Z d.p = none
  a : Z d.al = none
  c : Z d.cl = none
  g : Z d.gl = none
  aw : d.al ≠ wl.w ∧ d.al ≠ wl.c
  cw : d.cl ≠ wl.w ∧ d.cl ≠ wl.c
  gw : d.gl ≠ wl.w ∧ d.gl ≠ wl.c
variable {Z H H' H1 : Hp} {wl : WA} {T : List (Addr × Str)} {d : DA} {C : Addr} {ar : List Str}
theorem Cp.of (s : Sg Z wl T H) (f : Fr H d) : Cp Z wl d := by
  obtain ⟨f1, _, f3, f4, f5⟩ := f
  exact ⟨fresh_back s.ex f1, fresh_back s.ex f3, fresh_back s.ex f4, fresh_back s.ex f5, s.well.ne f3, s.well.ne f4, s.well.ne f5⟩
/-- tables stay where but lists change -/
theorem tabs_but {S : Addr → Prop} (t : Tabs T H) (n : ∀ b o, S b → H b = some o → ∃ xs, o = .lst xs) (e : ∀ b o, ¬ S b → H b = some o → H' b = some o) : Tabs T H' := by
  intro p hp
  obtain ⟨ps, h1, h2, h3⟩ := t p hp
  refine ⟨ps, e _ _ (fun s => ?_) h1, h2, fun pos cv hc => ?_⟩
  · obtain ⟨xs, q⟩ := n _ _ s h1
    cases q
  · obtain ⟨c, e1, e2⟩ := h3 pos cv hc
    refine ⟨c, e1, e _ _ (fun s => ?_) e2⟩
    obtain ⟨xs, q⟩ := n _ _ s e2
    unfold CodeO at q
    cases q
theorem Sg.same (s : Sg Z wl T H) (e : Ex H H') : Sg Z wl T H' := ⟨s.ex.trans e, s.well.same e, s.tabs.ext e⟩
theorem Sg.drawn (s : Sg Z wl T H) (z : Zo Z wl) (D : Drawn wl H H') : Sg Z wl T H' := by
  refine ⟨fun b o h => D.keep b o (fun q => by rw [q, z.w] at h; cases h) (s.ex b o h), D.well, tabs_but (S := fun b => b = wl.w) s.tabs (fun b o q h => ?_) fun b o q h => D.keep b o q h⟩
  obtain ⟨_, _, _, _, _, h1, _⟩ := s.well.ex
  rw [q, h1] at h
  exact ⟨_, (Option.some.inj h).symm⟩
theorem Sg.kpd (s : Sg Z wl T H) (c : Cp Z wl d) (D : DAt C H d ar) (x : KpD d H H') : Sg Z wl T H' := by
  refine ⟨fun b o h => x b o (fun q => by rw [q, c.a] at h; cases h) (fun q => by rw [q, c.c] at h; cases h) (fun q => by rw [q, c.g] at h; cases h) (s.ex b o h), ?_, tabs_but (S := fun b => b = d.al ∨ b = d.cl ∨ b = d.gl) s.tabs (fun b o q h => ?_) fun b o q h => x b o (fun q2 => q (.inl q2)) (fun q2 => q (.inr (.inl q2))) (fun q2 => q (.inr (.inr q2))) h⟩
  · obtain ⟨cells, pos, rest, mix, cnt, h1, h2, n, l⟩ := s.well.ex
    exact ⟨cells, pos, rest, mix, cnt, x _ _ c.aw.1.symm c.cw.1.symm c.gw.1.symm h1, x _ _ c.aw.2.symm c.cw.2.symm c.gw.2.symm h2, n, l⟩
  · obtain ⟨gs, hg, _⟩ := D.g
    rcases q with q | q | q
    · rw [q, D.a] at h
      exact ⟨_, (Option.some.inj h).symm⟩
    · rw [q, D.c] at h
      exact ⟨_, (Option.some.inj h).symm⟩
    · rw [q, hg] at h
      exact ⟨_, (Option.some.inj h).symm⟩
theorem Sg.extN (s : Sg Z wl T H) (z : Zo Z wl) (e : ExtN H H1) (t : Tabs T H1) : Sg Z wl T H1 := by
  obtain ⟨cells, pos, rest, mix, cnt, h1, h2, n, l⟩ := s.well.ex
  exact ⟨fun b o h => e b o (s.ex b o h) fun ps q => z.t b ps (by rw [h, q]), ⟨cells, pos, rest, mix, cnt, e _ _ h1 (fun _ q => by cases q), e _ _ h2 (fun _ q => by cases q), n, l⟩, t⟩
theorem DAt.extN (D : DAt C H d ar) (e : ExtN H H1) : DAt C H1 d ar := by
  obtain ⟨gs, hg, qg⟩ := D.g
  exact ⟨e _ _ D.o (fun _ q => by cases q), e _ _ D.a (fun _ q => by cases q), e _ _ D.c (fun _ q => by cases q), ⟨gs, e _ _ hg (fun _ q => by cases q), qg⟩, D.n, D.r⟩
/-- a drawn pair: a value and whether it is right -/
def PairZ (g : U → Bool) (Z : Hp) (x v : V) (u : U) : Prop := ∃ p, x = .ref p ∧ Z p = some (.tup [v, .bl (g u)]) ∧ Od Z v u ∧ brd u
theorem ev_thing {g : U → Bool} {x v : V} {u : U} {σ : L2.St} {te : TE} {K : PySem.W.Frag} (q : PairZ g Z x v u) (e : Ex Z H) (h : Ev te σ H x) : Ev (tOp (rIxT K) te (tC (.int 0))) σ H v := by
  obtain ⟨p, rfl, hp, _⟩ := q
  exact fun H1 e1 Q q => h H1 e1 _ fun H2 e2 => ⟨p, _, 0, v, rfl, rfl, st_of ((e.trans (e1.trans e2)) _ _ hp), rfl, q H2 e2⟩
/-- the outcome that is due of a call with right or wrong arguments -/
def mst_of {v : V} {u : U} (o : Od H v u) (h : mostU u = true) : ∃ o, mst v o := by
  cases o with
  | non => exact ⟨none, rfl⟩
  | int i =>
    have h : decide (0 ≤ i) = true := h
    have h := of_decide_eq_true h
    exact ⟨some i.toNat, by show V.int i = V.int (i.toNat : Int); rw [show ((i.toNat : Nat) : Int) = i by omega]⟩
  | _ => cases h
theorem area_of {v : V} {u : U} (o : Od H v u) (h : areaU u = true) (D : Ars ar) : ∃ (k : Nat) (a : Str), v = .int (k : Int) ∧ ar[k]? = some a := by
  cases o with
  | int i =>
    have h : (decide (0 ≤ i) && decide (i ≤ 1)) = true := h
    obtain ⟨x, y⟩ := Bool.and_eq_true_iff.mp h
    have x := of_decide_eq_true x
    have y := of_decide_eq_true y
    have l := D.l
    exact ⟨i.toNat, ar[i.toNat]'(by omega), by rw [show ((i.toNat : Nat) : Int) = i by omega], List.getElem?_eq_getElem (by omega)⟩
  | _ => cases h
theorem lin_of {v : V} {u : U} (o : Od H v u) (h : linU u = true) : ∃ z : Str, v = .str z ∧ u = .str z ∧ ln' (TL.tl z) = true := by
  cases o with
  | str z => exact ⟨z, rfl, rfl, h⟩
  | _ => cases h
def csE (CA CT CN CI CS : Addr) (i : Fin 5) : Addr := match i with | 0 => CA | 1 => CT | 2 => CN | 3 => CI | 4 => CS
section
variable {K : PySem.W.Frag} {σ : L2.St} {CA CT CN CI CS : Addr} {Q : VK} {tc tk tt tm : TE}
/-- lambda: copy.append(k[0], text[0], most[0]) -/
theorem rd_app (s : Sg Z wl T H) (z : Zo Z wl) (c : Cp Z wl d) (D : DAt C H d ar) (hz : ∀ a ∈ ar, a.length ≤ 80000) {x1 x2 x3 v1 v2 v3 : V} {u1 u2 u3 : U} (p1 : PairZ areaU Z x1 v1 u1) (p2 : PairZ linU Z x2 v2 u2) (p3 : PairZ mostU Z x3 v3 u3) (ht : ∀ z, u2 = .str z → z.length ≤ 100)
    (hc : ∀ H, Ev tc σ H (.ref d.p)) (hk : ∀ H, Ev tk σ H x1) (h2 : ∀ H, Ev tt σ H x2) (h3 : ∀ H, Ev tm σ H x3)
    (fin : ∀ H', Sg Z wl T H' → Q (.str (firstW [ofW (areaU u1) "area", ofW (linU u2) "text", ofW (mostU u3) "number"])) H') :
    tLam T (TTr (csE CA CT CN CI CS)) (fun E => tMeth C "append" (orS (spApp C) (spAppX CA CT CN)) [] E tc (tCons (tOp (rIxT K) tk (tC (.int 0))) (tCons (tOp (rIxT K) tt (tC (.int 0))) (tCons (tOp (rIxT K) tm (tC (.int 0))) tNil)))) σ H Q := by
  refine ⟨s.tabs, fun H1 e1 t1 E R hR hE => ?_⟩
  have s1 := s.extN z e1 t1
  have D1 := D.extN e1
  refine hc H1 H1 (Ex.refl H1) _ fun H2 e2 => ⟨d.p, d.dx, _, rfl, e2 _ _ D1.o, no_app _ _ _, ?_⟩
  have s2 := s1.same e2
  refine (ea_cons (ev_thing p1 s2.ex (hk H2)) (ea_cons (ev_thing p2 s2.ex (h2 H2)) (ea_cons (ev_thing p3 s2.ex (h3 H2)) ea_nil))) H2 (Ex.refl H2) _ fun H3 e3 => ?_
  have s3 := s2.same e3
  have D3 := D1.ex (e2.trans e3)
  have o1 := (let ⟨_, _, _, o, b⟩ := p1; (⟨o, b⟩ : Od Z v1 u1 ∧ brd u1))
  have o2 := (let ⟨_, _, _, o, b⟩ := p2; (⟨o, b⟩ : Od Z v2 u2 ∧ brd u2))
  have o3 := (let ⟨_, _, _, o, b⟩ := p3; (⟨o, b⟩ : Od Z v3 u3 ∧ brd u3))
  cases ha : (areaU u1 && linU u2 && mostU u3) with
  | true =>
    obtain ⟨ha, hb3⟩ := Bool.and_eq_true_iff.mp ha
    obtain ⟨hb1, hb2⟩ := Bool.and_eq_true_iff.mp ha
    obtain ⟨k, a, rfl, hk⟩ := area_of o1.1 hb1 D.r
    obtain ⟨zt, rfl, rfl, hl⟩ := lin_of o2.1 hb2
    obtain ⟨o, hm⟩ := mst_of o3.1 hb3
    have l1 := hz a (List.mem_of_getElem? hk)
    have l2 := ht zt rfl
    refine .inl ⟨d, ar, k, a, zt, v3, o, rfl, hm, D3, hk, hl, by omega, fun H4 x4 D4 => hR _ _ ?_⟩
    have := fin H4 (s3.kpd c D3 x4)
    rw [hb1, hb2, hb3] at this
    exact this
  | false =>
    refine .inr ⟨_, v1, v2, v3, u1, u2, u3, rfl, o1.1.ex s3.ex, o2.1.ex s3.ex, o3.1.ex s3.ex, o1.2, o2.2, o3.2, ha, fun H4 e4 => ?_⟩
    have fin2 : ∀ H5, Ex H4 H5 → _ := fun H5 e5 => fin H5 (s3.same (e4.trans e5))
    cases h1 : areaU u1 with
    | false =>
      rw [h1] at fin2
      exact hE 0 H4 fin2
    | true =>
      cases h2 : linU u2 with
      | false =>
        rw [h1, h2] at fin2
        exact hE 1 H4 fin2
      | true =>
        have h3 : mostU u3 = false := by rw [h1, h2] at ha; exact ha
        rw [h1, h2, h3] at fin2
        exact hE 2 H4 fin2
end
end Ht
/-! k34: the other lambdas' readings -/
namespace Ht
open PySem PySem.Spec PyProof.Rows L2 Hu Evl
open LamX (ExtN Tabs TabS CodeO tLam)
variable {Z H H' H1 : Hp} {wl : WA} {T : List (Addr × Str)} {d : DA} {C : Addr} {ar : List Str}
section
variable {K : PySem.W.Frag} {σ : L2.St} {CA CT CN CI CS : Addr} {Q : VK} {tc tk tt tm ti : TE}
theorem PairZ.od {g : U → Bool} {x v : V} {u : U} (p : PairZ g Z x v u) : Od Z v u := let ⟨_, _, _, o, _⟩ := p; o
theorem PairZ.b {g : U → Bool} {x v : V} {u : U} (p : PairZ g Z x v u) : brd u := let ⟨_, _, _, _, b⟩ := p; b
/-- lambda: copy.area(k[0]) -/
theorem rd_area (s : Sg Z wl T H) (z : Zo Z wl) (D : DAt C H d ar) {x1 v1 : V} {u1 : U} (p1 : PairZ areaU Z x1 v1 u1) (hc : ∀ H, Ev tc σ H (.ref d.p)) (hk : ∀ H, Ev tk σ H x1)
    (fin : ∀ H', Sg Z wl T H' → DAt C H' d ar → Q (.str (ofW (areaU u1) "area")) H') :
    tLam T (TTr (csE CA CT CN CI CS)) (fun E => tMeth C "area" (orS (spArea C) (spAreaX CA)) [] E tc (tCons (tOp (rIxT K) tk (tC (.int 0))) tNil)) σ H Q := by
  refine ⟨s.tabs, fun H1 e1 t1 E R hR hE => ?_⟩
  have s1 := s.extN z e1 t1
  have D1 := D.extN e1
  refine hc H1 H1 (Ex.refl H1) _ fun H2 e2 => ⟨d.p, d.dx, _, rfl, e2 _ _ D1.o, no_area _ _ _, ?_⟩
  have s2 := s1.same e2
  refine (ea_cons (ev_thing p1 s2.ex (hk H2)) ea_nil) H2 (Ex.refl H2) _ fun H3 e3 => ?_
  have s3 := s2.same e3
  have D3 := D1.ex (e2.trans e3)
  cases ha : areaU u1 with
  | true =>
    obtain ⟨k, a, rfl, hk⟩ := area_of p1.od ha D.r
    refine .inl ⟨d, ar, k, a, rfl, D3, hk, fun H4 e4 => hR _ _ ?_⟩
    have := fin H4 (s3.same e4) (D3.ex e4)
    rw [ha] at this
    exact this
  | false =>
    refine .inr ⟨_, v1, u1, rfl, p1.od.ex s3.ex, p1.b, ha, fun H4 e4 => hE 0 H4 fun H5 e5 => ?_⟩
    have := fin H5 (s3.same (e4.trans e5)) (D3.ex (e4.trans e5))
    rw [ha] at this
    exact this
/-- lambda: copy.clear(k[0]) -/
theorem rd_clear (s : Sg Z wl T H) (z : Zo Z wl) (c : Cp Z wl d) (D : DAt C H d ar) {x1 v1 : V} {u1 : U} (p1 : PairZ areaU Z x1 v1 u1) (hc : ∀ H, Ev tc σ H (.ref d.p)) (hk : ∀ H, Ev tk σ H x1)
    (fin : ∀ H', Sg Z wl T H' → Q (.str (ofW (areaU u1) "area")) H') :
    tLam T (TTr (csE CA CT CN CI CS)) (fun E => tMeth C "clear" (orS (spClear C) (spAreaX CA)) [] E tc (tCons (tOp (rIxT K) tk (tC (.int 0))) tNil)) σ H Q := by
  refine ⟨s.tabs, fun H1 e1 t1 E R hR hE => ?_⟩
  have s1 := s.extN z e1 t1
  have D1 := D.extN e1
  refine hc H1 H1 (Ex.refl H1) _ fun H2 e2 => ⟨d.p, d.dx, _, rfl, e2 _ _ D1.o, no_clr _ _ _, ?_⟩
  have s2 := s1.same e2
  refine (ea_cons (ev_thing p1 s2.ex (hk H2)) ea_nil) H2 (Ex.refl H2) _ fun H3 e3 => ?_
  have s3 := s2.same e3
  have D3 := D1.ex (e2.trans e3)
  cases ha : areaU u1 with
  | true =>
    obtain ⟨k, a, rfl, hk⟩ := area_of p1.od ha D.r
    refine .inl ⟨d, ar, k, rfl, D3, lt2 D.r hk, fun H4 x4 D4 => hR _ _ ?_⟩
    have := fin H4 (s3.kpd c D3 x4)
    rw [ha] at this
    exact this
  | false =>
    refine .inr ⟨_, v1, u1, rfl, p1.od.ex s3.ex, p1.b, ha, fun H4 e4 => hE 0 H4 fun H5 e5 => ?_⟩
    have := fin H5 (s3.same (e4.trans e5))
    rw [ha] at this
    exact this
/-- lambda: copy.shorten(k[0], many) -/
theorem rd_short (s : Sg Z wl T H) (z : Zo Z wl) (D : DAt C H d ar) {x1 v1 v2 : V} {u1 u2 : U} (p1 : PairZ areaU Z x1 v1 u1) (o2 : Od Z v2 u2) (b2 : brd u2) (hn : ∀ a ∈ ar, shU u2 a.length = false) (hc : ∀ H, Ev tc σ H (.ref d.p)) (hk : ∀ H, Ev tk σ H x1) (h2 : ∀ H, Ev tm σ H v2)
    (fin : ∀ H', Sg Z wl T H' → Q (.str (if areaU u1 then "number" else "area")) H') :
    tLam T (TTr (csE CA CT CN CI CS)) (fun E => tMeth C "shorten" (spShX C CA CN) [] E tc (tCons (tOp (rIxT K) tk (tC (.int 0))) (tCons tm tNil))) σ H Q := by
  refine ⟨s.tabs, fun H1 e1 t1 E R hR hE => ?_⟩
  have s1 := s.extN z e1 t1
  have D1 := D.extN e1
  refine hc H1 H1 (Ex.refl H1) _ fun H2 e2 => ⟨d.p, d.dx, _, rfl, e2 _ _ D1.o, no_sho _ _ _, ?_⟩
  have s2 := s1.same e2
  refine (ea_cons (ev_thing p1 s2.ex (hk H2)) (ea_cons (h2 H2) ea_nil)) H2 (Ex.refl H2) _ fun H3 e3 => ?_
  have s3 := s2.same e3
  have D3 := D1.ex (e2.trans e3)
  refine ⟨d, ar, v1, v2, u1, u2, rfl, D3, p1.od.ex s3.ex, o2.ex s3.ex, p1.b, b2, fun a ha => by rw [hn a ha, Bool.and_false], fun H4 e4 => ?_⟩
  have fin2 : ∀ H5, Ex H4 H5 → _ := fun H5 e5 => fin H5 (s3.same (e4.trans e5))
  cases h1 : areaU u1 with
  | false =>
    rw [h1] at fin2
    exact hE 0 H4 fin2
  | true =>
    rw [h1] at fin2
    exact hE 2 H4 fin2
/-- lambda: lines(text[0]) -/
theorem rd_lines (s : Sg Z wl T H) (z : Zo Z wl) {x2 v2 : V} {u2 : U} (p2 : PairZ linU Z x2 v2 u2) (ht : ∀ z, u2 = .str z → z.length ≤ 100) (h2 : ∀ H, Ev tt σ H x2) (fin : ∀ H', Sg Z wl T H' → Q (.str (ofW (linU u2) "text")) H') :
    tLam T (TTr (csE CA CT CN CI CS)) (fun E => tCall (orS spLn (spTextX CT)) [] E (tCons (tOp (rIxT K) tt (tC (.int 0))) tNil)) σ H Q := by
  refine ⟨s.tabs, fun H1 e1 t1 E R hR hE => ?_⟩
  have s1 := s.extN z e1 t1
  refine (ea_cons (ev_thing p2 s1.ex (h2 H1)) ea_nil) H1 (Ex.refl H1) _ fun H3 e3 => ?_
  have s3 := s1.same e3
  cases ha : linU u2 with
  | true =>
    obtain ⟨zt, rfl, rfl, hl⟩ := lin_of p2.od ha
    refine .inl ⟨zt, rfl, Nat.le_trans (ht zt rfl) (by decide), hl, fun l xs H4 e4 _ _ _ => hR _ _ ?_⟩
    have := fin H4 (s3.same e4)
    rw [ha] at this
    exact this
  | false =>
    refine .inr ⟨v2, u2, rfl, p2.od.ex s3.ex, p2.b, ha, fun H4 e4 => hE 1 H4 fun H5 e5 => ?_⟩
    have := fin H5 (s3.same (e4.trans e5))
    rw [ha] at this
    exact this
/-- lambda: rest(text[0]) -/
theorem rd_rest (s : Sg Z wl T H) (z : Zo Z wl) {x2 v2 : V} {u2 : U} (p2 : PairZ linU Z x2 v2 u2) (ht : ∀ z, u2 = .str z → z.length ≤ 100) (h2 : ∀ H, Ev tt σ H x2) (fin : ∀ H', Sg Z wl T H' → Q (.str (ofW (linU u2) "text")) H') :
    tLam T (TTr (csE CA CT CN CI CS)) (fun E => tCall (orS spRs (spTextX CT)) [] E (tCons (tOp (rIxT K) tt (tC (.int 0))) tNil)) σ H Q := by
  refine ⟨s.tabs, fun H1 e1 t1 E R hR hE => ?_⟩
  have s1 := s.extN z e1 t1
  refine (ea_cons (ev_thing p2 s1.ex (h2 H1)) ea_nil) H1 (Ex.refl H1) _ fun H3 e3 => ?_
  have s3 := s1.same e3
  cases ha : linU u2 with
  | true =>
    obtain ⟨zt, rfl, rfl, hl⟩ := lin_of p2.od ha
    refine .inl ⟨zt, rfl, Nat.le_trans (ht zt rfl) (by decide), hl, fun H4 e4 => hR _ _ ?_⟩
    have := fin H4 (s3.same e4)
    rw [ha] at this
    exact this
  | false =>
    refine .inr ⟨v2, u2, rfl, p2.od.ex s3.ex, p2.b, ha, fun H4 e4 => hE 1 H4 fun H5 e5 => ?_⟩
    have := fin H5 (s3.same (e4.trans e5))
    rw [ha] at this
    exact this
/-- what is due of noted and kept -/
def dueN (a b c : Bool) : Str := firstW [ofW a "items", ofW b "number", ofW c "stand"]
theorem due_no {a b c : Bool} (h : (a && b && c) = false) : dueN a b c = wdE (if a then if b then 4 else 2 else 3) := by
  cases a with
  | false => rfl
  | true => cases b with
    | false => rfl
    | true => cases c with
      | false => rfl
      | true => cases h
theorem cs_no {a b : Bool} : csE CA CT CN CI CS (if a then if b then 4 else 2 else 3) = if a then if b then CS else CN else CI := by
  cases a <;> cases b <;> rfl
/-- lambda: noted(copy, item[0], most[0]) -/
theorem rd_noted (s : Sg Z wl T H) (z : Zo Z wl) (c : Cp Z wl d) (D : DAt C H d ar) (hz : ∀ a ∈ ar, a.length ≤ 80000) {x1 x3 v1 v3 : V} {u1 u3 : U} (p1 : PairZ (thB 28) Z x1 v1 u1) (p3 : PairZ mostU Z x3 v3 u3) (hi : thB 28 u1 = true → ikok u1)
    (hc : ∀ H, Ev tc σ H (.ref d.p)) (h1 : ∀ H, Ev ti σ H x1) (h3 : ∀ H, Ev tm σ H x3) (fin : ∀ H', Sg Z wl T H' → Q (.str (dueN (thB 28 u1) (mostU u3) (stA ar).isSome)) H') :
    tLam T (TTr (csE CA CT CN CI CS)) (fun E => tCall (orS (spNo C) (spNoX C CN CI CS)) [] E (tCons tc (tCons (tOp (rIxT K) ti (tC (.int 0))) (tCons (tOp (rIxT K) tm (tC (.int 0))) tNil)))) σ H Q := by
  refine ⟨s.tabs, fun H1 e1 t1 E R hR hE => ?_⟩
  have s1 := s.extN z e1 t1
  have D1 := D.extN e1
  refine (ea_cons (hc H1) (ea_cons (ev_thing p1 s1.ex (h1 H1)) (ea_cons (ev_thing p3 s1.ex (h3 H1)) ea_nil))) H1 (Ex.refl H1) _ fun H3 e3 => ?_
  have s3 := s1.same e3
  have D3 := D1.ex e3
  cases ha : (thB 28 u1 && mostU u3 && (stA ar).isSome) with
  | true =>
    obtain ⟨ha, hb3⟩ := Bool.and_eq_true_iff.mp ha
    obtain ⟨hb1, hb2⟩ := Bool.and_eq_true_iff.mp ha
    obtain ⟨k, hk⟩ := Option.isSome_iff_exists.mp hb3
    obtain ⟨o, hm⟩ := mst_of p3.od hb2
    have lk : k < 2 := stN_lt hk
    have l := D.r.l
    have hka : ar[k]? = some (ar[k]'(by omega)) := List.getElem?_eq_getElem (by omega)
    refine .inl ⟨d, ar, k, _, v1, v3, u1, o, rfl, p1.od.ex s3.ex, hi hb1, hm, D3, hz, hk, hka, fun H4 x4 D4 => hR _ _ ?_⟩
    have := fin H4 (s3.kpd c D3 x4)
    rw [hb1, hb2, hb3] at this
    exact this
  | false =>
    refine .inr ⟨d, ar, v1, v3, u1, u3, rfl, D3, p1.od.ex s3.ex, p3.od.ex s3.ex, p1.b, p3.b, ha, fun H4 x4 => ?_⟩
    rw [← cs_no (CA := CA) (CT := CT)]
    refine hE _ H4 fun H5 e5 => ?_
    rw [← due_no ha]
    exact fin H5 ((s3.kpd c D3 x4).same e5)
/-- lambda: kept(copy, (item[0],), most[0]) -/
theorem rd_kept (s : Sg Z wl T H) (z : Zo Z wl) (c : Cp Z wl d) (D : DAt C H d ar) (hg : ∀ a ∈ ar, ∀ g, genT a = some g → g < 10 ^ 19) {x1 x3 v1 v3 : V} {u1 u3 : U} (p1 : PairZ (thB 28) Z x1 v1 u1) (p3 : PairZ mostU Z x3 v3 u3) (hi : thB 28 u1 = true → ikok u1)
    (hc : ∀ H, Ev tc σ H (.ref d.p)) (h1 : ∀ H, Ev ti σ H x1) (h3 : ∀ H, Ev tm σ H x3) (fin : ∀ H', Sg Z wl T H' → (∃ ar', DAt C H' d ar') → Q (.str (dueN (thB 28 u1) (mostU u3) (stA ar).isSome)) H') :
    tLam T (TTr (csE CA CT CN CI CS)) (fun E => tCall (orS (spKe C) (spKeX C CN CI CS)) [] E (tCons tc (tCons (tTup (tCons (tOp (rIxT K) ti (tC (.int 0))) tNil)) (tCons (tOp (rIxT K) tm (tC (.int 0))) tNil)))) σ H Q := by
  refine ⟨s.tabs, fun H1 e1 t1 E R hR hE => ?_⟩
  have s1 := s.extN z e1 t1
  have D1 := D.extN e1
  refine hc H1 H1 (Ex.refl H1) _ fun Ha ea => ?_
  refine (eu_tup (ea_cons (ev_thing p1 (s1.same ea).ex (h1 Ha)) ea_nil) (by show (1 : Nat) ≤ 100000; decide)) Ha (Ex.refl Ha) _ fun pt Hb hpt eb hb => ?_
  refine (ev_thing p3 ((s1.same ea).same eb).ex (h3 Hb)) Hb (Ex.refl Hb) _ fun H3 ec => ?_
  have e3 := (ea.trans eb).trans ec
  have s3 := s1.same e3
  have D3 := D1.ex e3
  have ht : H3 pt = some (.tup [v1]) := ec _ _ hb
  have iu : itU (.tup [u1]) = thB 28 u1 := by simp [itU]
  cases ha : (thB 28 u1 && mostU u3 && (stA ar).isSome) with
  | true =>
    obtain ⟨ha, hb3⟩ := Bool.and_eq_true_iff.mp ha
    obtain ⟨hb1, hb2⟩ := Bool.and_eq_true_iff.mp ha
    obtain ⟨k, hk⟩ := Option.isSome_iff_exists.mp hb3
    obtain ⟨o, hm⟩ := mst_of p3.od hb2
    have lk : k < 2 := stN_lt hk
    have l := D.r.l
    have hka : ar[k]? = some (ar[k]'(by omega)) := List.getElem?_eq_getElem (by omega)
    obtain ⟨g, hgt⟩ : ∃ g, genT (ar[k]'(by omega)) = some g := by
      obtain ⟨g, q⟩ := stN_some hk
      refine ⟨g, ?_⟩
      rcases (show k = 0 ∨ k = 1 by omega) with rfl | rfl
      · rw [if_pos rfl] at q
        rw [← q, List.getD_eq_getElem?_getD, hka]
        rfl
      · rw [if_neg (by decide)] at q
        rw [← q, List.getD_eq_getElem?_getD, hka]
        rfl
    have hg9 := hg _ (List.getElem_mem _) g hgt
    have hik : ∀ u ∈ [u1], ikok u := fun u hu => by rw [List.mem_singleton.mp hu]; exact hi hb1
    have hlen : (keptS (g + 1) [u1]).length ≤ 80000 := by
      have q := linesL_le (keptE (g + 1) [u1]) 0 0 (by decide) (ek_kept (by omega) hik)
      rw [TL.len_tl]
      show (linesL (keptE (g + 1) [u1]) 0 0).length ≤ 80000
      have : (keptE (g + 1) [u1]).length = 3 := rfl
      omega
    refine .inl ⟨d, ar, k, g, _, pt, v3, [v1], [u1], o, rfl, ht, .cons (p1.od.ex s3.ex) .nil, hik, by show (1 : Nat) ≤ 1900; decide, hm, D3, hk, hka, hgt, hg9, hlen, fun H4 x4 D4 => hR _ _ ?_⟩
    have := fin H4 (s3.kpd c D3 x4) ⟨_, D4⟩
    rw [hb1, hb2, hb3] at this
    exact this
  | false =>
    refine .inr ⟨d, ar, .ref pt, v3, .tup [u1], u3, rfl, D3, .tup ht (.cons (p1.od.ex s3.ex) .nil), p3.od.ex s3.ex, ?_, p3.b, by rw [iu]; exact ha, fun H4 x4 D4 => ?_⟩
    · simp only [brd, brdL]
      exact ⟨by simp, p1.b, trivial⟩
    rw [iu, ← cs_no (CA := CA) (CT := CT)]
    refine hE _ H4 fun H5 e5 => ?_
    rw [← due_no ha]
    exact fin H5 ((s3.kpd c D3 x4).same e5) ⟨_, D4.ex e5⟩
/-- lambda: kept(copy, odd, most[0]) -/
theorem rd_odd (s : Sg Z wl T H) (z : Zo Z wl) (c : Cp Z wl d) (D : DAt C H d ar) {x3 v1 v3 : V} {u1 u3 : U} (o1 : ∀ H', ExtN H H' → Od H' v1 u1) (b1 : brd u1) (i1 : itU u1 = false) (p3 : PairZ mostU Z x3 v3 u3)
    (hc : ∀ H, Ev tc σ H (.ref d.p)) (h1 : ∀ H, Ev ti σ H v1) (h3 : ∀ H, Ev tm σ H x3) (fin : ∀ H', Sg Z wl T H' → Q (.str "items") H') :
    tLam T (TTr (csE CA CT CN CI CS)) (fun E => tCall (orS (spKe C) (spKeX C CN CI CS)) [] E (tCons tc (tCons ti (tCons (tOp (rIxT K) tm (tC (.int 0))) tNil)))) σ H Q := by
  refine ⟨s.tabs, fun H1 e1 t1 E R hR hE => ?_⟩
  have s1 := s.extN z e1 t1
  have D1 := D.extN e1
  refine (ea_cons (hc H1) (ea_cons (h1 H1) (ea_cons (ev_thing p3 s1.ex (h3 H1)) ea_nil))) H1 (Ex.refl H1) _ fun H3 e3 => ?_
  have s3 := s1.same e3
  have D3 := D1.ex e3
  refine .inr ⟨d, ar, v1, v3, u1, u3, rfl, D3, (o1 H1 e1).ex e3, p3.od.ex s3.ex, b1, p3.b, by rw [i1]; rfl, fun H4 x4 _ => ?_⟩
  rw [i1]
  exact hE 3 H4 fun H5 e5 => fin H5 ((s3.kpd c D3 x4).same e5)
end
end Ht
/-! k34: the law's turn -/
namespace Ht
open PySem PySem.Spec PyProof.Rows L2 Hu Evl
open LamX (ExtN Tabs TabS CodeO tLam)
abbrev lLaw : Stmt := topS 64
abbrev NL : List Str := ["script", "hand", "deep", "disk", "areas", "stands", "ks", "texts", "mosts", "items", "turn", "due", "words", "copy", "item", "k", "many", "most", "odd", "text"]
theorem scLaw : FnScope NL ["script"] (defScope lLaw) := ⟨rfl, rfl, rfl, by decide +kernel, rfl, by decide +kernel, by decide +kernel⟩
theorem pe_ref {X : Cx} {cs : Fin 5 → Addr} {CH g : Addr} {gd : FuncData} {c Pt : Addr} {k : Nat} {params : Arguments} {body : Expr} {scope : Scope} {t : XK → TE} {p lpos pos : Pos} (DR : Df X.K X.mg "_law_refusal" lRefusal ["ask"] g gd) (B : Bt X.mg) (R : Er X.K X.mg cs CH)
    (TB : LamX.TabB X.base X.mg c Pt) (hcode : X.env.code = .ref c) (hr : Room (k + 2) X.A) (hg : Gl X "_law_refusal") (L : LamX.LamS X.env.scope scope) (hdef : defaultsOf params X.env = ([], []))
    (hbind : ∀ (q : Str) (cl : List (Str × Addr)) (pm cv ctv : Value), bindArgs (PySem.W.kla_fn "<lambda>" q params body scope cl pm cv ctv) ⟨[], []⟩ = pure [])
    (hbody : ∀ (A : Around) (outer : List Env) (s : Shared) (H : Hp) (E : XK) (f c' : Addr), Room k (A.deeper (LamX.lamEnv X scope s.heap.objs.size f c')) → PE (LamX.lamCx X A outer s H E scope f c') body (t E)) :
    PE X (.Call (.Name "_law_refusal" p) [.Lambda params body scope lpos] [] pos) (tLam [(Pt, X.env.qual ++ "<lambda>")] (TTr cs) t) := by
  obtain ⟨oc, od, kV, doc, pm, an, cdv, ct, osl, rfl, lk, hcd⟩ := DR.F.ex
  exact LamX.pe_lamcall hg DR.g DR.F.kp lk hcd DR.b scRef rfl (.inl rfl) (ref_gives B R) TB hcode (List.mem_singleton.mpr rfl) (fun q hq _ => by rw [List.mem_singleton.mp hq]) hr L hdef hbind hbody
end Ht
/-! lists of texts, compared (from k33's Y2) -/
namespace Ht
open PySem PySem.Spec PyProof.Rows L2 Hu Evl
theorem pair_of {ar : List Str} (h : ar.length = 2) : ∃ z0 z1, ar = [z0, z1] := match ar, h with | [x, y], _ => ⟨x, y, rfl⟩
section
variable {K : PySem.W.Frag} {σ : L2.St} {H H1 H2 : Hp} {te tb tl tp : TE} {ta : TE} {tu tz : TS} {D : Ends} {E : XK} {us : List U} {xs ys : List V} {l l2 : Addr} {Q : VK} {C : Addr} {d d2 : DA} {ar ar2 : List Str}
theorem if_f {G1 G2 : Prop} (h : G2) : if false = true then G1 else G2 := by
  rw [if_neg (by decide)]
  exact h
theorem ne_strs {zs : List Str} (hl : H l = some (.lst (zs.map V.str))) (hl2 : H l2 = some (.lst (zs.map V.str))) (hz : ∀ z ∈ zs, ln' (TL.tl z) = true) (q : Q (.bl false) H) : rNeD K (.ref l) (.ref l2) H Q :=
  ⟨.list (zs.map .str), .list (zs.map .str), .lst (sq_of hl) (strs_dp zs), .lst (sq_of hl2) (strs_dp zs), strs_sh hz, strs_sh hz, by
    have e3 : PyData.eqv (.list (zs.map .str)) (.list (zs.map .str)) = true := by
      show PyData.eqvAll _ _ = true
      rw [strs_eq, decide_eq_true rfl]
    rw [e3]
    exact q⟩
theorem eq_strs {zs : List Str} (hl : H l = some (.lst (zs.map V.str))) (hl2 : H l2 = some (.lst (zs.map V.str))) (hz : ∀ z ∈ zs, ln' (TL.tl z) = true) (q : Q (.bl true) H) : rEqD K (.ref l) (.ref l2) H Q :=
  ⟨.list (zs.map .str), .list (zs.map .str), .lst (sq_of hl) (strs_dp zs), .lst (sq_of hl2) (strs_dp zs), strs_sh hz, strs_sh hz, by
    have e3 : PyData.eqv (.list (zs.map .str)) (.list (zs.map .str)) = true := by
      show PyData.eqvAll _ _ = true
      rw [strs_eq, decide_eq_true rfl]
    rw [e3]
    exact q⟩
/-- [disk.area(0), disk.area(1)] -/
theorem el_areas {i : Nat} (hi : σ[i]? = some (some (.ref d.p))) (X : DAt C H d ar) : EvL (tLst (tCons (tMeth C "area" (spArea C) [] E (tVar i) (tCons (tC (.int 0)) tNil)) (tCons (tMeth C "area" (spArea C) [] E (tVar i) (tCons (tC (.int 1)) tNil)) tNil))) σ H (ar.map V.str) := by
  obtain ⟨z0, z1, rfl⟩ := pair_of X.r.l
  exact el_lst (ea_cons (ev_areaM (k := 0) X (ev_var hi) ev_c rfl) (ea_cons (ev_areaM (k := 1) X (ev_var hi) ev_c rfl) ea_nil)) (by show (2 : Nat) ≤ 100000; decide)
end
end Ht
/-! k34: the law's turn, read -/
namespace Ht
open PySem PySem.Spec PyProof.Rows L2 Hu Evl
open LamX (ExtN Tabs TabS CodeO tLam)
/-- what a turn reaches -/
structure Tx (P : Program) (w : World) (K : PySem.W.Frag) (mg : Str → Option Value) (base : Heap) (C CA CT CN CI CS CH c Pt : Addr) : Prop where
  B : Bt mg
  T : Dk K mg C
  R : Er K mg (csE CA CT CN CI CS) CH
  TB : LamX.TabB base mg c Pt
  rf : ∃ f d, Df K mg "_law_refusal" lRefusal ["ask"] f d
  an : ∃ f d, Df K mg "_law_any" sAny ["hand", "things"] f d ∧ FnOk P w K mg base CX0 2 f d ["hand", "things"] spAnyL
  fi : ∃ f d, Df K mg "_law_first" lFirstW ["dues"] f d ∧ FnOk P w K mg base CX0 1 f d ["dues"] spFirst
  of : ∃ f d, Df K mg "_law_of" lOf ["thing", "word"] f d ∧ FnOk P w K mg base CX0 1 f d ["thing", "word"] spOf
  cp : ∃ f d, Me K C "copy" "Disk.copy" (sDk 8) ["self"] f d ∧ FnOk P w K mg base CX0 3 f d ["self"] (spCopy C)
  ar : ∃ f d, Me K C "area" "Disk.area" (sDk 1) ["self", "k"] f d ∧ FnOk P w K mg base CX0 4 f d ["self", "k"] (spArea C) ∧ FnOk P w K mg base (L2.CX P w) 4 f d ["self", "k"] (orS (spArea C) (spAreaX CA))
  ap : ∃ f d, Me K C "append" "Disk.append" (sDk 4) ["self", "k", "text", "most"] f d ∧ FnOk P w K mg base (L2.CX P w) 4 f d ["self", "k", "text", "most"] (orS (spApp C) (spAppX CA CT CN))
  cl : ∃ f d, Me K C "clear" "Disk.clear" (sDk 5) ["self", "k"] f d ∧ FnOk P w K mg base (L2.CX P w) 4 f d ["self", "k"] (orS (spClear C) (spAreaX CA))
  sh : ∃ f d, Me K C "shorten" "Disk.shorten" (sDk 6) ["self", "k", "many"] f d ∧ FnOk P w K mg base (L2.CX P w) 4 f d ["self", "k", "many"] (spShX C CA CN)
  li : ∃ f d, Df K mg "lines" sLines ["text"] f d ∧ FnOk P w K mg base (L2.CX P w) 69 f d ["text"] (orS spLn (spTextX CT))
  re : ∃ f d, Df K mg "rest" sRest ["text"] f d ∧ FnOk P w K mg base (L2.CX P w) 69 f d ["text"] (orS spRs (spTextX CT))
  no : ∃ f d, Df K mg "noted" sNoted ["disk", "item", "most"] f d ∧ FnOk P w K mg base (L2.CX P w) 71 f d ["disk", "item", "most"] (orS (spNo C) (spNoX C CN CI CS))
  ke : ∃ f d, Df K mg "kept" sKept ["disk", "items", "most"] f d ∧ FnOk P w K mg base (L2.CX P w) 71 f d ["disk", "items", "most"] (orS (spKe C) (spKeX C CN CI CS))
def turnOf (l : List Stmt) : List Stmt := match l with
  | [_, _, _, _, _, _, _, _, _, _, _, _, _, .For _ _ b _ _, _] => b
  | _ => []
section
variable {P : Program} {w : World} {K : PySem.W.Frag} {mg : Str → Option Value} {base : Heap} {C CA CT CN CI CS CH c Pt : Addr}
/-- the menus and the disk, as they stand still -/
structure Mn (Z : Hp) (wl : WA) (C : Addr) where
  (dv : V) (d : DA) (ar : List Str) (la lk lt lm li : Addr) (xk xt xm xi : List V) (du : U)
  z : Zo Z wl
  D : DAt C Z d ar
  hz : ∀ a ∈ ar, a.length ≤ 80000
  hg : ∀ a ∈ ar, ∀ g, genT a = some g → g < 10 ^ 19
  a : Z la = some (.lst (ar.map V.str))
  o : Od Z dv du
  b : brd du
  w : Dw du
  k : Z lk = some (.lst xk)
  t : Z lt = some (.lst xt)
  m : Z lm = some (.lst xm)
  i : Z li = some (.lst xi)
  lk1 : 1 ≤ xk.length ∧ xk.length ≤ 1000
  lt1 : 1 ≤ xt.length ∧ xt.length ≤ 1000
  lm1 : 1 ≤ xm.length ∧ xm.length ≤ 1000
  li1 : 1 ≤ xi.length ∧ xi.length ≤ 1000
  pk : ∀ x ∈ xk, ∃ v u, PairZ areaU Z x v u
  pt : ∀ x ∈ xt, ∃ v u, PairZ linU Z x v u ∧ ∀ z, u = .str z → z.length ≤ 100
  pm : ∀ x ∈ xm, ∃ v u, PairZ mostU Z x v u
  pi : ∀ x ∈ xi, ∃ v u, PairZ (thB 28) Z x v u ∧ (thB 28 u = true → ikok u)
/-- a turn's begin -/
def TSt (Z : Hp) (wl : WA) (T : List (Addr × Str)) {C : Addr} (M : Mn Z wl C) (σ : L2.St) (H : Hp) : Prop :=
  ∃ x0 x10 x11 x12 x13 x14 x15 x16 x17 x18 x19, σ = [x0, some (.ref wl.w), some M.dv, some (.ref M.d.p), some (.ref M.la), some (.bl (stA M.ar).isSome), some (.ref M.lk), some (.ref M.lt), some (.ref M.lm), some (.ref M.li), x10, x11, x12, x13, x14, x15, x16, x17, x18, x19] ∧ Sg Z wl T H
section
variable {Z H H' : Hp} {wl : WA} {T : List (Addr × Str)} {d : DA} {C : Addr} {ar : List Str} {L : Addr} {ws : List V}
/-- a list stands still for a while -/
theorem PairZ.ex {g : U → Bool} {Z' : Hp} {x v : V} {u : U} (p : PairZ g Z x v u) (e : Ex Z Z') : PairZ g Z' x v u := let ⟨q, h1, h2, h3, h4⟩ := p; ⟨q, h1, e _ _ h2, h3.ex e, h4⟩
theorem Zo.put (z : Zo Z wl) (n : L ≠ wl.w) : Zo (upd Z L (.lst ws)) wl := ⟨by rw [upd_ne n.symm]; exact z.w, fun b ps h => by
  by_cases e : b = L
  · rw [e, upd_same] at h
    cases h
  · rw [upd_ne e] at h
    exact z.t b ps h⟩
theorem Sg.put (s : Sg Z wl T H) (h : H L = some (.lst ws)) : Sg (upd Z L (.lst ws)) wl T H := ⟨fun b o q => by
  by_cases e : b = L
  · rw [e, upd_same] at q
    rw [e, h]
    exact q
  · rw [upd_ne e] at q
    exact s.ex b o q, s.well, s.tabs⟩
theorem Sg.back (s : Sg (upd Z L (.lst ws)) wl T H) (n : Z L = none) : Sg Z wl T H ∧ H L = some (.lst ws) := ⟨⟨(Ex.new n).trans s.ex, s.well, s.tabs⟩, s.ex _ _ upd_same⟩
theorem Cp.put (c : Cp Z wl d) (n1 : d.p ≠ L) (n2 : d.al ≠ L) (n3 : d.cl ≠ L) (n4 : d.gl ≠ L) : Cp (upd Z L (.lst ws)) wl d := ⟨by rw [upd_ne n1]; exact c.p, by rw [upd_ne n2]; exact c.a, by rw [upd_ne n3]; exact c.c, by rw [upd_ne n4]; exact c.g, c.aw, c.cw, c.gw⟩
theorem DAt.drawn (D : DAt C H d ar) (W : Well H wl) (c : Cp Z wl d) (x : Drawn wl H H') : DAt C H' d ar := by
  have np : d.p ≠ wl.w := fun e => by
    obtain ⟨_, _, _, _, _, h1, _⟩ := W.ex
    have h2 := D.o
    rw [e, h1] at h2
    cases h2
  exact D.mv (fun o h => x.keep _ _ np h) (fun o h => x.keep _ _ c.aw.1 h) (fun o h => x.keep _ _ c.cw.1 h) (fun o h => x.keep _ _ c.gw.1 h)
theorem ofW_ok {b : Bool} {z : Str} (h : PyData.strOk z = true) : PyData.strOk (ofW b z) = true := by
  cases b with
  | false => exact h
  | true =>
    show PyData.strOk ("let" : Str) = true
    decide +kernel
theorem ev_of {K : PySem.W.Frag} {g : U → Bool} {x v : V} {u : U} {σ : L2.St} {te : TE} {z : Str} {E : XK} (p : PairZ g Z x v u) (e : Ex Z H) (h : Ev te σ H x) : Ev (tCall spOf [] E (tCons te (tCons (tC (.str z)) tNil))) σ H (.str (ofW (g u) z)) := by
  obtain ⟨q, rfl, hq, _⟩ := p
  exact ev_call (ea_cons h (ea_cons ev_c ea_nil)) fun H1 e1 Q q2 E => ⟨q, v, g u, z, rfl, e1 _ _ (e _ _ hq), q2⟩
theorem ev_flagP {K : PySem.W.Frag} {g : U → Bool} {x v : V} {u : U} {σ : L2.St} {te : TE} (p : PairZ g Z x v u) (e : Ex Z H) (h : Ev te σ H x) : Ev (tOp (rIxT K) te (tC (.int 1))) σ H (.bl (g u)) := by
  obtain ⟨q, rfl, hq, _⟩ := p
  exact ev_flag h (e _ _ hq)
theorem ev_first {σ : L2.St} {ta : TA} {zs : List Str} {E : XK} (h : EvA ta σ H (zs.map V.str)) (l : zs.length ≤ 40000) (ok : ∀ z ∈ zs, PyData.strOk z = true) : Ev (tCall spFirst [] E (tCons (tLst ta) tNil)) σ H (.str (firstW zs)) := fun H1 e Q q =>
  (el_lst h (by rw [List.length_map]; omega)) H1 e (fun x H2 => spFirst [x] H2 Q E) fun L H2 hL e2 h2 => ⟨L, zs, rfl, h2, l, ok, fun H3 e3 => q H3 (e2.trans e3)⟩
end
theorem sh_big {n : Nat} (h : n ≤ 80000) : shU (.int ((10 : Int) ^ (6 : Int).toNat)) n = false := by
  have e : (10 : Int) ^ (6 : Int).toNat = 1000000 := by decide
  rw [e]
  show (decide ((0 : Int) ≤ 1000000) && decide ((1000000 : Int) ≤ (n : Int))) = false
  rw [decide_eq_false (show ¬ ((1000000 : Int) ≤ (n : Int)) by omega), Bool.and_false]
/-- the words of a turn, all of them True -/
structure Wd (Z : Hp) (wl : WA) (H : Hp) (L : Addr) (n : Nat) : Prop where
  z : Z L = none
  w : L ≠ wl.w ∧ L ≠ wl.c
  h : H L = some (.lst (List.replicate n (.bl true)))
abbrev ZW (Z : Hp) (L : Addr) (n : Nat) : Hp := upd Z L (.lst (List.replicate n (.bl true)))
section
variable {Z H H' : Hp} {wl : WA} {T : List (Addr × Str)} {d : DA} {C : Addr} {ar : List Str} {L : Addr} {n : Nat}
theorem Wd.ex (x : Wd Z wl H L n) (e : Ex H H') : Wd Z wl H' L n := ⟨x.z, x.w, e _ _ x.h⟩
theorem Wd.drawn (x : Wd Z wl H L n) (e : Drawn wl H H') : Wd Z wl H' L n := ⟨x.z, x.w, e.keep _ _ x.w.1 x.h⟩
theorem Cp.re {o o' : HO} (c : Cp (upd Z L o) wl d) : Cp (upd Z L o') wl d := by
  have h : ∀ b, upd Z L o b = none → upd Z L o' b = none := fun b q => by
    by_cases e : b = L
    · rw [e, upd_same] at q
      cases q
    · rw [upd_ne e] at q ⊢
      exact q
  exact ⟨h _ c.p, h _ c.a, h _ c.c, h _ c.g, c.aw, c.cw, c.gw⟩
theorem Cp.ne {o : HO} (c : Cp (upd Z L o) wl d) : d.p ≠ L ∧ d.al ≠ L ∧ d.cl ≠ L ∧ d.gl ≠ L := by
  have h : ∀ b, upd Z L o b = none → b ≠ L := fun b q e => by
    rw [e, upd_same] at q
    cases q
  exact ⟨h _ c.p, h _ c.a, h _ c.c, h _ c.g⟩
theorem DAt.upL {o : HO} (D : DAt C H d ar) (n : d.p ≠ L ∧ d.al ≠ L ∧ d.cl ≠ L ∧ d.gl ≠ L) : DAt C (upd H L o) d ar :=
  D.mv (fun x h => by rw [upd_ne n.1]; exact h) (fun x h => by rw [upd_ne n.2.1]; exact h) (fun x h => by rw [upd_ne n.2.2.1]; exact h) (fun x h => by rw [upd_ne n.2.2.2]; exact h)
theorem Sg.upL (s : Sg Z wl T H) (x : Wd Z wl H L n) {ws : List V} : Sg Z wl T (upd H L (.lst ws)) := by
  obtain ⟨cells, pos, rest, mix, cnt, h1, h2, nn, l⟩ := s.well.ex
  refine ⟨Ex.mut s.ex x.z, ⟨cells, pos, rest, mix, cnt, by rw [upd_ne x.w.1.symm]; exact h1, by rw [upd_ne x.w.2.symm]; exact h2, nn, l⟩, tabs_but (S := fun b => b = L) s.tabs (fun b o q h => ?_) fun b o q h => by rw [upd_ne q]; exact h⟩
  rw [q, x.h] at h
  exact ⟨_, (Option.some.inj h).symm⟩
theorem rep_snoc (n : Nat) : List.replicate n (V.bl true) ++ [V.bl true] = List.replicate (n + 1) (V.bl true) := (List.replicate_succ' ..).symm
/-- words.append(a lambda's outcome == what is due) -/
theorem ap_word {K : PySem.W.Frag} {σ : L2.St} {tl tr : TE} {tz : TS} {D : Ends} {wd : Str} (hl : σ[12]? = some (some (.ref L))) (s : Sg Z wl T H) (x : Wd Z wl H L n) (hn : n < 1000) (Xp : Hp → Prop)
    (hx : ∀ H H', Ex H H' → Xp H → Xp H') (hx2 : ∀ H ws, Xp H → Xp (upd H L (.lst ws)))
    (lam : ∀ Q : VK, (∀ H', Sg (ZW Z L n) wl T H' → Xp H' → Q (.str wd) H') → tl σ H Q) (right : ∀ H', Sg Z wl T H' → Ev tr σ H' (.str wd))
    (k : ∀ H', Sg Z wl T H' → Wd Z wl H' L (n + 1) → Xp H' → tz D σ H') : tSeq (tDrop (tBM K "list" rAppend (tVar 12) (tCons (tOp rEq tl tr) tNil))) tz D σ H := by
  refine ⟨_, hl, .inl ⟨rfl, _, SqL.of x.h⟩, lam _ fun H1 s1 x1 => ?_⟩
  obtain ⟨sb, h1⟩ := s1.back x.z
  refine right H1 sb H1 (Ex.refl H1) _ fun H2 e2 => ⟨rfl, L, _, _, rfl, rfl, e2 _ _ h1, by rw [List.length_replicate]; exact Nat.lt_of_lt_of_le hn (by decide), ?_⟩
  rw [decide_eq_true rfl, rep_snoc]
  have xw : Wd Z wl H2 L n := ⟨x.z, x.w, e2 _ _ h1⟩
  exact k _ ((sb.same e2).upL xw) ⟨x.z, x.w, upd_same⟩ (hx2 _ _ (hx _ _ e2 x1))
end
theorem no_copy (al cl gl : Addr) : (dF al cl gl).lookup ("copy" : Str) = none := dF_no _ _ _ (by decide +kernel) (by decide +kernel) (by decide +kernel)
theorem Zo.ne {Z : Hp} {wl : WA} (z : Zo Z wl) {b : Addr} {o : HO} (h : Z b = some o) : b ≠ wl.w := fun e => by
  rw [e, z.w] at h
  cases h
theorem turn_pss (x : Tx P w K mg base C CA CT CN CI CS CH c Pt) {fa : Addr} {A : Around} {outer : List Env} {s : Shared} {H0 : Hp} {E0' : XK} (hr : Room 73 (A.deeper (envOfC "law" (defScope lLaw) s.heap.objs.size fa (.ref c)))) :
    ∃ t, PSs (cxOf CX0 P w K mg base NL "law" (defScope lLaw) fa (.ref c) A outer s H0 E0').nox (turnOf (defBody lLaw)) t ∧
      ∀ {Z : Hp} {wl : WA} {M : Mn Z wl C} (D : Ends) (σ : L2.St) (H : Hp), TSt Z wl [(Pt, ("law.<locals>." : Str) ++ "<lambda>")] M σ H → (∀ σ' H', TSt Z wl [(Pt, ("law.<locals>." : Str) ++ "<lambda>")] M σ' H' → D.nx σ' H') → t D σ H := by
  obtain ⟨B, T, R, TB, ⟨fr, dr, Dr⟩, ⟨fy, dy, Dy, Gy⟩, ⟨ff, df, Df', Gf⟩, ⟨fo, do', Do, Go⟩, ⟨fc, dc, Mc, Gc⟩, ⟨fa', da, Ma, Ga, GaX⟩, ⟨fp, dp, Mp, GpX⟩, ⟨fl, dl, Ml, GlX⟩, ⟨fs, ds, Ms, GsX⟩, ⟨fL, dL, DL, GLX⟩, ⟨fE, dE, DE, GEX⟩, ⟨fN, dN, DN, GNX⟩, ⟨fK, dK, DK, GKX⟩⟩ := x
  refine ⟨_, pss_cons (ps_set (i := 13) scLaw.nd rfl (.inr rfl) (pe_meth0 (pv 3) T.cl Mc.m Gc (hr.mono (by decide)) Mc.b .nil pass0))
    (pss_cons (ps_asg (pe_tup
        (pa_cons (pe_call Gy (hr.mono (by decide)) (by rfl) Dy.g Dy.F.kp Dy.b .nil pass0 (pa_cons (pv 1) (pa_cons (pv 6) pa_nil)))
        (pa_cons (pe_call Gy (hr.mono (by decide)) (by rfl) Dy.g Dy.F.kp Dy.b .nil pass0 (pa_cons (pv 1) (pa_cons (pv 7) pa_nil)))
        (pa_cons (pe_call Gy (hr.mono (by decide)) (by rfl) Dy.g Dy.F.kp Dy.b .nil pass0 (pa_cons (pv 1) (pa_cons (pv 8) pa_nil)))
        (pa_cons (pe_call Gy (hr.mono (by decide)) (by rfl) Dy.g Dy.F.kp Dy.b .nil pass0 (pa_cons (pv 1) (pa_cons (pv 9) pa_nil))) pa_nil)))))
      (pg_tup rfl (pgs_cons (pg_name (i := 15) scLaw.nd rfl (.inr rfl)) (pgs_cons (pg_name (i := 19) scLaw.nd rfl (.inr rfl)) (pgs_cons (pg_name (i := 17) scLaw.nd rfl (.inr rfl)) (pgs_cons (pg_name (i := 14) scLaw.nd rfl (.inr rfl)) pgs_nil))))))
    (pss_cons (ps_set (i := 11) scLaw.nd rfl (.inl rfl) (pe_call Gf (hr.mono (by decide)) (by rfl) Df'.g Df'.F.kp Df'.b .nil pass0 (pa_cons (pe_lst
        (pa_cons (pe_call Go (hr.mono (by decide)) (by rfl) Do.g Do.F.kp Do.b .nil pass0 (pa_cons (pv 15) (pa_cons pe_str pa_nil)))
        (pa_cons (pe_call Go (hr.mono (by decide)) (by rfl) Do.g Do.F.kp Do.b .nil pass0 (pa_cons (pv 19) (pa_cons pe_str pa_nil)))
        (pa_cons (pe_call Go (hr.mono (by decide)) (by rfl) Do.g Do.F.kp Do.b .nil pass0 (pa_cons (pv 17) (pa_cons pe_str pa_nil))) pa_nil)))) pa_nil)))
    (pss_cons (ps_set (i := 12) scLaw.nd rfl (.inl rfl) (pe_lst (pa_cons (pe_cmpR op_eq
        (pe_ref (k := 71) Dr B R TB rfl hr rfl (LamX.lamS_by (show LamX.lamSB (defScope lLaw) _ = true by decide +kernel)) rfl (fun _ _ _ _ _ => rfl)
          (fun A outer s H E f c' hr2 => pe_meth (E := E) (pv 13) T.cl Mp.m GpX (hr2.mono (by decide)) Mp.b .nil (passes_call (takes_of rfl rfl rfl rfl) fun _ _ _ _ h => h)
            (pa_cons (pe_ix (show IxR _ (rIxT K) from ix_tup) (pv 15) pe_int (fun _ _ => rfl)) (pa_cons (pe_ix (show IxR _ (rIxT K) from ix_tup) (pv 19) pe_int (fun _ _ => rfl)) (pa_cons (pe_ix (show IxR _ (rIxT K) from ix_tup) (pv 17) pe_int (fun _ _ => rfl)) pa_nil)))))
        (pv 11) (nomark _)) pa_nil)))
    (pss_cons (ps_set (i := 13) scLaw.nd rfl (.inr rfl) (pe_meth0 (pv 3) T.cl Mc.m Gc (hr.mono (by decide)) Mc.b .nil pass0))
    (pss_cons (ps_expr (pe_bm PySem.F.plainAttrs_list PySem.F.slot_list_append PySem.F.type_list_append mt_append (pv 12) (pa_cons (pe_cmpR op_eq
        (pe_ref (k := 71) Dr B R TB rfl hr rfl (LamX.lamS_by (show LamX.lamSB (defScope lLaw) _ = true by decide +kernel)) rfl (fun _ _ _ _ _ => rfl)
          (fun A outer s H E f c' hr2 => pe_meth (E := E) (pv 13) T.cl Ma.m GaX (hr2.mono (by decide)) Ma.b .nil (passes_call (takes_of rfl rfl rfl rfl) fun _ _ _ _ h => h) (pa_cons (pe_ix (show IxR _ (rIxT K) from ix_tup) (pv 15) pe_int (fun _ _ => rfl)) pa_nil)))
        (pe_call Go (hr.mono (by decide)) (by rfl) Do.g Do.F.kp Do.b .nil pass0 (pa_cons (pv 15) (pa_cons pe_str pa_nil))) (nomark _)) pa_nil)))
    (pss_cons (ps_expr (pe_bm PySem.F.plainAttrs_list PySem.F.slot_list_append PySem.F.type_list_append mt_append (pv 12) (pa_cons (pe_cmpR op_eq
        (pe_ref (k := 71) Dr B R TB rfl hr rfl (LamX.lamS_by (show LamX.lamSB (defScope lLaw) _ = true by decide +kernel)) rfl (fun _ _ _ _ _ => rfl)
          (fun A outer s H E f c' hr2 => pe_meth (E := E) (pv 13) T.cl Ml.m GlX (hr2.mono (by decide)) Ml.b .nil (passes_call (takes_of rfl rfl rfl rfl) fun _ _ _ _ h => h) (pa_cons (pe_ix (show IxR _ (rIxT K) from ix_tup) (pv 15) pe_int (fun _ _ => rfl)) pa_nil)))
        (pe_call Go (hr.mono (by decide)) (by rfl) Do.g Do.F.kp Do.b .nil pass0 (pa_cons (pv 15) (pa_cons pe_str pa_nil))) (nomark _)) pa_nil)))
    (pss_cons (ps_set (i := 13) scLaw.nd rfl (.inr rfl) (pe_meth0 (pv 3) T.cl Mc.m Gc (hr.mono (by decide)) Mc.b .nil pass0))
    (pss_cons (ps_set (i := 16) scLaw.nd rfl (.inr rfl) (pe_call Gy (hr.mono (by decide)) (by rfl) Dy.g Dy.F.kp Dy.b .nil pass0 (pa_cons (pv 1) (pa_cons (pe_lst (pa_cons (pe_un un_neg pe_int) (pa_cons (pe_op op_pow pe_int pe_int) (pa_cons pe_non (pa_cons pe_bl (pa_cons pe_str (pa_cons (pv 2) pa_nil))))))) pa_nil))))
    (pss_cons (ps_set (i := 11) scLaw.nd rfl (.inl rfl) (pe_ifExp (pt_val (pe_ix ix_tup (pv 15) pe_int (fun _ _ => rfl))) pe_str pe_str))
    (pss_cons (ps_expr (pe_bm PySem.F.plainAttrs_list PySem.F.slot_list_append PySem.F.type_list_append mt_append (pv 12) (pa_cons (pe_cmpR op_eq
        (pe_ref (k := 71) Dr B R TB rfl hr rfl (LamX.lamS_by (show LamX.lamSB (defScope lLaw) _ = true by decide +kernel)) rfl (fun _ _ _ _ _ => rfl)
          (fun A outer s H E f c' hr2 => pe_meth (E := E) (pv 13) T.cl Ms.m GsX (hr2.mono (by decide)) Ms.b .nil (passes_call (takes_of rfl rfl rfl rfl) fun _ _ _ _ h => h) (pa_cons (pe_ix (show IxR _ (rIxT K) from ix_tup) (pv 15) pe_int (fun _ _ => rfl)) (pa_cons (pv 16) pa_nil))))
        (pv 11) (nomark _)) pa_nil)))
    (pss_cons (ps_expr (pe_bm PySem.F.plainAttrs_list PySem.F.slot_list_append PySem.F.type_list_append mt_append (pv 12) (pa_cons (pe_cmpR op_eq
        (pe_ref (k := 71) Dr B R TB rfl hr rfl (LamX.lamS_by (show LamX.lamSB (defScope lLaw) _ = true by decide +kernel)) rfl (fun _ _ _ _ _ => rfl)
          (fun A outer s H E f c' hr2 => pe_call (E := E) GLX (hr2.mono (by decide)) (by rfl) DL.g DL.F.kp DL.b .nil (passes_call (takes_of rfl rfl rfl rfl) fun _ _ _ _ h => h) (pa_cons (pe_ix (show IxR _ (rIxT K) from ix_tup) (pv 19) pe_int (fun _ _ => rfl)) pa_nil)))
        (pe_call Go (hr.mono (by decide)) (by rfl) Do.g Do.F.kp Do.b .nil pass0 (pa_cons (pv 19) (pa_cons pe_str pa_nil))) (nomark _)) pa_nil)))
    (pss_cons (ps_expr (pe_bm PySem.F.plainAttrs_list PySem.F.slot_list_append PySem.F.type_list_append mt_append (pv 12) (pa_cons (pe_cmpR op_eq
        (pe_ref (k := 71) Dr B R TB rfl hr rfl (LamX.lamS_by (show LamX.lamSB (defScope lLaw) _ = true by decide +kernel)) rfl (fun _ _ _ _ _ => rfl)
          (fun A outer s H E f c' hr2 => pe_call (E := E) GEX (hr2.mono (by decide)) (by rfl) DE.g DE.F.kp DE.b .nil (passes_call (takes_of rfl rfl rfl rfl) fun _ _ _ _ h => h) (pa_cons (pe_ix (show IxR _ (rIxT K) from ix_tup) (pv 19) pe_int (fun _ _ => rfl)) pa_nil)))
        (pe_call Go (hr.mono (by decide)) (by rfl) Do.g Do.F.kp Do.b .nil pass0 (pa_cons (pv 19) (pa_cons pe_str pa_nil))) (nomark _)) pa_nil)))
    (pss_cons (ps_set (i := 11) scLaw.nd rfl (.inl rfl) (pe_call Gf (hr.mono (by decide)) (by rfl) Df'.g Df'.F.kp Df'.b .nil pass0 (pa_cons (pe_lst (pa_cons (pe_call Go (hr.mono (by decide)) (by rfl) Do.g Do.F.kp Do.b .nil pass0 (pa_cons (pv 14) (pa_cons pe_str pa_nil))) (pa_cons (pe_call Go (hr.mono (by decide)) (by rfl) Do.g Do.F.kp Do.b .nil pass0 (pa_cons (pv 17) (pa_cons pe_str pa_nil))) (pa_cons (pe_ifExp (pt_val (pv 5)) pe_str pe_str) pa_nil)))) pa_nil)))
    (pss_cons (ps_set (i := 13) scLaw.nd rfl (.inr rfl) (pe_meth0 (pv 3) T.cl Mc.m Gc (hr.mono (by decide)) Mc.b .nil pass0))
    (pss_cons (ps_expr (pe_bm PySem.F.plainAttrs_list PySem.F.slot_list_append PySem.F.type_list_append mt_append (pv 12) (pa_cons (pe_cmpR op_eq
        (pe_ref (k := 71) Dr B R TB rfl hr rfl (LamX.lamS_by (show LamX.lamSB (defScope lLaw) _ = true by decide +kernel)) rfl (fun _ _ _ _ _ => rfl)
          (fun A outer s H E f c' hr2 => pe_call (E := E) GNX (hr2.mono (by decide)) (by rfl) DN.g DN.F.kp DN.b .nil (passes_call (takes_of rfl rfl rfl rfl) fun _ _ _ _ h => h) (pa_cons (pv 13) (pa_cons (pe_ix (show IxR _ (rIxT K) from ix_tup) (pv 14) pe_int (fun _ _ => rfl)) (pa_cons (pe_ix (show IxR _ (rIxT K) from ix_tup) (pv 17) pe_int (fun _ _ => rfl)) pa_nil)))))
        (pv 11) (nomark _)) pa_nil)))
    (pss_cons (ps_set (i := 13) scLaw.nd rfl (.inr rfl) (pe_meth0 (pv 3) T.cl Mc.m Gc (hr.mono (by decide)) Mc.b .nil pass0))
    (pss_cons (ps_expr (pe_bm PySem.F.plainAttrs_list PySem.F.slot_list_append PySem.F.type_list_append mt_append (pv 12) (pa_cons (pe_cmpR op_eq
        (pe_ref (k := 71) Dr B R TB rfl hr rfl (LamX.lamS_by (show LamX.lamSB (defScope lLaw) _ = true by decide +kernel)) rfl (fun _ _ _ _ _ => rfl)
          (fun A outer s H E f c' hr2 => pe_call (E := E) GKX (hr2.mono (by decide)) (by rfl) DK.g DK.F.kp DK.b .nil (passes_call (takes_of rfl rfl rfl rfl) fun _ _ _ _ h => h) (pa_cons (pv 13) (pa_cons (pe_tup (pa_cons (pe_ix (show IxR _ (rIxT K) from ix_tup) (pv 14) pe_int (fun _ _ => rfl)) pa_nil)) (pa_cons (pe_ix (show IxR _ (rIxT K) from ix_tup) (pv 17) pe_int (fun _ _ => rfl)) pa_nil)))))
        (pv 11) (nomark _)) pa_nil)))
    (pss_cons (ps_set (i := 18) scLaw.nd rfl (.inr rfl) (pe_call Gy (hr.mono (by decide)) (by rfl) Dy.g Dy.F.kp Dy.b .nil pass0 (pa_cons (pv 1) (pa_cons (pe_lst (pa_cons (pe_lst (pa_cons pe_int pa_nil)) (pa_cons pe_non (pa_cons pe_int (pa_cons pe_str (pa_cons pe_dnewK pa_nil)))))) pa_nil))))
    (pss_cons (ps_expr (pe_bm PySem.F.plainAttrs_list PySem.F.slot_list_append PySem.F.type_list_append mt_append (pv 12) (pa_cons (pe_cmpR op_eq
        (pe_ref (k := 71) Dr B R TB rfl hr rfl (LamX.lamS_by (show LamX.lamSB (defScope lLaw) _ = true by decide +kernel)) rfl (fun _ _ _ _ _ => rfl)
          (fun A outer s H E f c' hr2 => pe_call (E := E) GKX (hr2.mono (by decide)) (by rfl) DK.g DK.F.kp DK.b .nil (passes_call (takes_of rfl rfl rfl rfl) fun _ _ _ _ h => h) (pa_cons (pv 13) (pa_cons (pv 18) (pa_cons (pe_ix (show IxR _ (rIxT K) from ix_tup) (pv 17) pe_int (fun _ _ => rfl)) pa_nil)))))
        pe_str (nomark _)) pa_nil)))
    (pss_one (ps_if (PW.pt (pw_or (pt_cmpR op_in_seq pe_bl (pv 12) (by rfl)) (pw_or1 (pt_cmpR (op_neD hr.units) (pe_lst (pa_cons (pe_meth (pv 3) T.cl Ma.m Ga (hr.mono (by decide)) Ma.b .nil pass0 (pa_cons pe_int pa_nil)) (pa_cons (pe_meth (pv 3) T.cl Ma.m Ga (hr.mono (by decide)) Ma.b .nil pass0 (pa_cons pe_int pa_nil)) pa_nil))) (pv 4) (nomark _))))) (pss_one (ps_ret pe_bl)) pss_nil)))))))))))))))))))))
    , ?_⟩
  rintro Z wl M D σ H ⟨x0, x10, x11, x12, x13, x14, x15, x16, x17, x18, x19, rfl, s⟩ fin
  have z := M.z
  refine ⟨_, rfl, M.d.p, M.d.dx, _, rfl, s.ex _ _ M.D.o, no_copy _ _ _, M.d, M.ar, rfl, M.D.ex s.ex, fun d1 H1 e1 f1 D1 => ?_⟩
  have c1 := Cp.of s f1
  have s1 := s.same e1
  refine ⟨_, rfl, _, rfl, wl, M.lk, M.xk, rfl, s1.well, s1.ex _ _ M.k, z.ne M.k, M.lk1.1, M.lk1.2, fun xk Ha hk Da => ?_⟩
  have sa := s1.drawn z Da
  refine ⟨_, rfl, _, rfl, wl, M.lt, M.xt, rfl, sa.well, sa.ex _ _ M.t, z.ne M.t, M.lt1.1, M.lt1.2, fun xt Hb ht Db => ?_⟩
  have sb := sa.drawn z Db
  refine ⟨_, rfl, _, rfl, wl, M.lm, M.xm, rfl, sb.well, sb.ex _ _ M.m, z.ne M.m, M.lm1.1, M.lm1.2, fun xm Hc hm Dc => ?_⟩
  have sc := sb.drawn z Dc
  refine ⟨_, rfl, _, rfl, wl, M.li, M.xi, rfl, sc.well, sc.ex _ _ M.i, z.ne M.i, M.li1.1, M.li1.2, fun xi Hd hi Dd => ?_⟩
  have sd := sc.drawn z Dd
  have Dd4 := (((D1.drawn s1.well c1 Da).drawn sa.well c1 Db).drawn sb.well c1 Dc).drawn sc.well c1 Dd
  obtain ⟨v1, u1, p1⟩ := M.pk xk hk
  obtain ⟨v2, u2, p2, t2⟩ := M.pt xt ht
  obtain ⟨v3, u3, p3⟩ := M.pm xm hm
  obtain ⟨v4, u4, p4, i4⟩ := M.pi xi hi
  refine ⟨sz_of (by show (4 : Nat) ≤ 100000; decide), fun pt hpt => ⟨pt, _, rfl, st_of upd_same, rfl, _, _, rfl, _, _, rfl, _, _, rfl, _, _, rfl, rfl, ?_⟩⟩
  have se := sd.same (Ex.new (o := .tup [xk, xt, xm, xi]) hpt)
  have De := Dd4.ex (Ex.new (o := .tup [xk, xt, xm, xi]) hpt)
  generalize upd Hd pt (.tup [xk, xt, xm, xi]) = He at se De
  dsimp only [gName]
  show tSeq (tAsg _ (gName 11)) _ _ [x0, some (.ref wl.w), some M.dv, some (.ref M.d.p), some (.ref M.la), some (.bl (stA M.ar).isSome), some (.ref M.lk), some (.ref M.lt), some (.ref M.lm), some (.ref M.li), x10, x11, x12, some (.ref d1.p), some xi, some xk, x16, some xm, x18, some xt] He
  refine q_asg (v := .str (firstW [ofW (areaU u1) "area", ofW (linU u2) "text", ofW (mostU u3) "number"])) (ev_first (zs := [ofW (areaU u1) "area", ofW (linU u2) "text", ofW (mostU u3) "number"]) (ea_cons (ev_of (K := K) p1 se.ex (ev_var rfl)) (ea_cons (ev_of (K := K) p2 se.ex (ev_var rfl)) (ea_cons (ev_of (K := K) p3 se.ex (ev_var rfl)) ea_nil))) (by show (3 : Nat) ≤ 40000; decide) (fun q hq => ?_)) fun Hf ef => ?_
  · simp only [List.mem_cons, List.not_mem_nil, or_false] at hq
    rcases hq with rfl | rfl | rfl <;> exact ofW_ok (by decide +kernel)
  have sf := se.same ef
  have Df := De.ex ef
  refine rd_app (tc := tVar 13) sf z c1 Df M.hz p1 p2 p3 t2 (fun H => ev_var rfl) (fun H => ev_var rfl) (fun H => ev_var rfl) (fun H => ev_var rfl) fun Hg sg => ?_
  refine ⟨_, rfl, rfl, sz_of (by show (1 : Nat) ≤ 100000; decide), fun Lw hLw => ?_⟩
  rw [decide_eq_true rfl]
  have xh : Wd Z wl (upd Hg Lw (.lst [V.bl true])) Lw 1 := ⟨fresh_back sg.ex hLw, sg.well.ne hLw, upd_same⟩
  have sh := sg.same (Ex.new (o := .lst [V.bl true]) hLw)
  generalize upd Hg Lw (.lst [V.bl true]) = Hh at xh sh
  refine ⟨_, rfl, M.d.p, M.d.dx, _, rfl, sh.ex _ _ M.D.o, no_copy _ _ _, M.d, M.ar, rfl, M.D.ex sh.ex, fun d2 H2 e2 f2 D2 => ?_⟩
  have c2 := Cp.of (sh.put xh.h) f2
  have s2 := sh.same e2
  have x2 := xh.ex e2
  dsimp only [gName]
  show tSeq (tDrop _) _ _ [x0, some (.ref wl.w), some M.dv, some (.ref M.d.p), some (.ref M.la), some (.bl (stA M.ar).isSome), some (.ref M.lk), some (.ref M.lt), some (.ref M.lm), some (.ref M.li), x10, some (.str (firstW [ofW (areaU u1) "area", ofW (linU u2) "text", ofW (mostU u3) "number"])), some (.ref Lw), some (.ref d2.p), some xi, some xk, x16, some xm, x18, some xt] H2
  have Zx : ∀ n, Ex Z (ZW Z Lw n) := fun n => Ex.new xh.z
  have zx : ∀ n, Zo (ZW Z Lw n) wl := fun n => z.put xh.w.1
  refine ap_word rfl s2 x2 (by decide) (fun H => DAt C H d2 M.ar) (fun H H' e D => D.ex e) (fun H ws D => D.upL c2.ne) (fun Q hq => rd_area (tc := tVar 13) (s2.put x2.h) (zx 1) D2 (p1.ex (Zx 1)) (fun H => ev_var rfl) (fun H => ev_var rfl) hq) (fun H' s' => ev_of (K := K) p1 s'.ex (ev_var rfl)) fun H3 s3 x3 D3 => ?_
  refine ap_word rfl s3 x3 (by decide) (fun _ => True) (fun H H' e D => trivial) (fun H ws D => trivial) (fun Q hq => rd_clear (tc := tVar 13) (s3.put x3.h) (zx 2) c2.re D3 (p1.ex (Zx 2)) (fun H => ev_var rfl) (fun H => ev_var rfl) fun H' s' => hq H' s' trivial) (fun H' s' => ev_of (K := K) p1 s'.ex (ev_var rfl)) fun H4 s4 x4 _ => ?_
  refine ⟨_, rfl, M.d.p, M.d.dx, _, rfl, s4.ex _ _ M.D.o, no_copy _ _ _, M.d, M.ar, rfl, M.D.ex s4.ex, fun d3 H5 e5 f3 D3 => ?_⟩
  have c3 := Cp.of (s4.put x4.h) f3
  have s5 := s4.same e5
  have x5 := x4.ex e5
  dsimp only [gName]
  have EM : EvL (tLst (tCons (tUn (rU fun i => .int (-i)) (tC (.int 1))) (tCons (tOp (rI CPow fun i j => .int (i ^ j.toNat)) (tC (.int 10)) (tC (.int 6))) (tCons (tC .non) (tCons (tC (.bl true)) (tCons (tC (.str "0")) (tCons (tVar 2) tNil))))))) [x0, some (.ref wl.w), some M.dv, some (.ref M.d.p), some (.ref M.la), some (.bl (stA M.ar).isSome), some (.ref M.lk), some (.ref M.lt), some (.ref M.lm), some (.ref M.li), x10, some (.str (firstW [ofW (areaU u1) "area", ofW (linU u2) "text", ofW (mostU u3) "number"])), some (.ref Lw), some (.ref d3.p), some xi, some xk, x16, some xm, x18, some xt] H5 [.int (-1), .int ((10 : Int) ^ (6 : Int).toNat), .non, .bl true, .str "0", M.dv] :=
    el_lst (ea_cons (ev_un ev_c ru_neg) (ea_cons (ev_op ev_c ev_c (rv_I ⟨by decide, by decide, by decide⟩)) (ea_cons ev_c (ea_cons ev_c (ea_cons ev_c (ea_cons (ev_var rfl) ea_nil)))))) (by show (6 : Nat) ≤ 100000; decide)
  refine ⟨_, rfl, EM H5 (Ex.refl H5) _ fun Lm H6 hLm e6 h6 => ⟨wl, Lm, _, rfl, s5.well.same e6, h6, (s5.well.ne hLm).1, by show 1 ≤ 6; decide, by show 6 ≤ 1000; decide, fun vm H7 hvm D7 => ?_⟩⟩
  have s6 := s5.same e6
  have s7 := s6.drawn z D7
  have x7 := (x5.ex e6).drawn D7
  have D37 := (D3.ex e6).drawn s6.well c3 D7
  obtain ⟨um, om, bm, nm⟩ : ∃ um, Od Z vm um ∧ brd um ∧ ∀ a ∈ M.ar, shU um a.length = false := by
    simp only [List.mem_cons, List.not_mem_nil, or_false] at hvm
    rcases hvm with rfl | rfl | rfl | rfl | rfl | rfl
    · exact ⟨_, .int _, by simp only [brd], fun a _ => rfl⟩
    · refine ⟨_, .int _, by simp only [brd], fun a ha => ?_⟩
      exact sh_big (M.hz a ha)
    · exact ⟨_, .non, by simp only [brd], fun a _ => rfl⟩
    · exact ⟨_, .bl _, by simp only [brd], fun a _ => rfl⟩
    · exact ⟨_, .str _, brdS (by decide +kernel), fun a _ => rfl⟩
    · exact ⟨_, M.o, M.b, fun a _ => M.w.sh _⟩
  dsimp only [gName]
  show tSeq (tAsg _ (gName 11)) _ _ [x0, some (.ref wl.w), some M.dv, some (.ref M.d.p), some (.ref M.la), some (.bl (stA M.ar).isSome), some (.ref M.lk), some (.ref M.lt), some (.ref M.lm), some (.ref M.li), x10, some (.str (firstW [ofW (areaU u1) "area", ofW (linU u2) "text", ofW (mostU u3) "number"])), some (.ref Lw), some (.ref d3.p), some xi, some xk, some vm, some xm, x18, some xt] H7
  refine q_asg (v := .str (if areaU u1 then "number" else "area")) (ev_if (b := areaU u1) (et_B (ev_flagP (K := K) p1 s7.ex (ev_var rfl))) (fun q => by rw [if_pos q]; exact ev_c) (fun q => by rw [if_neg (by rw [q]; decide)]; exact ev_c)) fun H8 e8 => ?_
  have s8 := s7.same e8
  have x8 := x7.ex e8
  refine ap_word rfl s8 x8 (by decide) (fun _ => True) (fun H H' e D => trivial) (fun H ws D => trivial) (fun Q hq => rd_short (tc := tVar 13) (tm := tVar 16) (s8.put x8.h) (zx 3) (D37.ex e8) (p1.ex (Zx 3)) (om.ex (Zx 3)) bm nm (fun H => ev_var rfl) (fun H => ev_var rfl) (fun H => ev_var rfl) fun H' s' => hq H' s' trivial) (fun H' s' => ev_var rfl) fun H9 s9 x9 _ => ?_
  refine ap_word rfl s9 x9 (by decide) (fun _ => True) (fun H H' e D => trivial) (fun H ws D => trivial) (fun Q hq => rd_lines (tt := tVar 19) (s9.put x9.h) (zx 4) (p2.ex (Zx 4)) t2 (fun H => ev_var rfl) fun H' s' => hq H' s' trivial) (fun H' s' => ev_of (K := K) p2 s'.ex (ev_var rfl)) fun H10 s10 xx10 _ => ?_
  refine ap_word rfl s10 xx10 (by decide) (fun _ => True) (fun H H' e D => trivial) (fun H ws D => trivial) (fun Q hq => rd_rest (tt := tVar 19) (s10.put xx10.h) (zx 5) (p2.ex (Zx 5)) t2 (fun H => ev_var rfl) fun H' s' => hq H' s' trivial) (fun H' s' => ev_of (K := K) p2 s'.ex (ev_var rfl)) fun H11 s11 xx11 _ => ?_
  refine q_asg (v := .str (dueN (thB 28 u4) (mostU u3) (stA M.ar).isSome)) (ev_first (zs := [ofW (thB 28 u4) "items", ofW (mostU u3) "number", ofW (stA M.ar).isSome "stand"]) (ea_cons (ev_of (K := K) p4 s11.ex (ev_var rfl)) (ea_cons (ev_of (K := K) p3 s11.ex (ev_var rfl)) (ea_cons (ev_if (b := (stA M.ar).isSome) (et_B (ev_var rfl)) (fun q => by rw [q]; exact ev_c) (fun q => by rw [q]; exact ev_c)) ea_nil))) (by show (3 : Nat) ≤ 40000; decide) (fun q hq => ?_)) fun H12 e12 => ?_
  · simp only [List.mem_cons, List.not_mem_nil, or_false] at hq
    rcases hq with rfl | rfl | rfl <;> exact ofW_ok (by decide +kernel)
  have s12 := s11.same e12
  have xx12 := xx11.ex e12
  refine ⟨_, rfl, M.d.p, M.d.dx, _, rfl, s12.ex _ _ M.D.o, no_copy _ _ _, M.d, M.ar, rfl, M.D.ex s12.ex, fun d4 H13 e13 f4 D4 => ?_⟩
  have c4 := Cp.of (s12.put xx12.h) f4
  have s13 := s12.same e13
  have xx13 := xx12.ex e13
  dsimp only [gName]
  show tSeq (tDrop _) _ _ [x0, some (.ref wl.w), some M.dv, some (.ref M.d.p), some (.ref M.la), some (.bl (stA M.ar).isSome), some (.ref M.lk), some (.ref M.lt), some (.ref M.lm), some (.ref M.li), x10, some (.str (dueN (thB 28 u4) (mostU u3) (stA M.ar).isSome)), some (.ref Lw), some (.ref d4.p), some xi, some xk, some vm, some xm, x18, some xt] H13
  refine ap_word rfl s13 xx13 (by decide) (fun _ => True) (fun H H' e D => trivial) (fun H ws D => trivial) (fun Q hq => rd_noted (tc := tVar 13) (ti := tVar 14) (tm := tVar 17) (s13.put xx13.h) (zx 6) c4.re D4 M.hz (p4.ex (Zx 6)) (p3.ex (Zx 6)) i4 (fun H => ev_var rfl) (fun H => ev_var rfl) (fun H => ev_var rfl) fun H' s' => hq H' s' trivial) (fun H' s' => ev_var rfl) fun H14 s14 xx14 _ => ?_
  refine ⟨_, rfl, M.d.p, M.d.dx, _, rfl, s14.ex _ _ M.D.o, no_copy _ _ _, M.d, M.ar, rfl, M.D.ex s14.ex, fun d5 H15 e15 f5 D5 => ?_⟩
  have c5 := Cp.of (s14.put xx14.h) f5
  have s15 := s14.same e15
  have xx15 := xx14.ex e15
  dsimp only [gName]
  show tSeq (tDrop _) _ _ [x0, some (.ref wl.w), some M.dv, some (.ref M.d.p), some (.ref M.la), some (.bl (stA M.ar).isSome), some (.ref M.lk), some (.ref M.lt), some (.ref M.lm), some (.ref M.li), x10, some (.str (dueN (thB 28 u4) (mostU u3) (stA M.ar).isSome)), some (.ref Lw), some (.ref d5.p), some xi, some xk, some vm, some xm, x18, some xt] H15
  refine ap_word rfl s15 xx15 (by decide) (fun H => ∃ ar', DAt C H d5 ar') (fun H H' e ⟨a, D⟩ => ⟨a, D.ex e⟩) (fun H ws ⟨a, D⟩ => ⟨a, D.upL c5.ne⟩) (fun Q hq => rd_kept (tc := tVar 13) (ti := tVar 14) (tm := tVar 17) (s15.put xx15.h) (zx 7) c5.re D5 M.hg (p4.ex (Zx 7)) (p3.ex (Zx 7)) i4 (fun H => ev_var rfl) (fun H => ev_var rfl) (fun H => ev_var rfl) fun H' s' D' => hq H' s' D') (fun H' s' => ev_var rfl) fun H16 s16 xx16 ⟨ar', D16⟩ => ?_
  refine ⟨_, rfl, sz_of (by show (1 : Nat) ≤ 100000; decide), fun p5 hp5 => fun pd hpd => ⟨sz_of (by show (5 : Nat) ≤ 100000; decide), fun Lo hLo => ?_⟩⟩
  have ea := Ex.new (o := .lst [V.int 5]) hp5
  have eb := Ex.new (o := .dK []) hpd
  have ec := Ex.new (o := .lst [V.ref p5, .non, .int 5, .str "items", .ref pd]) hLo
  have sC := ((s16.same ea).same eb).same ec
  refine ⟨wl, Lo, _, rfl, sC.well, upd_same, (((s16.same ea).same eb).well.ne hLo).1, by show 1 ≤ 5; decide, by show 5 ≤ 1000; decide, fun vo H17 hvo D17 => ?_⟩
  have s17 := sC.drawn z D17
  have xx17 := (((xx16.ex ea).ex eb).ex ec).drawn D17
  have DD := (((D16.ex ea).ex eb).ex ec).drawn sC.well c5 D17
  have h5 : H17 p5 = some (.lst [.int 5]) := D17.keep _ _ (s16.well.ne hp5).1 (ec _ _ (eb _ _ upd_same))
  have hd : H17 pd = some (.dK []) := D17.keep _ _ ((s16.same ea).well.ne hpd).1 (ec _ _ upd_same)
  obtain ⟨uo, oo, bo, io⟩ : ∃ uo, (∀ H', ExtN H17 H' → Od H' vo uo) ∧ brd uo ∧ itU uo = false := by
    simp only [List.mem_cons, List.not_mem_nil, or_false] at hvo
    rcases hvo with rfl | rfl | rfl | rfl | rfl
    · exact ⟨.lst [], fun H' e => .lst (e _ _ h5 fun _ q => by cases q), by simp only [brd], rfl⟩
    · exact ⟨.non, fun H' e => .non, by simp only [brd], rfl⟩
    · exact ⟨.int 5, fun H' e => .int 5, by simp only [brd], rfl⟩
    · exact ⟨.str "items", fun H' e => .str _, brdS (by decide +kernel), rfl⟩
    · exact ⟨.dct [], fun H' e => .dct (e _ _ hd fun _ q => by cases q), by simp only [brd], rfl⟩
  dsimp only [gName]
  show tSeq (tDrop _) _ _ [x0, some (.ref wl.w), some M.dv, some (.ref M.d.p), some (.ref M.la), some (.bl (stA M.ar).isSome), some (.ref M.lk), some (.ref M.lt), some (.ref M.lm), some (.ref M.li), x10, some (.str (dueN (thB 28 u4) (mostU u3) (stA M.ar).isSome)), some (.ref Lw), some (.ref d5.p), some xi, some xk, some vm, some xm, some vo, some xt] H17
  refine ap_word rfl s17 xx17 (by decide) (fun _ => True) (fun H H' e D => trivial) (fun H ws D => trivial) (fun Q hq => rd_odd (tc := tVar 13) (ti := tVar 18) (tm := tVar 17) (s17.put xx17.h) (zx 8) c5.re DD oo bo io (p3.ex (Zx 8)) (fun H => ev_var rfl) (fun H => ev_var rfl) (fun H => ev_var rfl) fun H' s' => hq H' s' trivial) (fun H' s' => ev_c) fun H18 s18 xx18 _ => ?_
  have et1 : EvT (tTest (tOp (rIn K false) (tC (.bl false)) (tVar 12))) [x0, some (.ref wl.w), some M.dv, some (.ref M.d.p), some (.ref M.la), some (.bl (stA M.ar).isSome), some (.ref M.lk), some (.ref M.lt), some (.ref M.lm), some (.ref M.li), x10, some (.str (dueN (thB 28 u4) (mostU u3) (stA M.ar).isSome)), some (.ref Lw), some (.ref d5.p), some xi, some xk, some vm, some xm, some vo, some xt] H18 false :=
    et_test fun H1 e Q q => ⟨_, rfl, Lw, _, rfl, .inl (SqL.of (e _ _ xx18.h)), rfl, rfl, q H1 (Ex.refl H1)⟩
  refine s_if (b := false || false) (et_or (a := false) et1 fun _ => et_test fun H1 e Q q => (el_areas (i := 3) rfl (M.D.ex s18.ex)) H1 e _ fun p H2 hp e2 h2 => ⟨_, rfl, ne_strs h2 (e2 _ _ (e _ _ (s18.ex _ _ M.a))) M.D.r.ln (q H2 e2)⟩) (fun q => by cases q) (fun _ H19 e19 => s_next ?_)
  exact fin _ _ ⟨_, _, _, _, _, _, _, _, _, _, _, rfl, s18.same e19⟩
end
end Ht
/-! k34: the law, its statements -/
namespace Ht
open PySem PySem.Spec PyProof.Rows L2 Hu Evl
open LamX (ExtN Tabs TabS CodeO tLam)
/-- what the law's begin reaches -/
structure Ty (P : Program) (w : World) (K : PySem.W.Frag) (mg : Str → Option Value) (base : Heap) (C : Addr) : Prop where
  hd : ∃ f d, Df K mg "_law_hand" sHand ["script"] f d ∧ FnOk P w K mg base CX0 1 f d ["script"] (spHand K)
  de : ∃ f d, Df K mg "_law_deep" lDeep ["hand"] f d ∧ FnOk P w K mg base CX0 2 f d ["hand"] spDeep
  ne : ∃ f d, Df K mg "_law_nested" sNested ["hand", "many"] f d ∧ FnOk P w K mg base CX0 3 f d ["hand", "many"] (spNested C)
  ini : ∃ f d, Mk K C f ∧ Binds K d ["self"] [] ∧ FnOk P w K mg base CX0 1 f d ["self"] (spInit C)
  op : ∃ f d, Df K mg "opened" sOpened ["disk"] f d ∧ FnOk P w K mg base CX0 71 f d ["disk"] (spOp C)
  no : ∃ f d, Df K mg "noted" sNoted ["disk", "item", "most"] f d ∧ FnOk P w K mg base CX0 71 f d ["disk", "item", "most"] (spNo C)
  th : ∃ f d, Df K mg "_law_thing" sThing ["hand", "deep"] f d ∧ FnOk P w K mg base CX0 6 f d ["hand", "deep"] (spThing 0 2)
section
variable {P : Program} {w : World} {K : PySem.W.Frag} {mg : Str → Option Value} {base : Heap} {C CA CT CN CI CS CH c Pt fD : Addr} {dD : FuncData}
theorem law_pss (x : Tx P w K mg base C CA CT CN CI CS CH c Pt) (y : Ty P w K mg base C) (DD : Dd P w K mg base fD dD) {fa : Addr} {A : Around} {outer : List Env} {s : Shared} {H0 : Hp} {E0' : XK} (hr : Room 73 (A.deeper (envOfC "law" (defScope lLaw) s.heap.objs.size fa (.ref c)))) :
    ∃ t, PSs (cxOf CX0 P w K mg base NL "law" (defScope lLaw) fa (.ref c) A outer s H0 E0').nox (defBody lLaw) t ∧ True := by
  obtain ⟨tt, ht, hq⟩ := turn_pss x (E0' := E0') (outer := outer) (H0 := H0) hr
  obtain ⟨B, T, R, TB, ⟨fr, dr, Dr⟩, ⟨fy, dy, Dy, Gy⟩, ⟨ff, df, Df', Gf⟩, ⟨fo, do', Do, Go⟩, ⟨fc, dc, Mc, Gc⟩, ⟨fa', da, Ma, Ga, GaX⟩, _, _, _, _, _, _, _⟩ := x
  obtain ⟨⟨fh, dh, Dh, Gh⟩, ⟨fd, dd, Dd', Gd⟩, ⟨fne, dne, Dne, Gne⟩, ⟨fi, di, Mi, bi, Gi⟩, ⟨fo2, do2, Do2, Go2⟩, ⟨fn, dn, Dn, Gn⟩, ⟨fT, dT, DT, GT⟩⟩ := y
  refine ⟨_, (pss_cons (ps_set (i := 1) scLaw.nd rfl (.inl rfl) (pe_call Gh (hr.mono (by decide)) (by rfl) Dh.g Dh.F.kp Dh.b .nil pass0 (pa_cons (pv 0) pa_nil)))
    (pss_cons (ps_set (i := 2) scLaw.nd rfl (.inl rfl) (pe_call Gd (hr.mono (by decide)) (by rfl) Dd'.g Dd'.F.kp Dd'.b .nil pass0 (pa_cons (pv 1) pa_nil)))
    (pss_cons (ps_set (i := 3) scLaw.nd rfl (.inl rfl) (pe_make0 Mi Gi (hr.mono (by decide)) rfl T.g bi .nil pass0))
    (Evl.pss_cut (ps_if (pt_cmpR op_gt (pe_draw DD hr (by decide) (by rfl) (pv 1) pe_int) pe_int (nomark _)) (pss_cons (ps_expr (pe_call Go2 (hr.mono (by decide)) (by rfl) Do2.g Do2.F.kp Do2.b .nil pass0 (pa_cons (pv 3) pa_nil))) (pss_one (ps_expr (pe_call Gn (hr.mono (by decide)) (by rfl) Dn.g Dn.F.kp Dn.b .nil pass0 (pa_cons (pv 3) (pa_cons (pe_call GT (hr.mono (by decide)) (by rfl) DT.g DT.F.kp DT.b .nil pass0 (pa_cons (pv 1) (pa_cons pe_int pa_nil))) (pa_cons pe_non pa_nil))))))) pss_nil)
    (pss_cons (ps_set (i := 4) scLaw.nd rfl (.inl rfl) (pe_lst (pa_cons (pe_meth (pv 3) T.cl Ma.m Ga (hr.mono (by decide)) Ma.b .nil pass0 (pa_cons pe_int pa_nil)) (pa_cons (pe_meth (pv 3) T.cl Ma.m Ga (hr.mono (by decide)) Ma.b .nil pass0 (pa_cons pe_int pa_nil)) pa_nil))))
    (pss_cons (ps_set (i := 5) scLaw.nd rfl (.inl rfl) (pe_cmpR op_ne (pe_ix ix_list (pv 4) pe_int (fun _ _ => rfl)) pe_str (nomark _)))
    (pss_cons (ps_set (i := 6) scLaw.nd rfl (.inl rfl) (pe_lst (pa_cons (pe_tup (pa_cons pe_int (pa_cons pe_bl pa_nil))) (pa_cons (pe_tup (pa_cons pe_int (pa_cons pe_bl pa_nil))) (pa_cons (pe_tup (pa_cons pe_int (pa_cons pe_bl pa_nil))) (pa_cons (pe_tup (pa_cons (pe_un un_neg pe_int) (pa_cons pe_bl pa_nil))) (pa_cons (pe_tup (pa_cons pe_bl (pa_cons pe_bl pa_nil))) (pa_cons (pe_tup (pa_cons pe_non (pa_cons pe_bl pa_nil))) (pa_cons (pe_tup (pa_cons pe_str (pa_cons pe_bl pa_nil))) (pa_cons (pe_tup (pa_cons (pv 2) (pa_cons pe_bl pa_nil))) pa_nil))))))))))
    (pss_cons (ps_set (i := 7) scLaw.nd rfl (.inl rfl) (pe_lst (pa_cons (pe_tup (pa_cons pe_str (pa_cons pe_bl pa_nil))) (pa_cons (pe_tup (pa_cons pe_str (pa_cons pe_bl pa_nil))) (pa_cons (pe_tup (pa_cons pe_str (pa_cons pe_bl pa_nil))) (pa_cons (pe_tup (pa_cons (pe_tup (pa_cons pe_str pa_nil)) (pa_cons pe_bl pa_nil))) (pa_cons (pe_tup (pa_cons pe_dnewK (pa_cons pe_bl pa_nil))) (pa_cons (pe_tup (pa_cons pe_non (pa_cons pe_bl pa_nil))) (pa_cons (pe_tup (pa_cons pe_int (pa_cons pe_bl pa_nil))) pa_nil)))))))))
    (pss_cons (ps_expr (pe_bm PySem.F.plainAttrs_list PySem.F.slot_list_extend PySem.F.type_list_extend mt_extend (pv 7) (pa_cons (pe_lst (pa_cons (pe_tup (pa_cons (pe_lst (pa_cons pe_str pa_nil)) (pa_cons pe_bl pa_nil))) (pa_cons (pe_tup (pa_cons (pv 2) (pa_cons pe_bl pa_nil))) pa_nil))) pa_nil)))
    (pss_cons (ps_set (i := 8) scLaw.nd rfl (.inl rfl) (pe_lst (pa_cons (pe_tup (pa_cons pe_non (pa_cons pe_bl pa_nil))) (pa_cons (pe_tup (pa_cons pe_int (pa_cons pe_bl pa_nil))) (pa_cons (pe_tup (pa_cons (pe_op op_pow pe_int pe_int) (pa_cons pe_bl pa_nil))) (pa_cons (pe_tup (pa_cons (pe_un un_neg pe_int) (pa_cons pe_bl pa_nil))) (pa_cons (pe_tup (pa_cons pe_bl (pa_cons pe_bl pa_nil))) (pa_cons (pe_tup (pa_cons pe_str (pa_cons pe_bl pa_nil))) (pa_cons (pe_tup (pa_cons (pe_tup (pa_cons pe_int pa_nil)) (pa_cons pe_bl pa_nil))) pa_nil)))))))))
    (pss_cons (ps_expr (pe_bm PySem.F.plainAttrs_list PySem.F.slot_list_append PySem.F.type_list_append mt_append (pv 8) (pa_cons (pe_tup (pa_cons (pv 2) (pa_cons pe_bl pa_nil))) pa_nil)))
    (pss_cons (ps_set (i := 9) scLaw.nd rfl (.inl rfl) (pe_lst (pa_cons (pe_tup (pa_cons pe_int (pa_cons pe_bl pa_nil))) (pa_cons (pe_tup (pa_cons pe_non (pa_cons pe_bl pa_nil))) (pa_cons (pe_tup (pa_cons (pe_tup pa_nil) (pa_cons pe_bl pa_nil))) (pa_cons (pe_tup (pa_cons (pe_tup (pa_cons pe_str (pa_cons (pe_tup (pa_cons pe_int pa_nil)) pa_nil))) (pa_cons pe_bl pa_nil))) (pa_cons (pe_tup (pa_cons pe_bl (pa_cons pe_bl pa_nil))) (pa_cons (pe_tup (pa_cons (pe_lst pa_nil) (pa_cons pe_bl pa_nil))) (pa_cons (pe_tup (pa_cons pe_dnewK (pa_cons pe_bl pa_nil))) pa_nil)))))))))
    (Evl.pss_cut (ps_expr (pe_bm PySem.F.plainAttrs_list PySem.F.slot_list_extend PySem.F.type_list_extend mt_extend (pv 9) (pa_cons (pe_lst (pa_cons (pe_tup (pa_cons (pe_tup (pa_cons pe_str (pa_cons pe_bl pa_nil))) (pa_cons pe_bl pa_nil))) (pa_cons (pe_tup (pa_cons pe_str (pa_cons pe_bl pa_nil))) (pa_cons (pe_tup (pa_cons (pe_call Gne (hr.mono (by decide)) (by rfl) Dne.g Dne.F.kp Dne.b .nil pass0 (pa_cons (pv 1) (pa_cons pe_int pa_nil))) (pa_cons pe_bl pa_nil))) (pa_cons (pe_tup (pa_cons (pe_call Gne (hr.mono (by decide)) (by rfl) Dne.g Dne.F.kp Dne.b .nil pass0 (pa_cons (pv 1) (pa_cons pe_int pa_nil))) (pa_cons pe_bl pa_nil))) pa_nil))))) pa_nil)))
    (pss_cons (ps_for PassesOwn.never rfl (pi_range1 (by rfl) B.range (pa_cons pe_int pa_nil)) (pg_name (i := 10) scLaw.nd rfl (Or.inl rfl)) ht)
    (pss_one (ps_ret pe_bl)))))))))))))))), trivial⟩
end
end Ht
/-! k34: menus of pairs, as they are made -/
namespace Ht
open PySem PySem.Spec PyProof.Rows L2 Hu Evl
/-- a value made on the way, of which R is known -/
def EvR (te : TE) (σ : L2.St) (H : Hp) (R : Hp → V → Prop) : Prop := ∀ H1, Ex H H1 → ∀ Q : VK, (∀ x H2, Ex H1 H2 → R H2 x → Q x H2) → te σ H1 Q
def EvRs (ta : TA) (σ : L2.St) (H : Hp) (n : Nat) (R : Hp → V → Prop) : Prop := ∀ H1, Ex H H1 → ∀ Q : List V → Hp → Prop, (∀ xs H2, Ex H1 H2 → xs.length = n → (∀ x ∈ xs, R H2 x) → Q xs H2) → ta σ H1 Q
/-- what stays true -/
def Mono (R : Hp → V → Prop) : Prop := ∀ H H' x, Ex H H' → R H x → R H' x
section
variable {σ : L2.St} {H : Hp} {te ti : TE} {ta : TA} {n : Nat} {R : Hp → V → Prop}
theorem ers_nil : EvRs tNil σ H 0 R := fun H1 e Q q => q [] H1 (Ex.refl H1) rfl fun x hx => by cases hx
theorem ers_cons (m : Mono R) (h : EvR te σ H R) (t : EvRs ta σ H n R) : EvRs (tCons te ta) σ H (n + 1) R := fun H1 e Q q =>
  h H1 e _ fun x H2 e2 rx => t H2 (e.trans e2) _ fun xs H3 e3 l hx => q (x :: xs) H3 (e2.trans e3) (by rw [List.length_cons, l]) fun y hy => by
    rcases List.mem_cons.mp hy with rfl | hy
    · exact m _ _ _ e3 rx
    · exact hx y hy
theorem er_ev {v : V} (h : Ev te σ H v) (r : ∀ H1, Ex H H1 → R H1 v) : EvR te σ H R := fun H1 e Q q => h H1 e _ fun H2 e2 => q v H2 e2 (r H2 (e.trans e2))
/-- a heap without some places -/
def dl (S : List Addr) (H : Hp) : Hp := fun b => if b ∈ S then none else H b
theorem dl_at {S : List Addr} {H : Hp} {b : Addr} (h : b ∉ S) : dl S H b = H b := if_neg h
theorem dl_some {S : List Addr} {H : Hp} {b : Addr} {o : HO} (h : dl S H b = some o) : b ∉ S ∧ H b = some o := by
  unfold dl at h
  by_cases e : b ∈ S
  · rw [if_pos e] at h
    cases h
  · rw [if_neg e] at h
    exact ⟨e, h⟩
theorem dl_mono {S : List Addr} {H H' : Hp} (e : Ex H H') : Ex (dl S H) (dl S H') := fun b o h => by
  obtain ⟨n, h⟩ := dl_some h
  rw [dl_at n]
  exact e b o h
theorem dl_keep {S : List Addr} {w : Addr} {H H' : Hp} (k : Keep w H H') (hw : w ∈ S) : Ex (dl S H) (dl S H') := fun b o h => by
  obtain ⟨n, h⟩ := dl_some h
  rw [dl_at n]
  exact k b o (fun e => n (e ▸ hw)) h
/-- a place more that isn't looked at may change -/
theorem dl_upd {S : List Addr} {L : Addr} {H : Hp} {o : HO} : Ex (dl (L :: S) H) (dl S (upd H L o)) := fun b x h => by
  obtain ⟨n, h⟩ := dl_some h
  rw [dl_at (fun q => n (List.mem_cons_of_mem _ q)), upd_ne (fun e => n (by rw [e]; exact List.mem_cons_self ..))]
  exact h
/-- places that are known -/
def Kn (S : List Addr) (H : Hp) : Prop := ∀ b ∈ S, ∃ o, H b = some o
theorem Kn.ex {S : List Addr} {H H' : Hp} (k : Kn S H) (e : Ex H H') : Kn S H' := fun b hb => (k b hb).elim fun o h => ⟨o, e _ _ h⟩
theorem Kn.new {S : List Addr} {H : Hp} (k : Kn S H) {p : Addr} (h : H p = none) : p ∉ S := fun q => by
  obtain ⟨o, e⟩ := k p q
  rw [h] at e
  cases e
/-- a value of the menu g: seen from all but some places -/
def ValW (S : List Addr) (g : U → Bool) (X : U → Prop) (b : Bool) (H : Hp) (v : V) : Prop := ∃ u, Od (dl S H) v u ∧ brd u ∧ g u = b ∧ X u
def PairW (S : List Addr) (g : U → Bool) (X : U → Prop) (H : Hp) (x : V) : Prop := ∃ v u, PairZ g (dl S H) x v u ∧ X u
variable {S : List Addr} {g : U → Bool} {X : U → Prop} {b : Bool}
theorem pairW_mono : Mono (PairW S g X) := fun H H' x e ⟨v, u, p, hx⟩ => ⟨v, u, p.ex (dl_mono e), hx⟩
theorem valW_mono : Mono (ValW S g X b) := fun H H' x e ⟨u, o, b, h, hx⟩ => ⟨u, o.ex (dl_mono e), b, h, hx⟩
theorem er_pair (hw : Kn S H) (h : EvR te σ H (ValW S g X b)) : EvR (tTup (tCons te (tCons (tC (.bl b)) tNil))) σ H (PairW S g X) := fun H1 e Q q =>
  h H1 e _ fun v H2 e2 ⟨u, o, bu, hg, hx⟩ => ⟨sz_of (by show (2 : Nat) ≤ 100000; decide), fun p hp => q (.ref p) _ (e2.trans (Ex.new hp)) ⟨v, u, ⟨p, rfl, by
    rw [dl_at ((hw.ex (e.trans e2)).new hp), upd_same, hg], o.ex (dl_mono (Ex.new hp)), bu⟩, hx⟩⟩
/-- plain values -/
theorem ev_val {v : V} {u : U} (h : Ev te σ H v) (o : ∀ H, Od H v u) (bu : brd u) (hg : g u = b) (hx : X u) : EvR te σ H (ValW S g X b) := er_ev h fun H1 _ => ⟨u, o _, bu, hg, hx⟩
theorem val_lst (hw : Kn S H) {ys : List V} (h : EvA ta σ H ys) (hl : ys.length ≤ 100000) (hg : g (.lst []) = b) (hx : X (.lst [])) : EvR (tLst ta) σ H (ValW S g X b) := fun H1 e Q q =>
  (el_lst h hl) H1 e _ fun p H2 hp e2 h2 => q (.ref p) H2 e2 ⟨.lst [], .lst (by
    rw [dl_at ((hw.ex e).new hp)]
    exact h2), by simp only [brd], hg, hx⟩
theorem val_dct (hw : Kn S H) (hg : g (.dct []) = b) (hx : X (.dct [])) : EvR tDNewK σ H (ValW S g X b) := fun H1 e Q q p hp => q (.ref p) _ (Ex.new hp) ⟨.dct [], .dct (by
    rw [dl_at ((hw.ex e).new hp)]
    exact upd_same), by simp only [brd], hg, hx⟩
/-- a tuple of plain values -/
theorem val_tup (hw : Kn S H) {ys : List V} {us : List U} (h : EvA ta σ H ys) (o : ∀ H, OdL H ys us) (hl : ys.length ≤ 100000) (bu : brd (.tup us)) (hg : g (.tup us) = b) (hx : X (.tup us)) : EvR (tTup ta) σ H (ValW S g X b) := fun H1 e Q q =>
  (eu_tup h hl) H1 e _ fun p H2 hp e2 h2 => q (.ref p) H2 e2 ⟨.tup us, .tup (by
    rw [dl_at ((hw.ex e).new hp)]
    exact h2) (o _), bu, hg, hx⟩
end
section
variable {K : PySem.W.Frag} {σ : L2.St} {H : Hp} {te : TE} {ta : TA} {n i : Nat} {R : Hp → V → Prop} {tz : TS} {D : Ends} {L : Addr} {xs : List V}
/-- name = [..] -/
theorem q_menu (h : EvRs ta σ H n R) (hn : n ≤ 100000) (k : ∀ L xs Hm, Ex H Hm → Hm L = none → xs.length = n → (∀ x ∈ xs, R Hm x) → tz D (σ.set i (some (.ref L))) (upd Hm L (.lst xs))) : tSeq (tAsg (tLst ta) (gName i)) tz D σ H :=
  h H (Ex.refl H) _ fun xs Hm e l hx => ⟨sz_of (by omega), fun L hL => k L xs Hm e hL l hx⟩
/-- name.extend([..]) -/
theorem q_extM (hi : σ[i]? = some (some (.ref L))) (hL : H L = some (.lst xs)) (hx : xs.length ≤ 100000) (m : Mono R) (h : EvRs ta σ H n R) (hn : n ≤ 100000) (k : ∀ ys H', Ex H H' → ys.length = n → (∀ y ∈ ys, R H' y) → tz D σ (upd H' L (.lst (xs ++ ys)))) :
    tSeq (tDrop (tBM K "list" rExtend (tVar i) (tCons (tLst ta) tNil))) tz D σ H :=
  ⟨_, hi, .inl ⟨rfl, _, SqL.of hL⟩, h H (Ex.refl H) _ fun ys H' e l hy => ⟨sz_of (by omega), fun p hp => ⟨L, p, xs, ys, rfl, rfl, (Ex.new hp) _ _ (e _ _ hL), upd_same, Nat.le_trans (Nat.add_le_add hx (show ys.length ≤ 100000 by omega)) (by decide), k ys _ (e.trans (Ex.new hp)) l fun y q => m _ _ _ (Ex.new hp) (hy y q)⟩⟩⟩
/-- name.append(..) -/
theorem q_appM (hi : σ[i]? = some (some (.ref L))) (hL : H L = some (.lst xs)) (hx : xs.length ≤ 100000) (h : EvR te σ H R) (k : ∀ y H', Ex H H' → R H' y → tz D σ (upd H' L (.lst (xs ++ [y])))) :
    tSeq (tDrop (tBM K "list" rAppend (tVar i) (tCons te tNil))) tz D σ H :=
  ⟨_, hi, .inl ⟨rfl, _, SqL.of hL⟩, h H (Ex.refl H) _ fun y H' e hy => ⟨L, xs, y, rfl, rfl, e _ _ hL, Nat.lt_of_le_of_lt hx (by decide), k y H' e hy⟩⟩
end
end Ht
/-! k34: the law, its statements -/
namespace Ht
open PySem PySem.Spec PyProof.Rows L2 Hu Evl
open LamX (ExtN Tabs TabS CodeO tLam)
section
variable {P : Program} {w : World} {K : PySem.W.Frag} {mg : Str → Option Value} {base : Heap} {C CA CT CN CI CS CH c Pt fD : Addr} {dD : FuncData}
theorem Sg.upl {Z H : Hp} {wl : WA} {T : List (Addr × Str)} {L : Addr} {ws ws' : List V} (s : Sg Z wl T H) (z : Z L = none) (w : L ≠ wl.w ∧ L ≠ wl.c) (h : H L = some (.lst ws)) : Sg Z wl T (upd H L (.lst ws')) := by
  obtain ⟨cells, pos, rest, mix, cnt, h1, h2, nn, l⟩ := s.well.ex
  refine ⟨Ex.mut s.ex z, ⟨cells, pos, rest, mix, cnt, by rw [upd_ne w.1.symm]; exact h1, by rw [upd_ne w.2.symm]; exact h2, nn, l⟩, tabs_but (S := fun b => b = L) s.tabs (fun b o q e => ?_) fun b o q e => by rw [upd_ne q]; exact e⟩
  rw [q, h] at e
  exact ⟨_, (Option.some.inj e).symm⟩
theorem kn_two {L w : Addr} {H : Hp} {o : HO} (h : H L = some o) (k : Kn [w] H) : Kn [L, w] H := fun b hb => by
  rcases List.mem_cons.mp hb with e | hb
  · rw [e]
    exact ⟨_, h⟩
  · exact k b hb
theorem val_nest {S : List Addr} {σ : L2.St} {H : Hp} {g : U → Bool} {X : U → Prop} {b : Bool} (hw : Kn S H) (hg : g (.tup [.str "a", .tup [.int 3]]) = b) (hx : X (.tup [.str "a", .tup [.int 3]])) :
    EvR (tTup (tCons (tC (.str "a")) (tCons (tTup (tCons (tC (.int 3)) tNil)) tNil))) σ H (ValW S g X b) := fun H1 e Q q =>
  ⟨sz_of (by show (1 : Nat) ≤ 100000; decide), fun p hp => ⟨sz_of (by show (2 : Nat) ≤ 100000; decide), fun p2 hp2 => q (.ref p2) _ ((Ex.new hp).trans (Ex.new hp2)) ⟨_, .tup (xs := [.str "a", .ref p]) (by
    rw [dl_at (((hw.ex e).ex (Ex.new hp)).new hp2), upd_same]) (.cons (.str _) (.cons (.tup (xs := [.int 3]) (by
      rw [dl_at ((hw.ex e).new hp)]
      exact (Ex.new hp2) _ _ upd_same) (.cons (.int _) .nil)) .nil)), by simp only [brd, brdL]; exact ⟨by decide, by decide +kernel, ⟨by decide, trivial, trivial⟩, trivial⟩, hg, hx⟩⟩⟩
theorem cons_lst {σ : L2.St} {H : Hp} {te : TE} {ta : TA} {F : List V → Hp → Prop} (h : te σ H fun x H1 => ta σ H1 fun xs H2 => (x :: xs).length ≤ sizeLine ∧ ∀ p, H2 p = none → F [.ref p] (upd H2 p (.lst (x :: xs)))) : tCons (tLst (tCons te ta)) tNil σ H F := h
theorem cons_one {σ : L2.St} {H : Hp} {te : TE} {ta : TA} {Q : List V → Hp → Prop} (h : te σ H fun x H1 => ta σ H1 fun xs H2 => Q (x :: xs) H2) : tCons te ta σ H Q := h
theorem g0_text : genT text0 = some 0 := by decide +kernel
theorem l0_text : text0.length ≤ 100 := by decide +kernel
/-- the areas of a disk at the loop's begin -/
structure GdA (ar : List Str) : Prop where
  z : ∀ a ∈ ar, a.length ≤ 80000
  g : ∀ a ∈ ar, ∀ g, genT a = some g → g < 10 ^ 19
  s : (!decide (V.str (ar.getD 0 "") = V.str "")) = (stA ar).isSome
theorem gd0 : GdA ["", ""] := by
  have e : genT "" = none := rfl
  refine ⟨fun a ha => ?_, fun a ha g hg => ?_, ?_⟩
  · simp only [List.mem_cons, List.not_mem_nil, or_false, or_self] at ha
    rw [ha]
    decide
  · simp only [List.mem_cons, List.not_mem_nil, or_false, or_self] at ha
    rw [ha, e] at hg
    cases hg
  · show (!decide (V.str "" = V.str "")) = _
    rw [decide_eq_true rfl]
    rfl
theorem st_one (b : Str) : stA [text0 ++ b, ""] = some 0 := by
  show stN (genT (text0 ++ b)) (genT "") = some 0
  rw [genT_app g0_text]
  rfl
theorem gd1 {b : Str} (hb : b.length ≤ 1000) : GdA [text0 ++ b, ""] := by
  have e : genT "" = none := rfl
  have l0 := l0_text
  refine ⟨fun a ha => ?_, fun a ha g hg => ?_, ?_⟩
  · simp only [List.mem_cons, List.not_mem_nil, or_false] at ha
    rcases ha with rfl | rfl
    · rw [app_len]
      omega
    · decide
  · simp only [List.mem_cons, List.not_mem_nil, or_false] at ha
    rcases ha with rfl | rfl
    · rw [genT_app g0_text] at hg
      cases hg
      decide
    · rw [e] at hg
      cases hg
  · rw [st_one]
    have n : ¬ (V.str (text0 ++ b) = V.str "") := fun q => by
      have q : (text0 ++ b).length = 0 := by rw [V.str.inj q]; rfl
      rw [app_len] at q
      have : 1 ≤ text0.length := by decide +kernel
      omega
    show (!decide (V.str (text0 ++ b) = V.str "")) = true
    rw [decide_eq_false n]
    rfl
mutual
theorem Od.exN {H H' : Hp} (k : ExtN H H') : ∀ {u : U} {v : V}, Od H v u → Od H' v u
  | _, _, .non => .non
  | _, _, .bl b => .bl b
  | _, _, .int i => .int i
  | _, _, .str z => .str z
  | _, _, .tup h l => .tup (k _ _ h fun _ q => by cases q) (OdL.exN k l)
  | _, _, .lst h => .lst (k _ _ h fun _ q => by cases q)
  | _, _, .dct h => .dct (k _ _ h fun _ q => by cases q)
theorem OdL.exN {H H' : Hp} (k : ExtN H H') : ∀ {us : List U} {vs : List V}, OdL H vs us → OdL H' vs us
  | _, _, .nil => .nil
  | _, _, .cons x l => .cons (Od.exN k x) (OdL.exN k l)
end
/-- a heap without the hand's list and the tables -/
def stl (w : Addr) (H : Hp) : Hp := fun b => if b = w then none else match H b with
  | some (.tbl _) => none
  | o => o
theorem stl_of {w b : Addr} {H : Hp} {o : HO} (h : stl w H b = some o) : b ≠ w ∧ H b = some o ∧ ∀ ps, o ≠ .tbl ps := by
  unfold stl at h
  by_cases e : b = w
  · rw [if_pos e] at h
    cases h
  · rw [if_neg e] at h
    cases hb : H b with
    | none => rw [hb] at h; cases h
    | some x =>
      rw [hb] at h
      cases x <;> first | (cases h; done) | exact ⟨e, h, fun ps q => by cases h; cases q⟩
theorem stl_mk {w b : Addr} {H : Hp} {o : HO} (n : b ≠ w) (h : H b = some o) (t : ∀ ps, o ≠ .tbl ps) : stl w H b = some o := by
  unfold stl
  rw [if_neg n, h]
  cases o <;> first | rfl | exact absurd rfl (t _)
theorem stl_zo {wl : WA} {H : Hp} : Zo (stl wl.w H) wl := ⟨by unfold stl; rw [if_pos rfl], fun b ps h => (stl_of h).2.2 ps rfl⟩
theorem stl_ex {w : Addr} {H : Hp} : Ex (stl w H) H := fun b o h => (stl_of h).2.1
theorem stl_od {w : Addr} {H : Hp} {v : V} {u : U} (o : Od (del H w) v u) : Od (stl w H) v u := o.exN fun b x h t => by
  by_cases e : b = w
  · rw [e, del_same] at h
    cases h
  · rw [del_ne e] at h
    exact stl_mk e h t
theorem law_read (x : Tx P w K mg base C CA CT CN CI CS CH c Pt) (y : Ty P w K mg base C) (DD : Dd P w K mg base fD dD) {fa : Addr} {A : Around} {outer : List Env} {s : Shared} {H0 : Hp} {E0' : XK} (hr : Room 73 (A.deeper (envOfC "law" (defScope lLaw) s.heap.objs.size fa (.ref c)))) :
    ∃ t, PSs (cxOf CX0 P w K mg base NL "law" (defScope lLaw) fa (.ref c) A outer s H0 E0').nox (defBody lLaw) t ∧
      ∀ (D : Ends) (a : Addr) (ns : List Int) (H : Hp), SqL K H a (ns.map V.int) → H Pt = some (.tbl #[]) → (∀ H', D.rt (.bl true) H') → t D (start NL [.ref a]) H := by
  obtain ⟨tt, ht, hq⟩ := turn_pss x (E0' := E0') (outer := outer) (H0 := H0) hr
  obtain ⟨B, T, R, TB, ⟨fr, dr, Dr⟩, ⟨fy, dy, Dy, Gy⟩, ⟨ff, df, Df', Gf⟩, ⟨fo, do', Do, Go⟩, ⟨fc, dc, Mc, Gc⟩, ⟨fa', da, Ma, Ga, GaX⟩, _, _, _, _, _, _, _⟩ := x
  obtain ⟨⟨fh, dh, Dh, Gh⟩, ⟨fd, dd, Dd', Gd⟩, ⟨fne, dne, Dne, Gne⟩, ⟨fi, di, Mi, bi, Gi⟩, ⟨fo2, do2, Do2, Go2⟩, ⟨fn, dn, Dn, Gn⟩, ⟨fT, dT, DT, GT⟩⟩ := y
  refine ⟨_, (pss_cons (ps_set (i := 1) scLaw.nd rfl (.inl rfl) (pe_call Gh (hr.mono (by decide)) (by rfl) Dh.g Dh.F.kp Dh.b .nil pass0 (pa_cons (pv 0) pa_nil)))
    (pss_cons (ps_set (i := 2) scLaw.nd rfl (.inl rfl) (pe_call Gd (hr.mono (by decide)) (by rfl) Dd'.g Dd'.F.kp Dd'.b .nil pass0 (pa_cons (pv 1) pa_nil)))
    (pss_cons (ps_set (i := 3) scLaw.nd rfl (.inl rfl) (pe_make0 Mi Gi (hr.mono (by decide)) rfl T.g bi .nil pass0))
    (Evl.pss_cut (ps_if (pt_cmpR op_gt (pe_draw DD hr (by decide) (by rfl) (pv 1) pe_int) pe_int (nomark _)) (pss_cons (ps_expr (pe_call Go2 (hr.mono (by decide)) (by rfl) Do2.g Do2.F.kp Do2.b .nil pass0 (pa_cons (pv 3) pa_nil))) (pss_one (ps_expr (pe_call Gn (hr.mono (by decide)) (by rfl) Dn.g Dn.F.kp Dn.b .nil pass0 (pa_cons (pv 3) (pa_cons (pe_call GT (hr.mono (by decide)) (by rfl) DT.g DT.F.kp DT.b .nil pass0 (pa_cons (pv 1) (pa_cons pe_int pa_nil))) (pa_cons pe_non pa_nil))))))) pss_nil)
    (pss_cons (ps_set (i := 4) scLaw.nd rfl (.inl rfl) (pe_lst (pa_cons (pe_meth (pv 3) T.cl Ma.m Ga (hr.mono (by decide)) Ma.b .nil pass0 (pa_cons pe_int pa_nil)) (pa_cons (pe_meth (pv 3) T.cl Ma.m Ga (hr.mono (by decide)) Ma.b .nil pass0 (pa_cons pe_int pa_nil)) pa_nil))))
    (pss_cons (ps_set (i := 5) scLaw.nd rfl (.inl rfl) (pe_cmpR op_ne (pe_ix ix_list (pv 4) pe_int (fun _ _ => rfl)) pe_str (nomark _)))
    (pss_cons (ps_set (i := 6) scLaw.nd rfl (.inl rfl) (pe_lst (pa_cons (pe_tup (pa_cons pe_int (pa_cons pe_bl pa_nil))) (pa_cons (pe_tup (pa_cons pe_int (pa_cons pe_bl pa_nil))) (pa_cons (pe_tup (pa_cons pe_int (pa_cons pe_bl pa_nil))) (pa_cons (pe_tup (pa_cons (pe_un un_neg pe_int) (pa_cons pe_bl pa_nil))) (pa_cons (pe_tup (pa_cons pe_bl (pa_cons pe_bl pa_nil))) (pa_cons (pe_tup (pa_cons pe_non (pa_cons pe_bl pa_nil))) (pa_cons (pe_tup (pa_cons pe_str (pa_cons pe_bl pa_nil))) (pa_cons (pe_tup (pa_cons (pv 2) (pa_cons pe_bl pa_nil))) pa_nil))))))))))
    (pss_cons (ps_set (i := 7) scLaw.nd rfl (.inl rfl) (pe_lst (pa_cons (pe_tup (pa_cons pe_str (pa_cons pe_bl pa_nil))) (pa_cons (pe_tup (pa_cons pe_str (pa_cons pe_bl pa_nil))) (pa_cons (pe_tup (pa_cons pe_str (pa_cons pe_bl pa_nil))) (pa_cons (pe_tup (pa_cons (pe_tup (pa_cons pe_str pa_nil)) (pa_cons pe_bl pa_nil))) (pa_cons (pe_tup (pa_cons pe_dnewK (pa_cons pe_bl pa_nil))) (pa_cons (pe_tup (pa_cons pe_non (pa_cons pe_bl pa_nil))) (pa_cons (pe_tup (pa_cons pe_int (pa_cons pe_bl pa_nil))) pa_nil)))))))))
    (pss_cons (ps_expr (pe_bm PySem.F.plainAttrs_list PySem.F.slot_list_extend PySem.F.type_list_extend mt_extend (pv 7) (pa_cons (pe_lst (pa_cons (pe_tup (pa_cons (pe_lst (pa_cons pe_str pa_nil)) (pa_cons pe_bl pa_nil))) (pa_cons (pe_tup (pa_cons (pv 2) (pa_cons pe_bl pa_nil))) pa_nil))) pa_nil)))
    (pss_cons (ps_set (i := 8) scLaw.nd rfl (.inl rfl) (pe_lst (pa_cons (pe_tup (pa_cons pe_non (pa_cons pe_bl pa_nil))) (pa_cons (pe_tup (pa_cons pe_int (pa_cons pe_bl pa_nil))) (pa_cons (pe_tup (pa_cons (pe_op op_pow pe_int pe_int) (pa_cons pe_bl pa_nil))) (pa_cons (pe_tup (pa_cons (pe_un un_neg pe_int) (pa_cons pe_bl pa_nil))) (pa_cons (pe_tup (pa_cons pe_bl (pa_cons pe_bl pa_nil))) (pa_cons (pe_tup (pa_cons pe_str (pa_cons pe_bl pa_nil))) (pa_cons (pe_tup (pa_cons (pe_tup (pa_cons pe_int pa_nil)) (pa_cons pe_bl pa_nil))) pa_nil)))))))))
    (pss_cons (ps_expr (pe_bm PySem.F.plainAttrs_list PySem.F.slot_list_append PySem.F.type_list_append mt_append (pv 8) (pa_cons (pe_tup (pa_cons (pv 2) (pa_cons pe_bl pa_nil))) pa_nil)))
    (pss_cons (ps_set (i := 9) scLaw.nd rfl (.inl rfl) (pe_lst (pa_cons (pe_tup (pa_cons pe_int (pa_cons pe_bl pa_nil))) (pa_cons (pe_tup (pa_cons pe_non (pa_cons pe_bl pa_nil))) (pa_cons (pe_tup (pa_cons (pe_tup pa_nil) (pa_cons pe_bl pa_nil))) (pa_cons (pe_tup (pa_cons (pe_tup (pa_cons pe_str (pa_cons (pe_tup (pa_cons pe_int pa_nil)) pa_nil))) (pa_cons pe_bl pa_nil))) (pa_cons (pe_tup (pa_cons pe_bl (pa_cons pe_bl pa_nil))) (pa_cons (pe_tup (pa_cons (pe_lst pa_nil) (pa_cons pe_bl pa_nil))) (pa_cons (pe_tup (pa_cons pe_dnewK (pa_cons pe_bl pa_nil))) pa_nil)))))))))
    (Evl.pss_cut (ps_expr (pe_bm PySem.F.plainAttrs_list PySem.F.slot_list_extend PySem.F.type_list_extend mt_extend (pv 9) (pa_cons (pe_lst (pa_cons (pe_tup (pa_cons (pe_tup (pa_cons pe_str (pa_cons pe_bl pa_nil))) (pa_cons pe_bl pa_nil))) (pa_cons (pe_tup (pa_cons pe_str (pa_cons pe_bl pa_nil))) (pa_cons (pe_tup (pa_cons (pe_call Gne (hr.mono (by decide)) (by rfl) Dne.g Dne.F.kp Dne.b .nil pass0 (pa_cons (pv 1) (pa_cons pe_int pa_nil))) (pa_cons pe_bl pa_nil))) (pa_cons (pe_tup (pa_cons (pe_call Gne (hr.mono (by decide)) (by rfl) Dne.g Dne.F.kp Dne.b .nil pass0 (pa_cons (pv 1) (pa_cons pe_int pa_nil))) (pa_cons pe_bl pa_nil))) pa_nil))))) pa_nil)))
    (pss_cons (ps_for PassesOwn.never rfl (pi_range1 (by rfl) B.range (pa_cons pe_int pa_nil)) (pg_name (i := 10) scLaw.nd rfl (Or.inl rfl)) ht)
    (pss_one (ps_ret pe_bl)))))))))))))))), ?_⟩
  intro D a ns H ha hT fin
  refine q_asgC (sp := spHand K) (dvs := []) (vs := [.ref a]) (ea_cons (ev_var rfl) ea_nil) fun H1 e1 => ?_
  refine ⟨a, ns, rfl, ex_l e1 ha, fun wl H2 e2 W2 => ?_⟩
  have t2 : Tabs [(Pt, ("law.<locals>." : Str) ++ "<lambda>")] H2 := fun p hp => by
    rw [List.mem_singleton.mp hp]
    exact LamX.TabS.nil (e2 _ _ (e1 _ _ hT))
  refine ⟨_, rfl, wl, rfl, W2, fun dv du H3 D3 od wd bd => ?_⟩
  have t3 := ((⟨fun b o h => (by cases h), W2, t2⟩ : Sg (fun _ => none) wl _ H2).drawn ⟨rfl, fun _ _ h => (by cases h)⟩ D3).tabs
  have odZ := stl_od od
  have s3 : Sg (stl wl.w H3) wl [(Pt, ("law.<locals>." : Str) ++ "<lambda>")] H3 := ⟨stl_ex, D3.well, t3⟩
  have zn : Zo (stl wl.w H3) wl := stl_zo
  generalize stl wl.w H3 = Zn at odZ s3 zn
  refine q_asgM fun d H4 e4 f4 D4 => ?_
  have s4 := s3.same e4
  have c4 : Cp Zn wl d := Cp.of s3 f4
  refine ⟨fun σ' H' => ∃ ar, σ' = [some (.ref a), some (.ref wl.w), some dv, some (.ref d.p), none, none, none, none, none, none, none, none, none, none, none, none, none, none, none, none] ∧ Sg Zn wl [(Pt, ("law.<locals>." : Str) ++ "<lambda>")] H' ∧ DAt C H' d ar ∧ GdA ar, ?_, ?_⟩
  · refine ⟨_, rfl, wl, 3, rfl, s4.well, by decide, by decide, fun m H5 m0 m1 D5 => ⟨_, _, rfl, rfl, _, rfl, ite2 (fun q => ?_) (fun q => ?_)⟩⟩
    · have s5 := s4.drawn zn D5
      have D5' := D4.drawn s4.well c4 D5
      refine ⟨_, rfl, d, ["", ""], rfl, D5', (fun z hz => by simp only [List.mem_cons, List.not_mem_nil, or_false, or_self] at hz; rw [hz]; decide), fun l0 xs0 H6 kp6 D6 hl0 hl6 ho6 => ?_⟩
      have s6 := s5.kpd c4 D5' kp6
      refine ⟨_, rfl, _, rfl, wl, rfl, s6.well, fun v u H7 D7 hat pu lu du => ?_⟩
      have s7 := s6.drawn zn D7
      have iu : ikok u := ⟨pu, by omega, Nat.le_trans lu (by decide)⟩
      have D7' : DAt C H7 d [text0, ""] := D6.drawn s6.well c4 D7
      have l0 := l0_text
      refine ⟨d, [text0, ""], 0, text0, v, .non, u, none, rfl, od_at (ex_at (fun b o h => (fr_new h).2) hat) pu, iu, rfl, D7', (fun z hz => ?_), ?_, rfl, fun H8 kp8 D8 => ?_⟩
      · simp only [List.mem_cons, List.not_mem_nil, or_false] at hz
        rcases hz with rfl | rfl
        · omega
        · decide
      · show stN (genT text0) (genT "") = some 0
        rw [g0_text]
        rfl
      · have hl : (lineS text0 u).length ≤ 1000 := by
          rw [TL.len_tl]
          exact Nat.le_trans (lineL_le (ck_lt0 _) iu.e) (by decide)
        exact ⟨[text0 ++ lineS text0 u, ""], rfl, s7.kpd c4 D7' kp8, D8, gd1 hl⟩
    · exact ⟨["", ""], rfl, s4.drawn zn D5, D4.drawn s4.well c4 D5, gd0⟩
  rintro σ' H5 ⟨ar, rfl, s5, D5, gd⟩
  obtain ⟨z0, z1, rfl⟩ := pair_of D5.r.l
  refine q_asgL (el_areas (i := 3) rfl D5) fun la H6 hla e6 h6 => ?_
  refine q_asg (v := .bl (stA [z0, z1]).isSome) (ev_is (ev_op (ev_op (ev_var rfl) ev_c (rv_ixL (sq_of h6) (show atI ([z0, z1].map V.str) ((0 : Nat) : Int) = some (.str z0) from rfl))) ev_c (rv_ne rfl)) (congrArg V.bl gd.s)) fun H7 e7 => ?_
  have s7 := (s5.same e6).same e7
  have knS : ∀ {H}, Sg Zn wl [(Pt, ("law.<locals>." : Str) ++ "<lambda>")] H → Kn [wl.w] H := fun s b hb => by
    rw [List.mem_singleton.mp hb]
    exact s.well.at
  have kn := knS s7
  have zd : ∀ {H}, Sg Zn wl [(Pt, ("law.<locals>." : Str) ++ "<lambda>")] H → Ex Zn (dl [wl.w] H) := fun s b o h => by
    rw [dl_at (fun q => zn.ne h (List.mem_singleton.mp q))]
    exact s.ex b o h
  have er_deep : ∀ {te : TE} {σ : L2.St} {H : Hp} {g : U → Bool} {X : U → Prop}, Sg Zn wl [(Pt, ("law.<locals>." : Str) ++ "<lambda>")] H → Ev te σ H dv → g du = false → X du → EvR te σ H (ValW [wl.w] g X false) := fun s h hg hx => er_ev h fun H1 e1 => ⟨du, odZ.ex (zd (s.same e1)), bd, hg, hx⟩
  have er_deep2 : ∀ {te : TE} {σ : L2.St} {H : Hp} {g : U → Bool} {X : U → Prop} {L : Addr}, Sg Zn wl [(Pt, ("law.<locals>." : Str) ++ "<lambda>")] H → Zn L = none → Ev te σ H dv → g du = false → X du → EvR te σ H (ValW [L, wl.w] g X false) := fun s hL h hg hx => er_ev h fun H1 e1 => ⟨du, odZ.ex (fun b o q => by
    rw [dl_at (fun hb => by
      rcases List.mem_cons.mp hb with e | hb
      · rw [e, hL] at q
        cases q
      · exact zn.ne q (List.mem_singleton.mp hb))]
    exact (s.same e1).ex b o q), bd, hg, hx⟩
  refine q_menu (n := 8) (R := PairW [wl.w] areaU fun _ => True) (ers_cons pairW_mono (er_pair kn (ev_val (u := .int 0) ev_c (fun _ => .int _) (by simp only [brd]) (rfl) trivial))
      (ers_cons pairW_mono (er_pair kn (ev_val (u := .int 1) ev_c (fun _ => .int _) (by simp only [brd]) (rfl) trivial))
      (ers_cons pairW_mono (er_pair kn (ev_val (u := .int 2) ev_c (fun _ => .int _) (by simp only [brd]) (rfl) trivial))
      (ers_cons pairW_mono (er_pair kn (ev_val (u := .int (-1)) (ev_un ev_c ru_neg) (fun _ => .int _) (by simp only [brd]) (rfl) trivial))
      (ers_cons pairW_mono (er_pair kn (ev_val (u := .bl true) ev_c (fun _ => .bl _) (by simp only [brd]) rfl trivial))
      (ers_cons pairW_mono (er_pair kn (ev_val (u := .non) ev_c (fun _ => .non) (by simp only [brd]) rfl trivial))
      (ers_cons pairW_mono (er_pair kn (ev_val (u := .str "0") ev_c (fun _ => .str _) (brdS (by decide +kernel)) rfl trivial))
      (ers_cons pairW_mono (er_pair kn (er_deep s7 (ev_var rfl) wd.area trivial))
      ers_nil)))))))) (by decide) fun lk xk Hk ek hlk nk pk => ?_
  have s8 := s7.same (ek.trans (Ex.new (o := .lst xk) hlk))
  have E8 : Ex Hk (upd Hk lk (.lst xk)) := Ex.new hlk
  have hk8 : upd Hk lk (.lst xk) lk = some (.lst xk) := upd_same
  have e78 : Ex H7 (upd Hk lk (.lst xk)) := ek.trans E8
  generalize upd Hk lk (.lst xk) = H8 at s8 E8 hk8 e78
  have kn8 := knS s8
  refine q_menu (n := 7) (R := PairW [wl.w] linU (fun u => ∀ z, u = U.str z → z.length ≤ 100)) (ers_cons pairW_mono (er_pair kn8 (ev_val (u := .str "ab") ev_c (fun _ => .str _) (brdS (by decide +kernel)) (by decide +kernel) (fun z h => by cases h; decide +kernel)))
      (ers_cons pairW_mono (er_pair kn8 (ev_val (u := .str "") ev_c (fun _ => .str _) (brdS (by decide +kernel)) (by decide +kernel) (fun z h => by cases h; decide +kernel)))
      (ers_cons pairW_mono (er_pair kn8 (ev_val (u := .str "a\n") ev_c (fun _ => .str _) (brdS (by decide +kernel)) (by decide +kernel) (fun z h => by cases h; decide +kernel)))
      (ers_cons pairW_mono (er_pair kn8 (val_tup kn8 (ys := [.str "a"]) (us := [.str "a"]) (ea_cons ev_c ea_nil) (fun _ => .cons (.str _) .nil) (by show (1 : Nat) ≤ 100000; decide) (by simp only [brd, brdL]; exact ⟨by decide, by decide +kernel, trivial⟩) rfl (fun z h => by cases h)))
      (ers_cons pairW_mono (er_pair kn8 (val_dct kn8 rfl (fun z h => by cases h)))
      (ers_cons pairW_mono (er_pair kn8 (ev_val (u := .non) ev_c (fun _ => .non) (by simp only [brd]) rfl (fun z h => by cases h)))
      (ers_cons pairW_mono (er_pair kn8 (ev_val (u := .int 5) ev_c (fun _ => .int _) (by simp only [brd]) rfl (fun z h => by cases h)))
      ers_nil))))))) (by decide) fun lt xt Ht et hlt nt pt => ?_
  have s9 := s8.same (et.trans (Ex.new (o := .lst xt) hlt))
  have n9 : Zn lt = none ∧ lt ≠ wl.w ∧ lt ≠ wl.c := ⟨fresh_back (s8.same et).ex hlt, (s8.same et).well.ne hlt⟩
  have kn9 : Kn [lt, wl.w] (upd Ht lt (.lst xt)) := fun b hb => by
    rcases List.mem_cons.mp hb with e | hb
    · rw [e, upd_same]
      exact ⟨_, rfl⟩
    · exact knS s9 b hb
  refine q_extM (i := 7) (n := 2) (R := PairW [lt, wl.w] linU (fun u => ∀ z, u = U.str z → z.length ≤ 100)) rfl upd_same (by omega) pairW_mono (ers_cons pairW_mono (er_pair kn9 (val_lst kn9 (ys := [.str "a"]) (ea_cons ev_c ea_nil) (by show (1 : Nat) ≤ 100000; decide) rfl (fun z h => by cases h)))
      (ers_cons pairW_mono (er_pair kn9 (er_deep2 s9 n9.1 (ev_var rfl) wd.lin (by rintro z rfl; cases wd)))
      ers_nil)) (by decide) fun yt Hx ex ny py => ?_
  have hx9 : Hx lt = some (.lst xt) := ex _ _ upd_same
  have s10 := (s9.same ex).upl (ws' := xt ++ yt) n9.1 n9.2 hx9
  have E10 : Ex Ht (upd Hx lt (.lst (xt ++ yt))) := Ex.mut ((Ex.new hlt).trans ex) hlt
  have ft : ∀ x ∈ xt ++ yt, PairW [wl.w] linU (fun u => ∀ z, u = U.str z → z.length ≤ 100) (upd Hx lt (.lst (xt ++ yt))) x := fun x hx => (List.mem_append.mp hx).elim (fun hx => pairW_mono _ _ _ E10 (pt x hx)) fun hx => (let ⟨v, u, p, q⟩ := py x hx; ⟨v, u, p.ex dl_upd, q⟩)
  have h10 : upd Hx lt (.lst (xt ++ yt)) lt = some (.lst (xt ++ yt)) := upd_same
  have E810 : Ex H8 (upd Hx lt (.lst (xt ++ yt))) := et.trans E10
  generalize upd Hx lt (.lst (xt ++ yt)) = H10 at s10 ft h10 E810
  have kn10 := knS s10
  refine q_menu (n := 7) (R := PairW [wl.w] mostU fun _ => True) (ers_cons pairW_mono (er_pair kn10 (ev_val (u := .non) ev_c (fun _ => .non) (by simp only [brd]) rfl trivial))
      (ers_cons pairW_mono (er_pair kn10 (ev_val (u := .int 0) ev_c (fun _ => .int _) (by simp only [brd]) (by decide +kernel) trivial))
      (ers_cons pairW_mono (er_pair kn10 (ev_val (u := .int ((10 : Int) ^ (9 : Int).toNat)) (ev_op ev_c ev_c (rv_I ⟨by decide, by decide, by decide⟩)) (fun _ => .int _) (by simp only [brd]) (by decide +kernel) trivial))
      (ers_cons pairW_mono (er_pair kn10 (ev_val (u := .int (-1)) (ev_un ev_c ru_neg) (fun _ => .int _) (by simp only [brd]) (by decide +kernel) trivial))
      (ers_cons pairW_mono (er_pair kn10 (ev_val (u := .bl true) ev_c (fun _ => .bl _) (by simp only [brd]) rfl trivial))
      (ers_cons pairW_mono (er_pair kn10 (ev_val (u := .str "1") ev_c (fun _ => .str _) (brdS (by decide +kernel)) rfl trivial))
      (ers_cons pairW_mono (er_pair kn10 (val_tup kn10 (ys := [.int 1]) (us := [.int 1]) (ea_cons ev_c ea_nil) (fun _ => .cons (.int _) .nil) (by show (1 : Nat) ≤ 100000; decide) (by simp only [brd, brdL]; exact ⟨by decide, trivial, trivial⟩) rfl trivial))
      ers_nil))))))) (by decide) fun lm xm Hm em hlm nm pm => ?_
  have s11 := s10.same (em.trans (Ex.new (o := .lst xm) hlm))
  have n11 : Zn lm = none ∧ lm ≠ wl.w ∧ lm ≠ wl.c := ⟨fresh_back (s10.same em).ex hlm, (s10.same em).well.ne hlm⟩
  refine q_appM (i := 8) (R := PairW [lm, wl.w] mostU fun _ => True) rfl upd_same (by omega) (er_pair (kn_two upd_same (knS s11)) (er_deep2 s11 n11.1 (ev_var rfl) wd.most trivial)) fun ym Hy ey pym => ?_
  have hy11 : Hy lm = some (.lst xm) := ey _ _ upd_same
  have s12 := (s11.same ey).upl (ws' := xm ++ [ym]) n11.1 n11.2 hy11
  have E12 : Ex Hm (upd Hy lm (.lst (xm ++ [ym]))) := Ex.mut ((Ex.new hlm).trans ey) hlm
  have fm : ∀ x ∈ xm ++ [ym], PairW [wl.w] mostU (fun _ => True) (upd Hy lm (.lst (xm ++ [ym]))) x := fun x hx => (List.mem_append.mp hx).elim (fun hx => pairW_mono _ _ _ E12 (pm x hx)) fun hx => by
    rw [List.mem_singleton.mp hx]
    obtain ⟨v, u, p, q⟩ := pym
    exact ⟨v, u, p.ex dl_upd, q⟩
  have h12 : upd Hy lm (.lst (xm ++ [ym])) lm = some (.lst (xm ++ [ym])) := upd_same
  have E1012 : Ex H10 (upd Hy lm (.lst (xm ++ [ym]))) := em.trans E12
  generalize upd Hy lm (.lst (xm ++ [ym])) = H12 at s12 fm h12 E1012
  have kn12 := knS s12
  refine q_menu (n := 7) (R := PairW [wl.w] (thB 28) (fun u => thB 28 u = true → ikok u)) (ers_cons pairW_mono (er_pair kn12 (ev_val (u := .int 5) ev_c (fun _ => .int _) (by simp only [brd]) (by decide +kernel) (fun _ => ⟨by simp only [pl, plL, and_true]; decide +kernel, by simp only [dpt, dptL]; decide, by simp only [ln, lnL]; decide +kernel⟩)))
      (ers_cons pairW_mono (er_pair kn12 (ev_val (u := .non) ev_c (fun _ => .non) (by simp only [brd]) (by decide +kernel) (fun _ => ⟨trivial, by simp only [dpt]; decide, by simp only [ln]; decide⟩)))
      (ers_cons pairW_mono (er_pair kn12 (val_tup kn12 (ys := []) (us := []) ea_nil (fun _ => .nil) (by show (0 : Nat) ≤ 100000; decide) (by simp only [brd, brdL]; exact ⟨by decide, trivial⟩) (by decide +kernel) (fun _ => ⟨by simp only [pl, plL], by simp only [dpt, dptL]; decide, by simp only [ln, lnL]; decide⟩)))
      (ers_cons pairW_mono (er_pair kn12 (val_nest kn12 (by decide +kernel) (fun _ => ⟨by simp only [pl, plL]; exact ⟨by decide +kernel, ⟨by decide, trivial⟩, trivial⟩, by simp only [dpt, dptL]; decide, by simp only [ln, lnL]; decide +kernel⟩)))
      (ers_cons pairW_mono (er_pair kn12 (ev_val (u := .bl true) ev_c (fun _ => .bl _) (by simp only [brd]) (by decide +kernel) (fun h => absurd h (by decide +kernel))))
      (ers_cons pairW_mono (er_pair kn12 (val_lst kn12 (ys := []) ea_nil (by show (0 : Nat) ≤ 100000; decide) (by decide +kernel) (fun h => absurd h (by decide +kernel))))
      (ers_cons pairW_mono (er_pair kn12 (val_dct kn12 (by decide +kernel) (fun h => absurd h (by decide +kernel))))
      ers_nil))))))) (by decide) fun li xi Hi ei hli ni pi => ?_
  have s13 := s12.same (ei.trans (Ex.new (o := .lst xi) hli))
  have n13 : Zn li = none ∧ li ≠ wl.w ∧ li ≠ wl.c := ⟨fresh_back (s12.same ei).ex hli, (s12.same ei).well.ne hli⟩
  have kn13 : Kn [li, wl.w] (upd Hi li (.lst xi)) := kn_two upd_same (knS s13)
  have h13 : upd Hi li (.lst xi) li = some (.lst xi) := upd_same
  have E13 : Ex Hi (upd Hi li (.lst xi)) := Ex.new hli
  generalize hH13 : upd Hi li (.lst xi) = H13 at s13 kn13 h13 E13
  refine ⟨fun σ' H' => ∃ zs, σ' = [some (.ref a), some (.ref wl.w), some dv, some (.ref d.p), some (.ref la), some (.bl (stA [z0, z1]).isSome), some (.ref lk), some (.ref lt), some (.ref lm), some (.ref li), none, none, none, none, none, none, none, none, none, none] ∧ Sg Zn wl [(Pt, ("law.<locals>." : Str) ++ "<lambda>")] H' ∧ H' li = some (.lst zs) ∧ 1 ≤ zs.length ∧ zs.length ≤ 1000 ∧ (∀ x ∈ zs, PairW [wl.w] (thB 28) (fun u => thB 28 u = true → ikok u) H' x) ∧ Ex (dl [wl.w] H12) (dl [wl.w] H'), ?_, ?_⟩
  · refine ⟨_, rfl, .inl ⟨rfl, _, SqL.of h13⟩, ?_⟩
    refine cons_lst ?_
    refine (er_pair kn13 (g := thB 28) (b := false) (X := fun u => thB 28 u = true → ikok u) (val_tup kn13 (ys := [.str "a", .bl true]) (us := [.str "a", .bl true]) (ea_cons ev_c (ea_cons ev_c ea_nil)) (fun _ => .cons (.str _) (.cons (.bl _) .nil)) (by show (2 : Nat) ≤ 100000; decide) (by simp only [brd, brdL]; exact ⟨by decide, by decide +kernel, trivial, trivial⟩) (by decide +kernel) (fun h => absurd h (by decide +kernel)))) H13 (Ex.refl H13) _ fun x1 Ha ea q1 => ?_
    refine cons_one ?_
    refine (er_pair kn13 (g := thB 28) (b := false) (X := fun u => thB 28 u = true → ikok u) (ev_val (u := .str "\n") ev_c (fun _ => .str _) (brdS (by decide +kernel)) (by decide +kernel) (fun h => absurd h (by decide +kernel)))) Ha ea _ fun x2 Hb eb q2 => ?_
    have sb := s13.same (ea.trans eb)
    refine ⟨_, rfl, wl, 28, rfl, sb.well, by decide, by decide, fun v3 u3 Hc Dc at3 pl3 ln3 dp3 => ⟨sz_of (by show (2 : Nat) ≤ 100000; decide), fun p3 hp3 => ?_⟩⟩
    have sc := sb.drawn zn Dc
    have e3 := Ex.new (o := .tup [v3, .bl true]) hp3
    have sc2 := sc.same e3
    refine ⟨_, rfl, wl, 29, rfl, sc2.well, by decide, by decide, fun v4 u4 Hd Dd4 at4 pl4 ln4 dp4 => ⟨sz_of (by show (2 : Nat) ≤ 100000; decide), fun p4 hp4 => ?_⟩⟩
    have sd := sc2.drawn zn Dd4
    have e4 := Ex.new (o := .tup [v4, .bl false]) hp4
    refine ⟨sz_of (by show (4 : Nat) ≤ 100000; decide), fun pl hpl => ?_⟩
    have e5 := Ex.new (o := .lst [x1, x2, .ref p3, .ref p4]) hpl
    have se := (sd.same e4).same e5
    have hb : Hb li = some (.lst xi) := eb _ _ (ea _ _ h13)
    have hc : Hc li = some (.lst xi) := Dc.keep _ _ n13.2.1 hb
    have hd : Hd li = some (.lst xi) := Dd4.keep _ _ n13.2.1 (e3 _ _ hc)
    have he := e5 _ _ (e4 _ _ hd)
    refine ⟨li, pl, xi, _, rfl, rfl, he, upd_same, by have := big_line; show xi.length + 4 ≤ _; omega, ?_⟩
    have mw : wl.w ∈ [li, wl.w] := List.mem_cons_of_mem _ (List.mem_singleton.mpr rfl)
    have nS : ∀ {b : Addr}, b ≠ li → b ≠ wl.w → b ∉ [li, wl.w] := fun n1 n2 q => (List.mem_cons.mp q).elim n1 fun q => n2 (List.mem_singleton.mp q)
    have kc := ((dl_mono (S := [li, wl.w]) e3).trans (dl_keep Dd4.keep mw)).trans ((dl_mono e4).trans (dl_mono e5))
    have kd := (dl_mono (S := [li, wl.w]) e4).trans (dl_mono e5)
    have kA := (dl_keep Dc.keep mw).trans kc
    generalize hHe : upd (upd Hd p4 (.tup [v4, .bl false])) pl (.lst [x1, x2, .ref p3, .ref p4]) = He at se he kc kd kA e5
    have kF : Ex (dl [li, wl.w] He) (dl [wl.w] (upd He li (.lst (xi ++ [x1, x2, .ref p3, .ref p4])))) := dl_upd
    have kB : Ex (dl [wl.w] Hi) (dl [li, wl.w] H13) := fun b o h => by
      obtain ⟨n, h⟩ := dl_some h
      rw [dl_at (nS (fun e => by rw [e, hli] at h; cases h) (fun e => n (List.mem_singleton.mpr e)))]
      exact E13 b o h
    have kI := kB.trans ((dl_mono (ea.trans eb)).trans (kA.trans kF))
    have n3 := sc.well.ne hp3
    have n4 := sd.well.ne hp4
    have g3 : He p3 = some (.tup [v3, .bl true]) := e5 _ _ (e4 _ _ (Dd4.keep _ _ n3.1 upd_same))
    have g4 : He p4 = some (.tup [v4, .bl false]) := e5 _ _ upd_same
    have m3 : p3 ≠ li := (ne_of_none hc hp3).symm
    have m4 : p4 ≠ li := (ne_of_none hd hp4).symm
    have o3 : Od (dl [li, wl.w] Hc) v3 u3 := (od_at at3 pl3).tups (fun b xs h => by rw [dl_at (nS (fun e => by rw [e, hc] at h; cases h) (sc.well.ntup h))]; exact h) (sm_pl u3 pl3)
    have o4 : Od (dl [li, wl.w] Hd) v4 u4 := (od_at at4 pl4).tups (fun b xs h => by rw [dl_at (nS (fun e => by rw [e, hd] at h; cases h) (sd.well.ntup h))]; exact h) (sm_pl u4 pl4)
    refine ⟨_, rfl, se.upl n13.1 n13.2 he, upd_same, by rw [List.length_append]; show 1 ≤ xi.length + 4; omega, by rw [List.length_append]; show xi.length + 4 ≤ 1000; omega, fun x hx => ?_, (dl_mono ei).trans kI⟩
    rcases List.mem_append.mp hx with hx | hx
    · obtain ⟨v, u, p, q⟩ := pi x hx
      exact ⟨v, u, p.ex kI, q⟩
    · simp only [List.mem_cons, List.not_mem_nil, or_false] at hx
      rcases hx with rfl | rfl | rfl | rfl
      · obtain ⟨v, u, p, q⟩ := q1
        exact ⟨v, u, p.ex ((dl_mono eb).trans (kA.trans kF)), q⟩
      · obtain ⟨v, u, p, q⟩ := q2
        exact ⟨v, u, p.ex (kA.trans kF), q⟩
      · refine ⟨v3, u3, ⟨p3, rfl, ?_, o3.ex (kc.trans kF), brd_ln (by omega)⟩, fun _ => ⟨pl3, by omega, by omega⟩⟩
        rw [dl_at (fun q => n3.1 (List.mem_singleton.mp q)), upd_ne m3, g3, thB_pl pl3 (by omega)]
      · have hb : thB 28 u4 = false := thB_no (by omega)
        refine ⟨v4, u4, ⟨p4, rfl, ?_, o4.ex (kd.trans kF), brd_ln (by omega)⟩, fun h => by rw [hb] at h; cases h⟩
        rw [dl_at (fun q => n4.1 (List.mem_singleton.mp q)), upd_ne m4, g4, hb]
  rintro σ' H14 ⟨zs, rfl, s14, h14, l1, l2, fi, k14⟩
  have E612 : Ex H6 H12 := e7.trans (e78.trans (E810.trans E1012))
  have to14 : ∀ {b : Addr} {o : HO}, b ≠ wl.w → H12 b = some o → H14 b = some o := fun {b o} n h => (dl_some (k14 b o (by rw [dl_at (fun q => n (List.mem_singleton.mp q))]; exact h))).2
  have zx : ExtN (dl [wl.w] H14) (stl wl.w H14) := fun b o h q => by
    obtain ⟨n, h⟩ := dl_some h
    exact stl_mk (fun e => n (List.mem_singleton.mpr e)) h q
  have pz : ∀ {g : U → Bool} {x v : V} {u : U}, PairZ g (dl [wl.w] H14) x v u → PairZ g (stl wl.w H14) x v u := fun ⟨p, h1, h2, h3, h4⟩ => ⟨p, h1, zx _ _ h2 (fun _ q => by cases q), h3.exN zx, h4⟩
  have pz12 : ∀ {g : U → Bool} {x v : V} {u : U}, PairZ g (dl [wl.w] H12) x v u → PairZ g (stl wl.w H14) x v u := fun p => pz (p.ex k14)
  have zl : ∀ {L : Addr} {ws : List V}, L ≠ wl.w → H12 L = some (.lst ws) → stl wl.w H14 L = some (.lst ws) := fun n h => stl_mk n (to14 n h) (fun _ q => by cases q)
  have nw : ∀ {L : Addr} {ws : List V} {G : Hp}, G L = none → (∃ o, G wl.w = some o) → L ≠ wl.w := fun h ⟨o, w⟩ e => by rw [e, w] at h; cases h
  have D12 := (D5.ex e6).ex E612
  have np : d.p ≠ wl.w := fun e => by
    obtain ⟨_, _, _, _, _, h1, _⟩ := s12.well.ex
    have h2 := D12.o
    rw [e, h1] at h2
    cases h2
  obtain ⟨gs, hgs, qgs⟩ := D12.g
  have DZ : DAt C (stl wl.w H14) d [z0, z1] := ⟨stl_mk np (to14 np D12.o) (fun _ q => by cases q), zl c4.aw.1 D12.a, zl c4.cw.1 D12.c, ⟨gs, zl c4.gw.1 hgs, qgs⟩, D12.n, D12.r⟩
  have zz : Ex Zn (stl wl.w H14) := fun b o h => stl_mk (zn.ne h) (s14.ex b o h) (fun ps q => zn.t b ps (by rw [h, q]))
  let M : Mn (stl wl.w H14) wl C := { dv := dv, d := d, ar := [z0, z1], la := la, lk := lk, lt := lt, lm := lm, li := li, xk := xk, xt := xt ++ yt, xm := xm ++ [ym], xi := zs, du := du, z := stl_zo, D := DZ, hz := gd.z, hg := gd.g
                                      a := zl (nw (ws := []) hla (s5.well.at)) (E612 _ _ h6), o := odZ.ex zz, b := bd, w := wd
                                      k := zl (nw (ws := []) hlk ((s7.same ek).well.at)) (E1012 _ _ (E810 _ _ hk8)), t := zl n9.2.1 (E1012 _ _ h10), m := zl n11.2.1 h12, i := stl_mk n13.2.1 h14 (fun _ q => by cases q)
                                      lk1 := by omega, lt1 := by rw [List.length_append]; omega, lm1 := by rw [List.length_append]; show 1 ≤ xm.length + 1 ∧ xm.length + 1 ≤ 1000; omega, li1 := ⟨l1, l2⟩
                                      pk := fun x hx => (let ⟨v, u, p, _⟩ := pk x hx; ⟨v, u, pz12 (p.ex (dl_mono (E8.trans (E810.trans E1012))))⟩)
                                      pt := fun x hx => (let ⟨v, u, p, q⟩ := ft x hx; ⟨v, u, pz12 (p.ex (dl_mono E1012)), q⟩)
                                      pm := fun x hx => (let ⟨v, u, p, _⟩ := fm x hx; ⟨v, u, pz12 p⟩)
                                      pi := fun x hx => (let ⟨v, u, p, q⟩ := fi x hx; ⟨v, u, pz p, q⟩) }
  have sZ : Sg (stl wl.w H14) wl [(Pt, ("law.<locals>." : Str) ++ "<lambda>")] H14 := ⟨stl_ex, s14.well, s14.tabs⟩
  refine q_forR1 (n := 6) (ea_cons ev_c ea_nil) (by decide) (fun i σ' H' => TSt (stl wl.w H14) wl [(Pt, ("law.<locals>." : Str) ++ "<lambda>")] M σ' H') (fun H1 e1 => ⟨_, _, _, _, _, _, _, _, _, _, _, rfl, sZ.same e1⟩) (fun i σ' H' hi hs => hq (M := M) _ _ _ ?_ (fun σ2 H2 h => h)) (fun σ' H' hs => fin H')
  obtain ⟨x0, x10, x11, x12, x13, x14, x15, x16, x17, x18, x19, rfl, s⟩ := hs
  exact ⟨_, _, _, _, _, _, _, _, _, _, _, rfl, s⟩
end
end Ht
/-! k34: all that the law's run reaches -/
namespace Ht
open PySem PySem.Spec PyProof.Rows L2 Hu Evl
/-- the class Disk -/
structure Kl (K : PySem.W.Frag) (mg : Str → Option Value) (C : Addr) : Prop where
  T : Dk K mg C
  sub : PySem.W.subIn K (.type "list") (.ref C) = some false
  ini : ∃ f d, Mk K C f ∧ Binds K d ["self"] [] ∧ Fun K "__init__" "Disk.__init__" (sDk 0) f d
  area : ∃ f d, Me K C "area" "Disk.area" (sDk 1) ["self", "k"] f d
  ack : ∃ f d, Me K C "area_check" "Disk.area_check" (sDk 2) ["self", "k"] f d
  gen : ∃ f d, Me K C "generation" "Disk.generation" (sDk 3) ["self", "k"] f d
  append : ∃ f d, Me K C "append" "Disk.append" (sDk 4) ["self", "k", "text", "most"] f d
  clear : ∃ f d, Me K C "clear" "Disk.clear" (sDk 5) ["self", "k"] f d
  shorten : ∃ f d, Me K C "shorten" "Disk.shorten" (sDk 6) ["self", "k", "many"] f d
  put : ∃ f d, Me K C "_put" "Disk._put" (sDk 7) ["self", "k", "text"] f d
  copy : ∃ f d, Me K C "copy" "Disk.copy" (sDk 8) ["self"] f d
  eq : ∃ f d, Me K C "__eq__" "Disk.__eq__" (sDk 9) ["self", "other"] f d
structure La (K : PySem.W.Frag) (mg : Str → Option Value) : Prop where
  B : Bt mg
  O : Bt2 mg
  N : Cn mg
  P : ∃ t, mg "CHECK_PRIME" = some (.int 99991 t)
  EB : ∃ CB fI dI, Bx K mg CB fI dI
  W : ∃ a, Wh K mg a
  C : ∃ C, Kl K mg C
  Bd : ∃ t, mg "BOUND" = some (.int (10 ^ 30) t)
  Id : ∃ t, mg "ITEM_DEPTH" = some (.int 28 t)
  E : ∃ CA CT CN CI CS CH, Er K mg (csE CA CT CN CI CS) CH ∧ Ec K mg "NoArea" CA ∧ Ec K mg "NoText" CT ∧ Ec K mg "NoNumber" CN ∧ Ec K mg "NoItems" CI ∧ Ec K mg "NoStand" CS
  dis_integer : ∃ (f : Addr) (d : FuncData), Df K mg "is_integer" sIsInt ["thing"] f d
  dis_count : ∃ (f : Addr) (d : FuncData), Df K mg "is_count" sCount ["thing"] f d
  dis_pair : ∃ (f : Addr) (d : FuncData), Df K mg "is_pair" sPair ["thing"] f d
  dis_signs : ∃ (f : Addr) (d : FuncData), Df K mg "is_signs" sIsSigns ["thing"] f d
  dis_lined : ∃ (f : Addr) (d : FuncData), Df K mg "is_lined" sIsLined ["thing"] f d
  dis_thing : ∃ (f : Addr) (d : FuncData), Df K mg "is_thing" sIsThing ["thing", "deepest"] f d
  dpacked : ∃ (f : Addr) (d : FuncData), Df K mg "packed" sPackedP ["thing"] f d
  d_text_of : ∃ (f : Addr) (d : FuncData), Df K mg "_text_of" sTextOf ["thing"] f d
  dunpacked : ∃ (f : Addr) (d : FuncData), Df K mg "unpacked" sUnpacked ["text"] f d
  d_read_thing : ∃ (f : Addr) (d : FuncData), Df K mg "_read_thing" sReadThing ["text", "place", "depth"] f d
  d_read_tuple : ∃ (f : Addr) (d : FuncData), Df K mg "_read_tuple" sReadTuple ["text", "place", "depth"] f d
  d_read_string : ∃ (f : Addr) (d : FuncData), Df K mg "_read_string" sReadStr ["text", "place"] f d
  d_read_integer : ∃ (f : Addr) (d : FuncData), Df K mg "_read_integer" sReadInt ["text", "place"] f d
  dcheck : ∃ (f : Addr) (d : FuncData), Df K mg "check" sCheck ["text"] f d
  dcheck_behind : ∃ (f : Addr) (d : FuncData), Df K mg "check_behind" sCheckB ["number", "many", "text"] f d
  dsealed : ∃ (f : Addr) (d : FuncData), Df K mg "sealed" sSealed ["thing"] f d
  dunsealed : ∃ (f : Addr) (d : FuncData), Df K mg "unsealed" sUnsealed ["text"] f d
  d_is_area : ∃ (f : Addr) (d : FuncData), Df K mg "_is_area" sIsArea ["thing"] f d
  d_is_most : ∃ (f : Addr) (d : FuncData), Df K mg "_is_most" sIsMost ["thing"] f d
  d_line_at : ∃ (f : Addr) (d : FuncData), Df K mg "_line_at" sLineAt ["text", "place", "number"] f d
  d_counted : ∃ (f : Addr) (d : FuncData), Df K mg "_counted" sCounted ["text"] f d
  d_generation : ∃ (f : Addr) (d : FuncData), Df K mg "_generation" sGener ["text"] f d
  dstanding : ∃ (f : Addr) (d : FuncData), Df K mg "standing" sStand ["disk"] f d
  dopened : ∃ (f : Addr) (d : FuncData), Df K mg "opened" sOpened ["disk"] f d
  dwritten_lines : ∃ (f : Addr) (d : FuncData), Df K mg "written_lines" sWl ["entries", "number", "many"] f d
  dnoted : ∃ (f : Addr) (d : FuncData), Df K mg "noted" sNoted ["disk", "item", "most"] f d
  dkept : ∃ (f : Addr) (d : FuncData), Df K mg "kept" sKept ["disk", "items", "most"] f d
  d_law_hand : ∃ (f : Addr) (d : FuncData), Df K mg "_law_hand" sHand ["script"] f d
  d_law_draw : ∃ (f : Addr) (d : FuncData), Df K mg "_law_draw" sDraw ["hand", "many"] f d
  d_law_any : ∃ (f : Addr) (d : FuncData), Df K mg "_law_any" sAny ["hand", "things"] f d
  d_law_word : ∃ (f : Addr) (d : FuncData), Df K mg "_law_word" sWord ["hand"] f d
  d_law_thing : ∃ (f : Addr) (d : FuncData), Df K mg "_law_thing" sThing ["hand", "deep"] f d
  dlines : ∃ (f : Addr) (d : FuncData), Df K mg "lines" sLines ["text"] f d
  drest : ∃ (f : Addr) (d : FuncData), Df K mg "rest" sRest ["text"] f d
  d_law_nested : ∃ (f : Addr) (d : FuncData), Df K mg "_law_nested" sNested ["hand", "many"] f d
  d_law_deep : ∃ (f : Addr) (d : FuncData), Df K mg "_law_deep" lDeep ["hand"] f d
  d_law_refusal : ∃ (f : Addr) (d : FuncData), Df K mg "_law_refusal" lRefusal ["ask"] f d
  d_law_first : ∃ (f : Addr) (d : FuncData), Df K mg "_law_first" lFirstW ["dues"] f d
  d_law_of : ∃ (f : Addr) (d : FuncData), Df K mg "_law_of" lOf ["thing", "word"] f d
section
variable {P : Program} {w : World} {K : PySem.W.Frag} {mg : Str → Option Value} {base : Heap}
def spLawT (K : PySem.W.Frag) (Pt : Addr) : Sp := fun vs H Q _ => ∃ (a : Addr) (ns : List Int), vs = [.ref a] ∧ SqL K H a (ns.map V.int) ∧ H Pt = some (.tbl #[]) ∧ ∀ H', Q (.bl true) H'
theorem ok_law {f c Pt : Addr} {oc : Value} {od an : Option Addr} {sl : Array (Option Value)} {kV dc pm ct : Value} (lk : K.lookup f = some ⟨oc, od, .func (PySem.W.fnOf "law" "law" (defArgs lLaw) (defBody lLaw) (defScope lLaw) .none kV dc pm an (.ref c) ct), sl⟩)
    (hcd : PySem.W.codeIn K (.ref c) "law" = true) (TB : LamX.TabB base mg c Pt) (L : La K mg) : FnOk P w K mg base CX0 74 f (PySem.W.fnOf "law" "law" (defArgs lLaw) (defBody lLaw) (defScope lLaw) .none kV dc pm an (.ref c) ct) ["script"] (spLawT K Pt) := by
  obtain ⟨fis_integer, dis_integer, Dis_integer⟩ := L.dis_integer
  obtain ⟨fis_count, dis_count, Dis_count⟩ := L.dis_count
  obtain ⟨fis_pair, dis_pair, Dis_pair⟩ := L.dis_pair
  obtain ⟨fis_signs, dis_signs, Dis_signs⟩ := L.dis_signs
  obtain ⟨fis_lined, dis_lined, Dis_lined⟩ := L.dis_lined
  obtain ⟨fis_thing, dis_thing, Dis_thing⟩ := L.dis_thing
  obtain ⟨fpacked, dpacked, Dpacked⟩ := L.dpacked
  obtain ⟨f_text_of, d_text_of, D_text_of⟩ := L.d_text_of
  obtain ⟨funpacked, dunpacked, Dunpacked⟩ := L.dunpacked
  obtain ⟨f_read_thing, d_read_thing, D_read_thing⟩ := L.d_read_thing
  obtain ⟨f_read_tuple, d_read_tuple, D_read_tuple⟩ := L.d_read_tuple
  obtain ⟨f_read_string, d_read_string, D_read_string⟩ := L.d_read_string
  obtain ⟨f_read_integer, d_read_integer, D_read_integer⟩ := L.d_read_integer
  obtain ⟨fcheck, dcheck, Dcheck⟩ := L.dcheck
  obtain ⟨fcheck_behind, dcheck_behind, Dcheck_behind⟩ := L.dcheck_behind
  obtain ⟨fsealed, dsealed, Dsealed⟩ := L.dsealed
  obtain ⟨funsealed, dunsealed, Dunsealed⟩ := L.dunsealed
  obtain ⟨f_is_area, d_is_area, D_is_area⟩ := L.d_is_area
  obtain ⟨f_is_most, d_is_most, D_is_most⟩ := L.d_is_most
  obtain ⟨f_line_at, d_line_at, D_line_at⟩ := L.d_line_at
  obtain ⟨f_counted, d_counted, D_counted⟩ := L.d_counted
  obtain ⟨f_generation, d_generation, D_generation⟩ := L.d_generation
  obtain ⟨fstanding, dstanding, Dstanding⟩ := L.dstanding
  obtain ⟨fopened, dopened, Dopened⟩ := L.dopened
  obtain ⟨fwritten_lines, dwritten_lines, Dwritten_lines⟩ := L.dwritten_lines
  obtain ⟨fnoted, dnoted, Dnoted⟩ := L.dnoted
  obtain ⟨fkept, dkept, Dkept⟩ := L.dkept
  obtain ⟨f_law_hand, d_law_hand, D_law_hand⟩ := L.d_law_hand
  obtain ⟨f_law_draw, d_law_draw, D_law_draw⟩ := L.d_law_draw
  obtain ⟨f_law_any, d_law_any, D_law_any⟩ := L.d_law_any
  obtain ⟨f_law_word, d_law_word, D_law_word⟩ := L.d_law_word
  obtain ⟨f_law_thing, d_law_thing, D_law_thing⟩ := L.d_law_thing
  obtain ⟨flines, dlines, Dlines⟩ := L.dlines
  obtain ⟨frest, drest, Drest⟩ := L.drest
  obtain ⟨f_law_nested, d_law_nested, D_law_nested⟩ := L.d_law_nested
  obtain ⟨f_law_deep, d_law_deep, D_law_deep⟩ := L.d_law_deep
  obtain ⟨f_law_refusal, d_law_refusal, D_law_refusal⟩ := L.d_law_refusal
  obtain ⟨f_law_first, d_law_first, D_law_first⟩ := L.d_law_first
  obtain ⟨f_law_of, d_law_of, D_law_of⟩ := L.d_law_of
  obtain ⟨B, O, N, P0, ⟨CB, fI, dI, EB⟩, ⟨aW, W⟩, ⟨C, KL⟩, ⟨tB, hB⟩, ⟨tI, hI⟩, ⟨CA, CT, CN, CI, CS, CH, ER, EA, ET, EN, EI, ES⟩, _⟩ := L
  obtain ⟨tP, hP⟩ := P0
  obtain ⟨T, hsub, ⟨fi, di, Mi, bi, Fi⟩, ⟨fa, da, Ma⟩, ⟨fak, dak, Mak⟩, ⟨fgn, dgn, Mgn⟩, ⟨fp, dp, Mp⟩, ⟨fc, dc, Mc⟩, ⟨fs, ds, Ms⟩, ⟨fu, du, Mu⟩, ⟨fo, do_, Mo⟩, ⟨fe, de, Meq⟩⟩ := KL
  have R : Rd K mg CB := ⟨B, N, ⟨_, _, EB⟩, ⟨_, _, D_read_thing⟩, ⟨_, _, D_read_tuple⟩, ⟨_, _, D_read_string⟩, ⟨_, _, D_read_integer⟩, ⟨_, _, Dis_signs⟩⟩
  have R2 : Kd K mg := ⟨B, O, ⟨tP, hP⟩, ⟨_, _, Dis_lined⟩, ⟨_, _, Dis_signs⟩, ⟨_, _, Dcheck_behind⟩⟩
  have Gus : FnOk P w K mg base CX0 66 _ _ ["text"] spUS := ok_unsealed Dunsealed.F R R2 Dunpacked Dcheck
  have Gcb : FnOk P w K mg base CX0 1 _ _ ["number", "many", "text"] spCB := ok_checkB Dcheck_behind.F B O hP
  have Gpr : FnOk P w K mg base CX0 1 _ _ ["thing"] spPr := ok_pair Dis_pair.F B
  have DL : Dl P w K mg base := ⟨B, ⟨_, _, Dunsealed, Gus⟩, ⟨_, _, Dis_pair, Gpr⟩, ⟨_, _, Dcheck_behind, Gcb⟩⟩
  have Gla : FnOk P w K mg base CX0 67 _ _ ["text", "place", "number"] spLA := ok_lineAt D_line_at.F DL
  have Gli : FnOk P w K mg base CX0 2 _ _ ["thing"] (spO linU) := ok_lined Dis_lined B Dis_signs
  have Gct : FnOk P w K mg base CX0 68 _ _ ["text"] spCt := ok_counted D_counted.F B D_line_at Gla Dis_lined Gli
  have Gco : FnOk P w K mg base CX0 2 _ _ ["thing"] (spO cntU) := ok_count Dis_count.F B Dis_integer
  have Ggn : FnOk P w K mg base CX0 68 _ _ ["text"] spGn := ok_gener D_generation.F B W D_line_at Gla Dis_pair Gpr Dis_count Gco
  have Gia : FnOk P w K mg base CX0 3 _ _ ["thing"] spAr := ok_isArea D_is_area.F Dis_count Gco
  have Gim : FnOk P w K mg base CX0 3 _ _ ["thing"] spMo := ok_isMost D_is_most.F Dis_count Gco
  have DM : Dm P w K mg base C := ⟨B, T, ⟨_, _, D_is_area, Gia⟩, ⟨_, _, D_is_most, Gim⟩, ⟨_, _, Dis_count, Gco⟩, ⟨_, _, Dis_lined, Gli⟩, ⟨_, _, Dcheck_behind, Gcb⟩⟩
  have Gar : FnOk P w K mg base CX0 4 _ _ ["self", "k"] (spArea C) := ok_area Ma.F DM
  have Gge : FnOk P w K mg base CX0 69 _ _ ["self", "k"] (spGen C) := ok_gen Mgn.F T D_generation Ggn
  have Gst : FnOk P w K mg base CX0 70 _ _ ["disk"] (spSt C) := ok_standing Dstanding.F T Mgn Gge
  have Gap : FnOk P w K mg base CX0 4 _ _ ["self", "k", "text", "most"] (spApp C) := ok_app Mp.F DM
  have Gcl : FnOk P w K mg base CX0 4 _ _ ["self", "k"] (spClear C) := ok_clear Mc.F DM Mu
  have Gsh : FnOk P w K mg base CX0 4 _ _ ["self", "k", "many"] (spShort C) := ok_short Ms.F DM Mu
  have Gin : FnOk P w K mg base CX0 1 _ _ ["self"] (spInit C) := ok_init Fi T
  have Gcp : FnOk P w K mg base CX0 3 _ _ ["self"] (spCopy C) := ok_copy Mo.F B T Mi bi Gin
  have Geq : FnOk P w K mg base CX0 1 _ _ ["self", "other"] (spEqK C) := ok_eqK Meq.F B T
  have Ghd : FnOk P w K mg base CX0 1 _ _ ["script"] (spHand K) := ok_hand D_law_hand.F B
  have DD : Dd P w K mg base f_law_draw d_law_draw := ⟨ok_draw D_law_draw.F B, D_law_draw.g, D_law_draw.F.kp, D_law_draw.b⟩
  obtain ⟨tD, hD⟩ := N.dp
  have Gth : FnOk P w K mg base CX0 30 _ _ ["thing", "deepest"] (spThZ K 28) := ok_thsZ Dis_thing B Dis_integer Dis_signs hB 28
  have Gpk : FnOk P w K mg base CX0 33 _ _ ["thing"] (spPkG K) := ok_packedG Dpacked.F B Dis_thing Dis_integer Dis_signs D_text_of hB hD
  have Gse : FnOk P w K mg base CX0 34 _ _ ["thing"] (spSe K) := ok_sealed Dsealed.F R2 Dcheck Dpacked.g Dpacked.F.kp Dpacked.b Gpk
  have Gwl : FnOk P w K mg base CX0 35 _ _ ["entries", "number", "many"] (spWl K) := ok_wl Dwritten_lines.F B Dsealed Gse Dcheck_behind Gcb
  have Gak : FnOk P w K mg base CX0 4 _ _ ["self", "k"] (spAck C) := ok_ack Mak.F T
  have DR : Dr P w K mg base C aW := ⟨B, T, W, ⟨_, _, Ma, Gar⟩, ⟨_, _, Mgn, Gge⟩, ⟨_, _, Mp, Gap⟩, ⟨_, _, Mc, Gcl⟩, ⟨_, _, Ms, Gsh⟩, ⟨_, _, Dstanding, Gst⟩, ⟨_, _, D_counted, Gct⟩, ⟨_, _, Dwritten_lines, Gwl⟩, ⟨_, _, Dis_pair, Gpr⟩⟩
  have NR : Nr P w K mg base C aW := ⟨DR, ⟨_, _, Mak, Gak⟩, ⟨_, _, D_is_most, Gim⟩, ⟨_, _, Dis_thing, Gth⟩, ⟨tI, hI⟩⟩
  have Gop : FnOk P w K mg base CX0 71 _ _ ["disk"] (spOp C) := ok_opened Dopened.F DR
  have Gno : FnOk P w K mg base CX0 71 _ _ ["disk", "item", "most"] (spNo C) := ok_noted Dnoted.F NR
  have Gke : FnOk P w K mg base CX0 71 _ _ ["disk", "items", "most"] (spKe C) := ok_kept Dkept.F NR
  have Gtg : FnOk P w K mg base CX0 6 _ _ ["hand", "deep"] (spThing 0 2) := ok_things D_law_thing B DD D_law_any D_law_word 2
  have Gia2 : FnOk P w K mg base CX0 3 _ _ ["thing"] (spO areaU) := ok_isAreaO D_is_area.F Dis_count Gco
  have Gim2 : FnOk P w K mg base CX0 3 _ _ ["thing"] (spO mostU) := ok_isMostO D_is_most.F Dis_count Gco
  have DX : Dx P w K mg base CA CT CN := ⟨B, ⟨_, _, D_is_area, Gia2⟩, ⟨_, _, D_is_most, Gim2⟩, ⟨_, _, Dis_count, Gco⟩, ⟨_, _, Dis_lined, Gli⟩, EA, ET, EN⟩
  have Gth2 : FnOk P w K mg base CX0 30 _ _ ["thing", "deepest"] (spThO 28) := ok_thsO Dis_thing B Dis_integer Dis_signs hB 28
  have NX : Nx P w K mg base C CN CI CS := ⟨B, ⟨_, _, D_is_most, Gim2⟩, ⟨_, _, Dis_thing, Gth2⟩, ⟨_, _, Dstanding, Gst⟩, ⟨tI, hI⟩, EN, EI, ES⟩
  have Gln : FnOk P w K mg base CX0 69 _ _ ["text"] spLn := ok_lines Dlines.F D_counted Gct
  have Grs : FnOk P w K mg base CX0 69 _ _ ["text"] spRs := ok_rest Drest.F D_counted Gct
  have GarX : FnOk P w K mg base (L2.CX P w) 4 _ _ ["self", "k"] (spAreaX CA) := ok_areaX Ma.F DX
  have GclX : FnOk P w K mg base (L2.CX P w) 4 _ _ ["self", "k"] (spAreaX CA) := ok_clearX Mc.F DX
  have GapX : FnOk P w K mg base (L2.CX P w) 4 _ _ ["self", "k", "text", "most"] (spAppX CA CT CN) := ok_appX Mp.F DX
  have GshX : FnOk P w K mg base (L2.CX P w) 4 _ _ ["self", "k", "many"] (spShX C CA CN) := ok_shX Ms.F T DX
  have GlnX : FnOk P w K mg base (L2.CX P w) 4 _ _ ["text"] (spTextX CT) := ok_linesX Dlines.F D_counted DX
  have GrsX : FnOk P w K mg base (L2.CX P w) 4 _ _ ["text"] (spTextX CT) := ok_restX Drest.F D_counted DX
  have GnoX : FnOk P w K mg base (L2.CX P w) 71 _ _ ["disk", "item", "most"] (spNoX C CN CI CS) := ok_noX Dnoted.F NX
  have GkeX : FnOk P w K mg base (L2.CX P w) 71 _ _ ["disk", "items", "most"] (spKeX C CN CI CS) := ok_keX Dkept.F NX
  have Gan : FnOk P w K mg base CX0 2 _ _ ["hand", "things"] spAnyL := ok_anyL D_law_any.F B DD
  have Gfi : FnOk P w K mg base CX0 1 _ _ ["dues"] spFirst := ok_first D_law_first.F
  have Gof : FnOk P w K mg base CX0 1 _ _ ["thing", "word"] spOf := ok_of D_law_of.F
  have Gde : FnOk P w K mg base CX0 2 _ _ ["hand"] spDeep := ok_deep D_law_deep.F B DD
  have Gne : FnOk P w K mg base CX0 3 _ _ ["hand", "many"] (spNested C) := ok_nested D_law_nested.F B DD D_law_any
  have X : Tx P w K mg base C CA CT CN CI CS CH c Pt := ⟨B, T, ER, TB, ⟨_, _, D_law_refusal⟩, ⟨_, _, D_law_any, Gan⟩, ⟨_, _, D_law_first, Gfi⟩, ⟨_, _, D_law_of, Gof⟩, ⟨_, _, Mo, Gcp⟩, ⟨_, _, Ma, Gar, orX (liftX Gar) GarX⟩, ⟨_, _, Mp, orX (liftX Gap) GapX⟩, ⟨_, _, Mc, orX (liftX Gcl) GclX⟩, ⟨_, _, Ms, GshX⟩,
    ⟨_, _, Dlines, orX (liftX Gln) (GlnX.mono (by decide))⟩, ⟨_, _, Drest, orX (liftX Grs) (GrsX.mono (by decide))⟩, ⟨_, _, Dnoted, orX (liftX Gno) GnoX⟩, ⟨_, _, Dkept, orX (liftX Gke) GkeX⟩⟩
  have Y : Ty P w K mg base C := ⟨⟨_, _, D_law_hand, Ghd⟩, ⟨_, _, D_law_deep, Gde⟩, ⟨_, _, D_law_nested, Gne⟩, ⟨_, _, Mi, bi, Gin⟩, ⟨_, _, Dopened, Gop⟩, ⟨_, _, Dnoted, Gno⟩, ⟨_, _, D_law_thing, Gtg⟩⟩
  refine fn_of lk hcd scLaw (fun vs H Q E h => ?_) fun A outer s H vs Q E hr h => ?_
  · obtain ⟨a, ns, rfl, _⟩ := h
    rfl
  obtain ⟨a, ns, rfl, ha, hT, k⟩ := h
  obtain ⟨t, ht, hq⟩ := law_read X Y DD (E0' := E) (outer := outer) (H0 := H) hr
  exact ⟨t, ht.nox, hq _ a ns H ha hT k⟩
end
end Ht
namespace Ht
open PySem PySem.Spec PyProof.Rows L2
section
variable {K : PySem.W.Frag} {h : Heap} {mg : Str → Option Value}
theorem df_mk {x : Str} {st : Stmt} {ps : List Str} {f : Addr} {oc : Value} {od an : Option Addr} {sl : Array (Option Value)} {kV dc pm cd ct : Value} (X : K.In h) (G : h.Ns mainGlobals mg)
    (a : PySem.W.nsIn K mainGlobals x = some (some (.ref f))) (l : K.lookup f = some ⟨oc, od, .func (PySem.W.fnOf x x (defArgs st) (defBody st) (defScope st) .none kV dc pm an cd ct), sl⟩) (c : PySem.W.codeIn K cd x = true) (k : PySem.W.keepIn K (.ref f) = true)
    (b : ∀ (kV doc pm : Value) (an : Option Addr) (cdv ct : Value) (us : List Value), us.length = ps.length → bindArgs (PySem.W.fnOf x x (defArgs st) (defBody st) (defScope st) .none kV doc pm an cdv ct) ⟨us, []⟩ = pure (ps.zip us)) :
    Df K mg x st ps f (PySem.W.fnOf x x (defArgs st) (defBody st) (defScope st) .none kV dc pm an cd ct) := by
  have F := fun_mk (st := st) l c k
  exact ⟨F, F.binds b, PySem.W.mg_of X G a⟩
theorem exm_self {S : Addr} (h1 : PySem.W.subIn K (.ref S) (.type "BaseException") = some true) (h2 : PySem.W.isClsIn K S = true) (h3 : PySem.W.typeIn K (.ref S) = some (.type "type")) (h4 : PySem.W.subIn K (.ref S) (.ref S) = some true) :
    PySem.W.exmOne K (.ref S) (.ref S) = some true := by
  have e1 : (PySem.W.subIn K (.ref S) (.type "BaseException") == some true) = true := by rw [h1] <;> rfl
  have e2 : ((PySem.W.clsIn K S).isSome && PySem.W.typeIn K (.ref S) == some (.type "type")) = true := by
    have h2' : (PySem.W.clsIn K S).isSome = true := h2
    rw [h2', h3] <;> rfl
  show (if (PySem.W.subIn K (.ref S) (.type "BaseException") == some true) = true then (if ((PySem.W.clsIn K S).isSome && PySem.W.typeIn K (.ref S) == some (.type "type")) = true then PySem.W.subIn K (.ref S) (.ref S) else none) else none) = some true
  rw [if_pos e1, if_pos e2]
  exact h4
theorem gh_mk {x : Str} {C : Addr} (X : K.In h) (G : h.Ns mainGlobals mg) (a : PySem.W.nsIn K mainGlobals x = some (some (.ref C))) : mg x = some (.ref C) := PySem.W.mg_of X G a
theorem gi_mk {x : Str} {n : Int} {t : Tok} (X : K.In h) (G : h.Ns mainGlobals mg) (a : PySem.W.nsIn K mainGlobals x = some (some (.int n t))) : ∃ t, mg x = some (.int n t) := ⟨t, PySem.W.mg_of X G a⟩
theorem gn_mk {x : Str} (X : K.In h) (G : h.Ns mainGlobals mg) (a : PySem.W.nsIn K mainGlobals x = some none) : mg x = none := PySem.W.mg_none_of X G a
theorem bx_mk {C fI : Addr} {nm q : Str} {N : Addr} {bs bm : List Value} {sn : List Str} {sub : List Value} {ab : Bool} {col : Option Bool} {dd : Option Addr} {m0 m1 m2 m3 m5 : Option Value} {oc : Value} {od an : Option Addr} {sl : Array (Option Value)} {kV dc pm cd ct : Value} (X : K.In h) (G : h.Ns mainGlobals mg)
    (aC : PySem.W.nsIn K mainGlobals "BadText" = some (some (.ref C))) (xL : K.lookup C = some (excClassObj nm q C N bs bm true sn sub ab col dd m0 m1 m2 m3 m5 "ValueError.__new__")) (rv : PySem.HandSPX.refsVE bm = true)
    (sa : PySem.W.findIn K (.ref C) "__setattr__" = some (some (.builtin "object.__setattr__"))) (ga : PySem.W.findIn K (.ref C) "__getattribute__" = some (some (.builtin "BaseException.__getattribute__"))) (gg : PySem.W.findIn K (.ref C) "__getattr__" = some none)
    (nb : PySem.W.findIn K (.ref C) "place" = some none) (a1 : PySem.W.findIn K (.ref C) "__init__" = some (some (.ref fI))) (t1 : PySem.W.typeIn K (.ref fI) = some (.type "function"))
    (l1 : K.lookup fI = some ⟨oc, od, .func (PySem.W.fnOf "__init__" "BadText.__init__" (defArgs sBadInit) (defBody sBadInit) (defScope sBadInit) .none kV dc pm an cd ct), sl⟩) (c1 : PySem.W.codeIn K cd "BadText.__init__" = true) (kf : PySem.W.keepIn K (.ref fI) = true)
    (kC : PySem.W.keepIn K (.ref C) = true) (eC : PySem.W.subIn K (.ref C) (.type "BaseException") = some true) (tC : PySem.W.typeIn K (.ref C) = some (.type "type")) (hC : PySem.W.hasDictIn K C = true) (iC : PySem.W.isClsIn K C = true) (sC : PySem.W.subIn K (.ref C) (.ref C) = some true) : ∃ CB fI dI, Bx K mg CB fI dI := by
  have F := fun_mk (st := sBadInit) l1 c1 kf
  exact ⟨C, fI, _, ⟨PySem.W.mg_of X G aC, ⟨⟨nm, q, N, bs, bm, sn, sub, ab, col, dd, m0, m1, m2, m3, m5, xL, rv⟩, sa, eC, tC, kC⟩, a1, t1, F, F.binds (fun _ _ _ _ _ _ us hl => match us, hl with | [_, _], _ => rfl), nb, exm_self eC iC tC sC, ⟨ga, gg, eC, hC⟩⟩⟩

theorem kl_mk {C fini farea fack fgen fappend fclear fshorten fput fcopy feq : Addr} {ocini ocarea ocack ocgen ocappend occlear ocshorten ocput occopy oceq : Value} {odini anini odarea anarea odack anack odgen angen odappend anappend odclear anclear odshorten anshorten odput anput odcopy ancopy odeq aneq : Option Addr} {slini slarea slack slgen slappend slclear slshorten slput slcopy sleq : Array (Option Value)} {kVini dcini pmini cdini ctini kVarea dcarea pmarea cdarea ctarea kVack dcack pmack cdack ctack kVgen dcgen pmgen cdgen ctgen kVappend dcappend pmappend cdappend ctappend kVclear dcclear pmclear cdclear ctclear kVshorten dcshorten pmshorten cdshorten ctshorten kVput dcput pmput cdput ctput kVcopy dccopy pmcopy cdcopy ctcopy kVeq dceq pmeq cdeq cteq : Value} (X : K.In h) (G : h.Ns mainGlobals mg)
    (aC : PySem.W.nsIn K mainGlobals "Disk" = some (some (.ref C))) (pg : PySem.W.plainGet K C Str.empty = true) (hd : PySem.W.hasDictIn K C = true) (po : PySem.W.plainOver K C = true) (sa : PySem.W.findIn K (.ref C) "__setattr__" = some (some (.builtin "object.__setattr__")))
    (nA : PySem.W.findIn K (.ref C) "_areas" = some none) (nC : PySem.W.findIn K (.ref C) "_checks" = some none) (nG : PySem.W.findIn K (.ref C) "_generations" = some none) (ha : PySem.W.findIn K (.ref C) "__class__" = some (some (.builtin "object.__class__"))) (hn : PySem.W.specialIn K (.builtin "object.__class__") "__get__" = some (some (.builtin "getset_descriptor.__get__")))
    (htk : PySem.W.takesIn K (.builtin "object.__class__") = some true) (hm : PySem.W.mroIn K C (.type "object") = some true) (kS : PySem.W.kitOne K (.ref C) (.ref C) = some true) (kL : PySem.W.kitOne K (.type "list") (.ref C) = some false) (sub : PySem.W.subIn K (.type "list") (.ref C) = some false)
    (mk : PySem.W.makesIn K C = true) (kc : PySem.W.keepIn K (.ref C) = true)
    (aini : PySem.W.findIn K (.ref C) "__init__" = some (some (.ref fini))) (iini : PySem.W.isFn K (.ref fini) = true) (lini : K.lookup fini = some ⟨ocini, odini, .func (PySem.W.fnOf "__init__" "Disk.__init__" (defArgs (sDk 0)) (defBody (sDk 0)) (defScope (sDk 0)) .none kVini dcini pmini anini cdini ctini), slini⟩) (cini : PySem.W.codeIn K cdini "Disk.__init__" = true) (kini : PySem.W.keepIn K (.ref fini) = true)
    (aarea : PySem.W.findIn K (.ref C) "area" = some (some (.ref farea))) (iarea : PySem.W.isFn K (.ref farea) = true) (larea : K.lookup farea = some ⟨ocarea, odarea, .func (PySem.W.fnOf "area" "Disk.area" (defArgs (sDk 1)) (defBody (sDk 1)) (defScope (sDk 1)) .none kVarea dcarea pmarea anarea cdarea ctarea), slarea⟩) (carea : PySem.W.codeIn K cdarea "Disk.area" = true) (karea : PySem.W.keepIn K (.ref farea) = true)
    (aack : PySem.W.findIn K (.ref C) "area_check" = some (some (.ref fack))) (iack : PySem.W.isFn K (.ref fack) = true) (lack : K.lookup fack = some ⟨ocack, odack, .func (PySem.W.fnOf "area_check" "Disk.area_check" (defArgs (sDk 2)) (defBody (sDk 2)) (defScope (sDk 2)) .none kVack dcack pmack anack cdack ctack), slack⟩) (cack : PySem.W.codeIn K cdack "Disk.area_check" = true) (kack : PySem.W.keepIn K (.ref fack) = true)
    (agen : PySem.W.findIn K (.ref C) "generation" = some (some (.ref fgen))) (igen : PySem.W.isFn K (.ref fgen) = true) (lgen : K.lookup fgen = some ⟨ocgen, odgen, .func (PySem.W.fnOf "generation" "Disk.generation" (defArgs (sDk 3)) (defBody (sDk 3)) (defScope (sDk 3)) .none kVgen dcgen pmgen angen cdgen ctgen), slgen⟩) (cgen : PySem.W.codeIn K cdgen "Disk.generation" = true) (kgen : PySem.W.keepIn K (.ref fgen) = true)
    (aappend : PySem.W.findIn K (.ref C) "append" = some (some (.ref fappend))) (iappend : PySem.W.isFn K (.ref fappend) = true) (lappend : K.lookup fappend = some ⟨ocappend, odappend, .func (PySem.W.fnOf "append" "Disk.append" (defArgs (sDk 4)) (defBody (sDk 4)) (defScope (sDk 4)) .none kVappend dcappend pmappend anappend cdappend ctappend), slappend⟩) (cappend : PySem.W.codeIn K cdappend "Disk.append" = true) (kappend : PySem.W.keepIn K (.ref fappend) = true)
    (aclear : PySem.W.findIn K (.ref C) "clear" = some (some (.ref fclear))) (iclear : PySem.W.isFn K (.ref fclear) = true) (lclear : K.lookup fclear = some ⟨occlear, odclear, .func (PySem.W.fnOf "clear" "Disk.clear" (defArgs (sDk 5)) (defBody (sDk 5)) (defScope (sDk 5)) .none kVclear dcclear pmclear anclear cdclear ctclear), slclear⟩) (cclear : PySem.W.codeIn K cdclear "Disk.clear" = true) (kclear : PySem.W.keepIn K (.ref fclear) = true)
    (ashorten : PySem.W.findIn K (.ref C) "shorten" = some (some (.ref fshorten))) (ishorten : PySem.W.isFn K (.ref fshorten) = true) (lshorten : K.lookup fshorten = some ⟨ocshorten, odshorten, .func (PySem.W.fnOf "shorten" "Disk.shorten" (defArgs (sDk 6)) (defBody (sDk 6)) (defScope (sDk 6)) .none kVshorten dcshorten pmshorten anshorten cdshorten ctshorten), slshorten⟩) (cshorten : PySem.W.codeIn K cdshorten "Disk.shorten" = true) (kshorten : PySem.W.keepIn K (.ref fshorten) = true)
    (aput : PySem.W.findIn K (.ref C) "_put" = some (some (.ref fput))) (iput : PySem.W.isFn K (.ref fput) = true) (lput : K.lookup fput = some ⟨ocput, odput, .func (PySem.W.fnOf "_put" "Disk._put" (defArgs (sDk 7)) (defBody (sDk 7)) (defScope (sDk 7)) .none kVput dcput pmput anput cdput ctput), slput⟩) (cput : PySem.W.codeIn K cdput "Disk._put" = true) (kput : PySem.W.keepIn K (.ref fput) = true)
    (acopy : PySem.W.findIn K (.ref C) "copy" = some (some (.ref fcopy))) (icopy : PySem.W.isFn K (.ref fcopy) = true) (lcopy : K.lookup fcopy = some ⟨occopy, odcopy, .func (PySem.W.fnOf "copy" "Disk.copy" (defArgs (sDk 8)) (defBody (sDk 8)) (defScope (sDk 8)) .none kVcopy dccopy pmcopy ancopy cdcopy ctcopy), slcopy⟩) (ccopy : PySem.W.codeIn K cdcopy "Disk.copy" = true) (kcopy : PySem.W.keepIn K (.ref fcopy) = true)
    (aeq : PySem.W.findIn K (.ref C) "__eq__" = some (some (.ref feq))) (ieq : PySem.W.isFn K (.ref feq) = true) (leq : K.lookup feq = some ⟨oceq, odeq, .func (PySem.W.fnOf "__eq__" "Disk.__eq__" (defArgs (sDk 9)) (defBody (sDk 9)) (defScope (sDk 9)) .none kVeq dceq pmeq aneq cdeq cteq), sleq⟩) (ceq : PySem.W.codeIn K cdeq "Disk.__eq__" = true) (keq : PySem.W.keepIn K (.ref feq) = true) : ∃ C, Kl K mg C := by
  have Fini := fun_mk (st := sDk 0) lini cini kini
  have bini := Fini.binds (ps := ["self"]) fun _ _ _ _ _ _ us hl => match us, hl with | [_], _ => rfl
  have Farea := fun_mk (st := sDk 1) larea carea karea
  have barea := Farea.binds (ps := ["self", "k"]) fun _ _ _ _ _ _ us hl => match us, hl with | [_, _], _ => rfl
  have Fack := fun_mk (st := sDk 2) lack cack kack
  have back := Fack.binds (ps := ["self", "k"]) fun _ _ _ _ _ _ us hl => match us, hl with | [_, _], _ => rfl
  have Fgen := fun_mk (st := sDk 3) lgen cgen kgen
  have bgen := Fgen.binds (ps := ["self", "k"]) fun _ _ _ _ _ _ us hl => match us, hl with | [_, _], _ => rfl
  have Fappend := fun_mk (st := sDk 4) lappend cappend kappend
  have bappend := Fappend.binds (ps := ["self", "k", "text", "most"]) fun _ _ _ _ _ _ us hl => match us, hl with | [_, _, _, _], _ => rfl
  have Fclear := fun_mk (st := sDk 5) lclear cclear kclear
  have bclear := Fclear.binds (ps := ["self", "k"]) fun _ _ _ _ _ _ us hl => match us, hl with | [_, _], _ => rfl
  have Fshorten := fun_mk (st := sDk 6) lshorten cshorten kshorten
  have bshorten := Fshorten.binds (ps := ["self", "k", "many"]) fun _ _ _ _ _ _ us hl => match us, hl with | [_, _, _], _ => rfl
  have Fput := fun_mk (st := sDk 7) lput cput kput
  have bput := Fput.binds (ps := ["self", "k", "text"]) fun _ _ _ _ _ _ us hl => match us, hl with | [_, _, _], _ => rfl
  have Fcopy := fun_mk (st := sDk 8) lcopy ccopy kcopy
  have bcopy := Fcopy.binds (ps := ["self"]) fun _ _ _ _ _ _ us hl => match us, hl with | [_], _ => rfl
  have Feq := fun_mk (st := sDk 9) leq ceq keq
  have beq := Feq.binds (ps := ["self", "other"]) fun _ _ _ _ _ _ us hl => match us, hl with | [_, _], _ => rfl
  exact ⟨C, ⟨⟨pg, hd, po, sa⟩, nA, nC, nG, PySem.W.mg_of X G aC, ha, hn, htk, hm, kS, kL⟩, sub, ⟨fini, _, ⟨mk, aini, iini, kc⟩, bini, Fini⟩, ⟨farea, _, Farea, barea, ⟨aarea, iarea, karea⟩⟩, ⟨fack, _, Fack, back, ⟨aack, iack, kack⟩⟩, ⟨fgen, _, Fgen, bgen, ⟨agen, igen, kgen⟩⟩, ⟨fappend, _, Fappend, bappend, ⟨aappend, iappend, kappend⟩⟩, ⟨fclear, _, Fclear, bclear, ⟨aclear, iclear, kclear⟩⟩, ⟨fshorten, _, Fshorten, bshorten, ⟨ashorten, ishorten, kshorten⟩⟩, ⟨fput, _, Fput, bput, ⟨aput, iput, kput⟩⟩, ⟨fcopy, _, Fcopy, bcopy, ⟨acopy, icopy, kcopy⟩⟩, ⟨feq, _, Feq, beq, ⟨aeq, ieq, keq⟩⟩⟩
theorem wh_mk {a : Addr} {od : Option Addr} {t : Tok} {n : Nat} {sl : Array (Option Value)} (X : K.In h) (G : h.Ns mainGlobals mg) (g : PySem.W.nsIn K mainGlobals "WHOLE" = some (some (.ref a))) (l : K.lookup a = some ⟨.type "tuple", od, .seq #[.str "whole" t] n, sl⟩) : ∃ a, Wh K mg a :=
  ⟨a, PySem.W.mg_of X G g, fun H => .inr ⟨_, _, _, l, rfl, rfl, by show (1 : Nat) ≤ sizeLine; decide, .cons ⟨_, rfl⟩ .nil⟩⟩
theorem gs_mk {x : Str} {n : Str} {t : Tok} (X : K.In h) (G : h.Ns mainGlobals mg) (a : PySem.W.nsIn K mainGlobals x = some (some (.str n t))) : ∃ t, mg x = some (.str n t) := ⟨t, PySem.W.mg_of X G a⟩
theorem exm_to {S T : Addr} (h1 : PySem.W.subIn K (.ref T) (.type "BaseException") = some true) (h2 : PySem.W.isClsIn K T = true) (h3 : PySem.W.typeIn K (.ref T) = some (.type "type")) (h4 : PySem.W.subIn K (.ref S) (.ref T) = some true) :
    PySem.W.exmOne K (.ref S) (.ref T) = some true := by
  have e1 : (PySem.W.subIn K (.ref T) (.type "BaseException") == some true) = true := by rw [h1] <;> rfl
  have e2 : ((PySem.W.clsIn K T).isSome && PySem.W.typeIn K (.ref T) == some (.type "type")) = true := by
    have h2' : (PySem.W.clsIn K T).isSome = true := h2
    rw [h2', h3] <;> rfl
  show (if (PySem.W.subIn K (.ref T) (.type "BaseException") == some true) = true then (if ((PySem.W.clsIn K T).isSome && PySem.W.typeIn K (.ref T) == some (.type "type")) = true then PySem.W.subIn K (.ref S) (.ref T) else none) else none) = some true
  rw [if_pos e1, if_pos e2]
  exact h4
theorem ec_mk {x : Str} {C : Addr} (X : K.In h) (G : h.Ns mainGlobals mg) (a : PySem.W.nsIn K mainGlobals x = some (some (.ref C)))
    (q : PySem.W.excIn K C [.type "ValueError", .type "Exception", .type "BaseException", .type "object"] "ValueError.__new__" = true) (k : PySem.W.keepIn K (.ref C) = true) (b : PySem.W.subIn K (.ref C) (.type "BaseException") = some true)
    (t : PySem.W.typeIn K (.ref C) = some (.type "type")) (i : PySem.W.isClsIn K C = true) (s : PySem.W.subIn K (.ref C) (.ref C) = some true) : Ec K mg x C := ⟨PySem.W.mg_of X G a, q, k, b, t, exm_self b i t s⟩
theorem er_mk {C0 C1 C2 C3 C4 CH : Addr} (X : K.In h) (G : h.Ns mainGlobals mg)
    (a0 : PySem.W.nsIn K mainGlobals "NoArea" = some (some (.ref C0))) (q0 : PySem.W.excIn K C0 [.type "ValueError", .type "Exception", .type "BaseException", .type "object"] "ValueError.__new__" = true) (k0 : PySem.W.keepIn K (.ref C0) = true) (b0 : PySem.W.subIn K (.ref C0) (.type "BaseException") = some true) (t0 : PySem.W.typeIn K (.ref C0) = some (.type "type")) (i0 : PySem.W.isClsIn K C0 = true) (s0 : PySem.W.subIn K (.ref C0) (.ref C0) = some true)
    (u0 : PySem.W.findIn K (.ref C0) "__getattribute__" = some (some (.builtin "BaseException.__getattribute__"))) (v0 : PySem.W.findIn K (.ref C0) "__getattr__" = some none) (w0 : PySem.W.hasDictIn K C0 = true) (x0 : PySem.W.findIn K (.ref C0) "__class__" = some (some (.builtin "object.__class__"))) (m0 : PySem.W.mroIn K C0 (.type "object") = some true) (h0 : PySem.W.subIn K (.ref C0) (.ref CH) = some true)
    (a1 : PySem.W.nsIn K mainGlobals "NoText" = some (some (.ref C1))) (q1 : PySem.W.excIn K C1 [.type "ValueError", .type "Exception", .type "BaseException", .type "object"] "ValueError.__new__" = true) (k1 : PySem.W.keepIn K (.ref C1) = true) (b1 : PySem.W.subIn K (.ref C1) (.type "BaseException") = some true) (t1 : PySem.W.typeIn K (.ref C1) = some (.type "type")) (i1 : PySem.W.isClsIn K C1 = true) (s1 : PySem.W.subIn K (.ref C1) (.ref C1) = some true)
    (u1 : PySem.W.findIn K (.ref C1) "__getattribute__" = some (some (.builtin "BaseException.__getattribute__"))) (v1 : PySem.W.findIn K (.ref C1) "__getattr__" = some none) (w1 : PySem.W.hasDictIn K C1 = true) (x1 : PySem.W.findIn K (.ref C1) "__class__" = some (some (.builtin "object.__class__"))) (m1 : PySem.W.mroIn K C1 (.type "object") = some true) (h1 : PySem.W.subIn K (.ref C1) (.ref CH) = some true)
    (a2 : PySem.W.nsIn K mainGlobals "NoNumber" = some (some (.ref C2))) (q2 : PySem.W.excIn K C2 [.type "ValueError", .type "Exception", .type "BaseException", .type "object"] "ValueError.__new__" = true) (k2 : PySem.W.keepIn K (.ref C2) = true) (b2 : PySem.W.subIn K (.ref C2) (.type "BaseException") = some true) (t2 : PySem.W.typeIn K (.ref C2) = some (.type "type")) (i2 : PySem.W.isClsIn K C2 = true) (s2 : PySem.W.subIn K (.ref C2) (.ref C2) = some true)
    (u2 : PySem.W.findIn K (.ref C2) "__getattribute__" = some (some (.builtin "BaseException.__getattribute__"))) (v2 : PySem.W.findIn K (.ref C2) "__getattr__" = some none) (w2 : PySem.W.hasDictIn K C2 = true) (x2 : PySem.W.findIn K (.ref C2) "__class__" = some (some (.builtin "object.__class__"))) (m2 : PySem.W.mroIn K C2 (.type "object") = some true) (h2 : PySem.W.subIn K (.ref C2) (.ref CH) = some true)
    (a3 : PySem.W.nsIn K mainGlobals "NoItems" = some (some (.ref C3))) (q3 : PySem.W.excIn K C3 [.type "ValueError", .type "Exception", .type "BaseException", .type "object"] "ValueError.__new__" = true) (k3 : PySem.W.keepIn K (.ref C3) = true) (b3 : PySem.W.subIn K (.ref C3) (.type "BaseException") = some true) (t3 : PySem.W.typeIn K (.ref C3) = some (.type "type")) (i3 : PySem.W.isClsIn K C3 = true) (s3 : PySem.W.subIn K (.ref C3) (.ref C3) = some true)
    (u3 : PySem.W.findIn K (.ref C3) "__getattribute__" = some (some (.builtin "BaseException.__getattribute__"))) (v3 : PySem.W.findIn K (.ref C3) "__getattr__" = some none) (w3 : PySem.W.hasDictIn K C3 = true) (x3 : PySem.W.findIn K (.ref C3) "__class__" = some (some (.builtin "object.__class__"))) (m3 : PySem.W.mroIn K C3 (.type "object") = some true) (h3 : PySem.W.subIn K (.ref C3) (.ref CH) = some true)
    (a4 : PySem.W.nsIn K mainGlobals "NoStand" = some (some (.ref C4))) (q4 : PySem.W.excIn K C4 [.type "ValueError", .type "Exception", .type "BaseException", .type "object"] "ValueError.__new__" = true) (k4 : PySem.W.keepIn K (.ref C4) = true) (b4 : PySem.W.subIn K (.ref C4) (.type "BaseException") = some true) (t4 : PySem.W.typeIn K (.ref C4) = some (.type "type")) (i4 : PySem.W.isClsIn K C4 = true) (s4 : PySem.W.subIn K (.ref C4) (.ref C4) = some true)
    (u4 : PySem.W.findIn K (.ref C4) "__getattribute__" = some (some (.builtin "BaseException.__getattribute__"))) (v4 : PySem.W.findIn K (.ref C4) "__getattr__" = some none) (w4 : PySem.W.hasDictIn K C4 = true) (x4 : PySem.W.findIn K (.ref C4) "__class__" = some (some (.builtin "object.__class__"))) (m4 : PySem.W.mroIn K C4 (.type "object") = some true) (h4 : PySem.W.subIn K (.ref C4) (.ref CH) = some true)
    (k00 : PySem.W.kitOne K (.ref C0) (.ref C0) = some true) (k01 : PySem.W.kitOne K (.ref C0) (.ref C1) = some false) (k02 : PySem.W.kitOne K (.ref C0) (.ref C2) = some false) (k03 : PySem.W.kitOne K (.ref C0) (.ref C3) = some false) (k04 : PySem.W.kitOne K (.ref C0) (.ref C4) = some false) (k10 : PySem.W.kitOne K (.ref C1) (.ref C0) = some false) (k11 : PySem.W.kitOne K (.ref C1) (.ref C1) = some true) (k12 : PySem.W.kitOne K (.ref C1) (.ref C2) = some false) (k13 : PySem.W.kitOne K (.ref C1) (.ref C3) = some false) (k14 : PySem.W.kitOne K (.ref C1) (.ref C4) = some false) (k20 : PySem.W.kitOne K (.ref C2) (.ref C0) = some false) (k21 : PySem.W.kitOne K (.ref C2) (.ref C1) = some false) (k22 : PySem.W.kitOne K (.ref C2) (.ref C2) = some true) (k23 : PySem.W.kitOne K (.ref C2) (.ref C3) = some false) (k24 : PySem.W.kitOne K (.ref C2) (.ref C4) = some false) (k30 : PySem.W.kitOne K (.ref C3) (.ref C0) = some false) (k31 : PySem.W.kitOne K (.ref C3) (.ref C1) = some false) (k32 : PySem.W.kitOne K (.ref C3) (.ref C2) = some false) (k33 : PySem.W.kitOne K (.ref C3) (.ref C3) = some true) (k34 : PySem.W.kitOne K (.ref C3) (.ref C4) = some false) (k40 : PySem.W.kitOne K (.ref C4) (.ref C0) = some false) (k41 : PySem.W.kitOne K (.ref C4) (.ref C1) = some false) (k42 : PySem.W.kitOne K (.ref C4) (.ref C2) = some false) (k43 : PySem.W.kitOne K (.ref C4) (.ref C3) = some false) (k44 : PySem.W.kitOne K (.ref C4) (.ref C4) = some true)
    (aH : PySem.W.nsIn K mainGlobals "HomeError" = some (some (.ref CH))) (bH : PySem.W.subIn K (.ref CH) (.type "BaseException") = some true) (iH : PySem.W.isClsIn K CH = true) (tH : PySem.W.typeIn K (.ref CH) = some (.type "type"))
    (sp : PySem.W.specialIn K (.builtin "object.__class__") "__get__" = some (some (.builtin "getset_descriptor.__get__"))) (tk : PySem.W.takesIn K (.builtin "object.__class__") = some true) :
    ∃ CA CT CN CI CS CH, Er K mg (csE CA CT CN CI CS) CH ∧ Ec K mg "NoArea" CA ∧ Ec K mg "NoText" CT ∧ Ec K mg "NoNumber" CN ∧ Ec K mg "NoItems" CI ∧ Ec K mg "NoStand" CS :=
  ⟨C0, C1, C2, C3, C4, CH, ⟨fun i => match i with | 0 => PySem.W.mg_of X G a0 | 1 => PySem.W.mg_of X G a1 | 2 => PySem.W.mg_of X G a2 | 3 => PySem.W.mg_of X G a3 | 4 => PySem.W.mg_of X G a4,
    fun i => match i with | 0 => ⟨u0, v0, b0, w0, x0, sp, tk, m0⟩ | 1 => ⟨u1, v1, b1, w1, x1, sp, tk, m1⟩ | 2 => ⟨u2, v2, b2, w2, x2, sp, tk, m2⟩ | 3 => ⟨u3, v3, b3, w3, x3, sp, tk, m3⟩ | 4 => ⟨u4, v4, b4, w4, x4, sp, tk, m4⟩,
    fun i j => match i, j with | 0, 0 => k00 | 0, 1 => k01 | 0, 2 => k02 | 0, 3 => k03 | 0, 4 => k04 | 1, 0 => k10 | 1, 1 => k11 | 1, 2 => k12 | 1, 3 => k13 | 1, 4 => k14 | 2, 0 => k20 | 2, 1 => k21 | 2, 2 => k22 | 2, 3 => k23 | 2, 4 => k24 | 3, 0 => k30 | 3, 1 => k31 | 3, 2 => k32 | 3, 3 => k33 | 3, 4 => k34 | 4, 0 => k40 | 4, 1 => k41 | 4, 2 => k42 | 4, 3 => k43 | 4, 4 => k44,
    fun i => match i with | 0 => exm_to bH iH tH h0 | 1 => exm_to bH iH tH h1 | 2 => exm_to bH iH tH h2 | 3 => exm_to bH iH tH h3 | 4 => exm_to bH iH tH h4, PySem.W.mg_of X G aH⟩,
    ec_mk X G a0 q0 k0 b0 t0 i0 s0, ec_mk X G a1 q1 k1 b1 t1 i1 s1, ec_mk X G a2 q2 k2 b2 t2 i2 s2, ec_mk X G a3 q3 k3 b3 t3 i3 s3, ec_mk X G a4 q4 k4 b4 t4 i4 s4⟩
theorem law_mk {l : PySem.W.OpenLaw} {w : World} {f fa c Pt : Addr} {oc : Value} {od an dd2 : Option Addr} {sl sl2 : Array (Option Value)} {vs : Array Value} {kV dc pm ct : Value} {file : Str} {flags text : Int} {inF : Bool} {tf tg tt : Tok} (X : K.In h) (G : h.Ns mainGlobals mg) (hfa : mg "law" = some (.ref fa)) (own : LamX.OwnTab K fa h)
    (a : PySem.W.nsIn K mainGlobals "law" = some (some (.ref f))) (lk : K.lookup f = some ⟨oc, od, .func (PySem.W.fnOf "law" "law" (defArgs lLaw) (defBody lLaw) (defScope lLaw) .none kV dc pm an (.ref c) ct), sl⟩) (hc : PySem.W.codeIn K (.ref c) "law" = true)
    (lc : K.lookup c = some ⟨.type "code", dd2, .fields vs, sl2⟩) (v11 : vs[11]? = some (.ref Pt)) (v18 : vs.getD 18 .none = .str file tf) (v7 : vs.getD 7 .none = .int flags tg) (v9 : vs.getD 9 .none = .bool inF) (v10 : vs.getD 10 .none = .int text tt) (lP : K.lookup Pt = none)
    (A0 : La K mg) : LamX.LawAtS l w K CX0 74 63 "script" mg fa h := by
  have e := hfa.symm.trans (PySem.W.mg_of X G a)
  cases e
  have hP := own c Pt _ _ _ _ _ _ lk rfl rfl lc v11
  have cp : c ≠ Pt := fun z => by rw [z, lP] at lc; cases lc
  have g11 : vs.getD 11 .none = .ref Pt := by
    rw [Array.getD_eq_getD_getElem?, v11]
    rfl
  refine ⟨PySem.W.fnOf "law" "law" (defArgs lLaw) (defBody lLaw) (defScope lLaw) .none kV dc pm an (.ref c) ct, [(c, Pt)], spLawT K Pt, fun p hp => ?_, fun p hp => ?_, fun p hp => ?_, fun s v => .of_eq rfl, fun H a ns hl _ hT hS => ⟨a, ns, rfl, hS, hT (c, Pt) (List.mem_singleton.mpr rfl), fun _ => rfl⟩, fun base _ _ hTB => ok_law lk hc (hTB (c, Pt) (List.mem_singleton.mpr rfl)) A0⟩
  · rw [List.mem_singleton.mp hp]
    exact hP
  · rw [List.mem_singleton.mp hp]
    exact lP
  · rw [List.mem_singleton.mp hp]
    exact ⟨_, vs, file, tf, flags, tg, inF, text, tt, X _ _ lc, rfl, rfl, v11, g11, v18, v7, v9, v10, cp⟩
end
end Ht
open PySem PySem.W PyProof.Rows
set_option maxRecDepth 100000 in
set_option maxHeartbeats 0 in
theorem PySem.Challenge.cw_homeshold_k34_disks_refused_holds : PySem.Challenge.rw_homeshold_k34_disks_refused.Holds := by
  w_on; o_law; k_head; (case hw => w_witness2)
  k_fill
  refine LamX.walk_ofOwn (l := PySem.Challenge.rw_homeshold_k34_disks_refused) (n := 63) (k := 74) (x := "script") (CX := fun _ => L2.CX0) rfl (by decide) rfl ⟨rfl, by decide, by decide⟩ ?hrec (fun w h Y => PySem.W.km_in_of Y) ?F (fun _ _ _ _ _ h => h)
  case hrec => first | rfl | decide +kernel
  case F =>
    intro w mg fa h _ KX G hmg own
    obtain his_integer : ∃ f fd, Ht.Df _ mg "is_integer" Ht.sIsInt ["thing"] f fd := by
      refine' ⟨_, _, Ht.df_mk KX G ?a ?l ?c ?k (fun _ _ _ _ _ _ us hl => match us, hl with | [_], _ => rfl)⟩
      (case a => k_is); (case l => k_is); (case c => k_is); (case k => k_is)
    obtain his_count : ∃ f fd, Ht.Df _ mg "is_count" Ht.sCount ["thing"] f fd := by
      refine' ⟨_, _, Ht.df_mk KX G ?a ?l ?c ?k (fun _ _ _ _ _ _ us hl => match us, hl with | [_], _ => rfl)⟩
      (case a => k_is); (case l => k_is); (case c => k_is); (case k => k_is)
    obtain his_pair : ∃ f fd, Ht.Df _ mg "is_pair" Ht.sPair ["thing"] f fd := by
      refine' ⟨_, _, Ht.df_mk KX G ?a ?l ?c ?k (fun _ _ _ _ _ _ us hl => match us, hl with | [_], _ => rfl)⟩
      (case a => k_is); (case l => k_is); (case c => k_is); (case k => k_is)
    obtain his_signs : ∃ f fd, Ht.Df _ mg "is_signs" Ht.sIsSigns ["thing"] f fd := by
      refine' ⟨_, _, Ht.df_mk KX G ?a ?l ?c ?k (fun _ _ _ _ _ _ us hl => match us, hl with | [_], _ => rfl)⟩
      (case a => k_is); (case l => k_is); (case c => k_is); (case k => k_is)
    obtain his_lined : ∃ f fd, Ht.Df _ mg "is_lined" Ht.sIsLined ["thing"] f fd := by
      refine' ⟨_, _, Ht.df_mk KX G ?a ?l ?c ?k (fun _ _ _ _ _ _ us hl => match us, hl with | [_], _ => rfl)⟩
      (case a => k_is); (case l => k_is); (case c => k_is); (case k => k_is)
    obtain his_thing : ∃ f fd, Ht.Df _ mg "is_thing" Ht.sIsThing ["thing", "deepest"] f fd := by
      refine' ⟨_, _, Ht.df_mk KX G ?a ?l ?c ?k (fun _ _ _ _ _ _ us hl => match us, hl with | [_, _], _ => rfl)⟩
      (case a => k_is); (case l => k_is); (case c => k_is); (case k => k_is)
    obtain hpacked : ∃ f fd, Ht.Df _ mg "packed" Ht.sPackedP ["thing"] f fd := by
      refine' ⟨_, _, Ht.df_mk KX G ?a ?l ?c ?k (fun _ _ _ _ _ _ us hl => match us, hl with | [_], _ => rfl)⟩
      (case a => k_is); (case l => k_is); (case c => k_is); (case k => k_is)
    obtain h_text_of : ∃ f fd, Ht.Df _ mg "_text_of" Ht.sTextOf ["thing"] f fd := by
      refine' ⟨_, _, Ht.df_mk KX G ?a ?l ?c ?k (fun _ _ _ _ _ _ us hl => match us, hl with | [_], _ => rfl)⟩
      (case a => k_is); (case l => k_is); (case c => k_is); (case k => k_is)
    obtain hunpacked : ∃ f fd, Ht.Df _ mg "unpacked" Ht.sUnpacked ["text"] f fd := by
      refine' ⟨_, _, Ht.df_mk KX G ?a ?l ?c ?k (fun _ _ _ _ _ _ us hl => match us, hl with | [_], _ => rfl)⟩
      (case a => k_is); (case l => k_is); (case c => k_is); (case k => k_is)
    obtain h_read_thing : ∃ f fd, Ht.Df _ mg "_read_thing" Ht.sReadThing ["text", "place", "depth"] f fd := by
      refine' ⟨_, _, Ht.df_mk KX G ?a ?l ?c ?k (fun _ _ _ _ _ _ us hl => match us, hl with | [_, _, _], _ => rfl)⟩
      (case a => k_is); (case l => k_is); (case c => k_is); (case k => k_is)
    obtain h_read_tuple : ∃ f fd, Ht.Df _ mg "_read_tuple" Ht.sReadTuple ["text", "place", "depth"] f fd := by
      refine' ⟨_, _, Ht.df_mk KX G ?a ?l ?c ?k (fun _ _ _ _ _ _ us hl => match us, hl with | [_, _, _], _ => rfl)⟩
      (case a => k_is); (case l => k_is); (case c => k_is); (case k => k_is)
    obtain h_read_string : ∃ f fd, Ht.Df _ mg "_read_string" Ht.sReadStr ["text", "place"] f fd := by
      refine' ⟨_, _, Ht.df_mk KX G ?a ?l ?c ?k (fun _ _ _ _ _ _ us hl => match us, hl with | [_, _], _ => rfl)⟩
      (case a => k_is); (case l => k_is); (case c => k_is); (case k => k_is)
    obtain h_read_integer : ∃ f fd, Ht.Df _ mg "_read_integer" Ht.sReadInt ["text", "place"] f fd := by
      refine' ⟨_, _, Ht.df_mk KX G ?a ?l ?c ?k (fun _ _ _ _ _ _ us hl => match us, hl with | [_, _], _ => rfl)⟩
      (case a => k_is); (case l => k_is); (case c => k_is); (case k => k_is)
    obtain hcheck : ∃ f fd, Ht.Df _ mg "check" Ht.sCheck ["text"] f fd := by
      refine' ⟨_, _, Ht.df_mk KX G ?a ?l ?c ?k (fun _ _ _ _ _ _ us hl => match us, hl with | [_], _ => rfl)⟩
      (case a => k_is); (case l => k_is); (case c => k_is); (case k => k_is)
    obtain hcheck_behind : ∃ f fd, Ht.Df _ mg "check_behind" Ht.sCheckB ["number", "many", "text"] f fd := by
      refine' ⟨_, _, Ht.df_mk KX G ?a ?l ?c ?k (fun _ _ _ _ _ _ us hl => match us, hl with | [_, _, _], _ => rfl)⟩
      (case a => k_is); (case l => k_is); (case c => k_is); (case k => k_is)
    obtain hsealed : ∃ f fd, Ht.Df _ mg "sealed" Ht.sSealed ["thing"] f fd := by
      refine' ⟨_, _, Ht.df_mk KX G ?a ?l ?c ?k (fun _ _ _ _ _ _ us hl => match us, hl with | [_], _ => rfl)⟩
      (case a => k_is); (case l => k_is); (case c => k_is); (case k => k_is)
    obtain hunsealed : ∃ f fd, Ht.Df _ mg "unsealed" Ht.sUnsealed ["text"] f fd := by
      refine' ⟨_, _, Ht.df_mk KX G ?a ?l ?c ?k (fun _ _ _ _ _ _ us hl => match us, hl with | [_], _ => rfl)⟩
      (case a => k_is); (case l => k_is); (case c => k_is); (case k => k_is)
    obtain h_is_area : ∃ f fd, Ht.Df _ mg "_is_area" Ht.sIsArea ["thing"] f fd := by
      refine' ⟨_, _, Ht.df_mk KX G ?a ?l ?c ?k (fun _ _ _ _ _ _ us hl => match us, hl with | [_], _ => rfl)⟩
      (case a => k_is); (case l => k_is); (case c => k_is); (case k => k_is)
    obtain h_is_most : ∃ f fd, Ht.Df _ mg "_is_most" Ht.sIsMost ["thing"] f fd := by
      refine' ⟨_, _, Ht.df_mk KX G ?a ?l ?c ?k (fun _ _ _ _ _ _ us hl => match us, hl with | [_], _ => rfl)⟩
      (case a => k_is); (case l => k_is); (case c => k_is); (case k => k_is)
    obtain h_line_at : ∃ f fd, Ht.Df _ mg "_line_at" Ht.sLineAt ["text", "place", "number"] f fd := by
      refine' ⟨_, _, Ht.df_mk KX G ?a ?l ?c ?k (fun _ _ _ _ _ _ us hl => match us, hl with | [_, _, _], _ => rfl)⟩
      (case a => k_is); (case l => k_is); (case c => k_is); (case k => k_is)
    obtain h_counted : ∃ f fd, Ht.Df _ mg "_counted" Ht.sCounted ["text"] f fd := by
      refine' ⟨_, _, Ht.df_mk KX G ?a ?l ?c ?k (fun _ _ _ _ _ _ us hl => match us, hl with | [_], _ => rfl)⟩
      (case a => k_is); (case l => k_is); (case c => k_is); (case k => k_is)
    obtain h_generation : ∃ f fd, Ht.Df _ mg "_generation" Ht.sGener ["text"] f fd := by
      refine' ⟨_, _, Ht.df_mk KX G ?a ?l ?c ?k (fun _ _ _ _ _ _ us hl => match us, hl with | [_], _ => rfl)⟩
      (case a => k_is); (case l => k_is); (case c => k_is); (case k => k_is)
    obtain hstanding : ∃ f fd, Ht.Df _ mg "standing" Ht.sStand ["disk"] f fd := by
      refine' ⟨_, _, Ht.df_mk KX G ?a ?l ?c ?k (fun _ _ _ _ _ _ us hl => match us, hl with | [_], _ => rfl)⟩
      (case a => k_is); (case l => k_is); (case c => k_is); (case k => k_is)
    obtain hopened : ∃ f fd, Ht.Df _ mg "opened" Ht.sOpened ["disk"] f fd := by
      refine' ⟨_, _, Ht.df_mk KX G ?a ?l ?c ?k (fun _ _ _ _ _ _ us hl => match us, hl with | [_], _ => rfl)⟩
      (case a => k_is); (case l => k_is); (case c => k_is); (case k => k_is)
    obtain hwritten_lines : ∃ f fd, Ht.Df _ mg "written_lines" Ht.sWl ["entries", "number", "many"] f fd := by
      refine' ⟨_, _, Ht.df_mk KX G ?a ?l ?c ?k (fun _ _ _ _ _ _ us hl => match us, hl with | [_, _, _], _ => rfl)⟩
      (case a => k_is); (case l => k_is); (case c => k_is); (case k => k_is)
    obtain hnoted : ∃ f fd, Ht.Df _ mg "noted" Ht.sNoted ["disk", "item", "most"] f fd := by
      refine' ⟨_, _, Ht.df_mk KX G ?a ?l ?c ?k (fun _ _ _ _ _ _ us hl => match us, hl with | [_, _, _], _ => rfl)⟩
      (case a => k_is); (case l => k_is); (case c => k_is); (case k => k_is)
    obtain hkept : ∃ f fd, Ht.Df _ mg "kept" Ht.sKept ["disk", "items", "most"] f fd := by
      refine' ⟨_, _, Ht.df_mk KX G ?a ?l ?c ?k (fun _ _ _ _ _ _ us hl => match us, hl with | [_, _, _], _ => rfl)⟩
      (case a => k_is); (case l => k_is); (case c => k_is); (case k => k_is)
    obtain h_law_hand : ∃ f fd, Ht.Df _ mg "_law_hand" Ht.sHand ["script"] f fd := by
      refine' ⟨_, _, Ht.df_mk KX G ?a ?l ?c ?k (fun _ _ _ _ _ _ us hl => match us, hl with | [_], _ => rfl)⟩
      (case a => k_is); (case l => k_is); (case c => k_is); (case k => k_is)
    obtain h_law_draw : ∃ f fd, Ht.Df _ mg "_law_draw" Ht.sDraw ["hand", "many"] f fd := by
      refine' ⟨_, _, Ht.df_mk KX G ?a ?l ?c ?k (fun _ _ _ _ _ _ us hl => match us, hl with | [_, _], _ => rfl)⟩
      (case a => k_is); (case l => k_is); (case c => k_is); (case k => k_is)
    obtain h_law_any : ∃ f fd, Ht.Df _ mg "_law_any" Ht.sAny ["hand", "things"] f fd := by
      refine' ⟨_, _, Ht.df_mk KX G ?a ?l ?c ?k (fun _ _ _ _ _ _ us hl => match us, hl with | [_, _], _ => rfl)⟩
      (case a => k_is); (case l => k_is); (case c => k_is); (case k => k_is)
    obtain h_law_word : ∃ f fd, Ht.Df _ mg "_law_word" Ht.sWord ["hand"] f fd := by
      refine' ⟨_, _, Ht.df_mk KX G ?a ?l ?c ?k (fun _ _ _ _ _ _ us hl => match us, hl with | [_], _ => rfl)⟩
      (case a => k_is); (case l => k_is); (case c => k_is); (case k => k_is)
    obtain h_law_thing : ∃ f fd, Ht.Df _ mg "_law_thing" Ht.sThing ["hand", "deep"] f fd := by
      refine' ⟨_, _, Ht.df_mk KX G ?a ?l ?c ?k (fun _ _ _ _ _ _ us hl => match us, hl with | [_, _], _ => rfl)⟩
      (case a => k_is); (case l => k_is); (case c => k_is); (case k => k_is)
    obtain hlines : ∃ f fd, Ht.Df _ mg "lines" Ht.sLines ["text"] f fd := by
      refine' ⟨_, _, Ht.df_mk KX G ?a ?l ?c ?k (fun _ _ _ _ _ _ us hl => match us, hl with | [_], _ => rfl)⟩
      (case a => k_is); (case l => k_is); (case c => k_is); (case k => k_is)
    obtain hrest : ∃ f fd, Ht.Df _ mg "rest" Ht.sRest ["text"] f fd := by
      refine' ⟨_, _, Ht.df_mk KX G ?a ?l ?c ?k (fun _ _ _ _ _ _ us hl => match us, hl with | [_], _ => rfl)⟩
      (case a => k_is); (case l => k_is); (case c => k_is); (case k => k_is)
    obtain h_law_nested : ∃ f fd, Ht.Df _ mg "_law_nested" Ht.sNested ["hand", "many"] f fd := by
      refine' ⟨_, _, Ht.df_mk KX G ?a ?l ?c ?k (fun _ _ _ _ _ _ us hl => match us, hl with | [_, _], _ => rfl)⟩
      (case a => k_is); (case l => k_is); (case c => k_is); (case k => k_is)
    obtain h_law_deep : ∃ f fd, Ht.Df _ mg "_law_deep" Ht.lDeep ["hand"] f fd := by
      refine' ⟨_, _, Ht.df_mk KX G ?a ?l ?c ?k (fun _ _ _ _ _ _ us hl => match us, hl with | [_], _ => rfl)⟩
      (case a => k_is); (case l => k_is); (case c => k_is); (case k => k_is)
    obtain h_law_refusal : ∃ f fd, Ht.Df _ mg "_law_refusal" Ht.lRefusal ["ask"] f fd := by
      refine' ⟨_, _, Ht.df_mk KX G ?a ?l ?c ?k (fun _ _ _ _ _ _ us hl => match us, hl with | [_], _ => rfl)⟩
      (case a => k_is); (case l => k_is); (case c => k_is); (case k => k_is)
    obtain h_law_first : ∃ f fd, Ht.Df _ mg "_law_first" Ht.lFirstW ["dues"] f fd := by
      refine' ⟨_, _, Ht.df_mk KX G ?a ?l ?c ?k (fun _ _ _ _ _ _ us hl => match us, hl with | [_], _ => rfl)⟩
      (case a => k_is); (case l => k_is); (case c => k_is); (case k => k_is)
    obtain h_law_of : ∃ f fd, Ht.Df _ mg "_law_of" Ht.lOf ["thing", "word"] f fd := by
      refine' ⟨_, _, Ht.df_mk KX G ?a ?l ?c ?k (fun _ _ _ _ _ _ us hl => match us, hl with | [_, _], _ => rfl)⟩
      (case a => k_is); (case l => k_is); (case c => k_is); (case k => k_is)
    obtain eB : ∃ CB fI dI, Ht.Bx _ mg CB fI dI := by
      refine' Ht.bx_mk KX G ?aC ?xL ?rv ?sa ?ga ?gg ?nb ?a1 ?t1 ?l1 ?c1 ?kf ?kC ?eC ?tC ?hC ?iC ?sC
      (case aC => k_is); (case xL => k_is); (case rv => decide +kernel); (case sa => k_is); (case ga => k_is); (case gg => k_is); (case nb => k_is)
      (case a1 => k_is); (case t1 => k_is); (case l1 => k_is); (case c1 => k_is); (case kf => k_is)
      (case kC => k_is); (case eC => k_is); (case tC => k_is); (case hC => k_is); (case iC => k_is); (case sC => first | rfl | k_is)
    obtain kD : ∃ C, Ht.Kl _ mg C := by
      refine' Ht.kl_mk KX G ?aC ?pg ?hd ?po ?sa ?nA ?nC ?nG ?ha ?hn ?htk ?hm ?kS ?kL ?sub ?mk ?kc ?aini ?iini ?lini ?cini ?kini ?aarea ?iarea ?larea ?carea ?karea ?aack ?iack ?lack ?cack ?kack ?agen ?igen ?lgen ?cgen ?kgen ?aappend ?iappend ?lappend ?cappend ?kappend ?aclear ?iclear ?lclear ?cclear ?kclear ?ashorten ?ishorten ?lshorten ?cshorten ?kshorten ?aput ?iput ?lput ?cput ?kput ?acopy ?icopy ?lcopy ?ccopy ?kcopy ?aeq ?ieq ?leq ?ceq ?keq
      (case aC => first | k_is | rfl | decide +kernel)
      (case pg => first | k_is | rfl | decide +kernel)
      (case hd => first | k_is | rfl | decide +kernel)
      (case po => first | k_is | rfl | decide +kernel)
      (case sa => first | k_is | rfl | decide +kernel)
      (case nA => first | k_is | rfl | decide +kernel)
      (case nC => first | k_is | rfl | decide +kernel)
      (case nG => first | k_is | rfl | decide +kernel)
      (case ha => first | k_is | rfl | decide +kernel)
      (case hn => first | k_is | rfl | decide +kernel)
      (case htk => first | k_is | rfl | decide +kernel)
      (case hm => first | k_is | rfl | decide +kernel)
      (case kS => first | k_is | rfl | decide +kernel)
      (case kL => first | k_is | rfl | decide +kernel)
      (case sub => first | k_is | rfl | decide +kernel)
      (case mk => first | k_is | rfl | decide +kernel)
      (case kc => first | k_is | rfl | decide +kernel)
      (case aini => first | k_is | rfl | decide +kernel)
      (case iini => first | k_is | rfl | decide +kernel)
      (case lini => first | k_is | rfl | decide +kernel)
      (case cini => first | k_is | rfl | decide +kernel)
      (case kini => first | k_is | rfl | decide +kernel)
      (case aarea => first | k_is | rfl | decide +kernel)
      (case iarea => first | k_is | rfl | decide +kernel)
      (case larea => first | k_is | rfl | decide +kernel)
      (case carea => first | k_is | rfl | decide +kernel)
      (case karea => first | k_is | rfl | decide +kernel)
      (case aack => first | k_is | rfl | decide +kernel)
      (case iack => first | k_is | rfl | decide +kernel)
      (case lack => first | k_is | rfl | decide +kernel)
      (case cack => first | k_is | rfl | decide +kernel)
      (case kack => first | k_is | rfl | decide +kernel)
      (case agen => first | k_is | rfl | decide +kernel)
      (case igen => first | k_is | rfl | decide +kernel)
      (case lgen => first | k_is | rfl | decide +kernel)
      (case cgen => first | k_is | rfl | decide +kernel)
      (case kgen => first | k_is | rfl | decide +kernel)
      (case aappend => first | k_is | rfl | decide +kernel)
      (case iappend => first | k_is | rfl | decide +kernel)
      (case lappend => first | k_is | rfl | decide +kernel)
      (case cappend => first | k_is | rfl | decide +kernel)
      (case kappend => first | k_is | rfl | decide +kernel)
      (case aclear => first | k_is | rfl | decide +kernel)
      (case iclear => first | k_is | rfl | decide +kernel)
      (case lclear => first | k_is | rfl | decide +kernel)
      (case cclear => first | k_is | rfl | decide +kernel)
      (case kclear => first | k_is | rfl | decide +kernel)
      (case ashorten => first | k_is | rfl | decide +kernel)
      (case ishorten => first | k_is | rfl | decide +kernel)
      (case lshorten => first | k_is | rfl | decide +kernel)
      (case cshorten => first | k_is | rfl | decide +kernel)
      (case kshorten => first | k_is | rfl | decide +kernel)
      (case aput => first | k_is | rfl | decide +kernel)
      (case iput => first | k_is | rfl | decide +kernel)
      (case lput => first | k_is | rfl | decide +kernel)
      (case cput => first | k_is | rfl | decide +kernel)
      (case kput => first | k_is | rfl | decide +kernel)
      (case acopy => first | k_is | rfl | decide +kernel)
      (case icopy => first | k_is | rfl | decide +kernel)
      (case lcopy => first | k_is | rfl | decide +kernel)
      (case ccopy => first | k_is | rfl | decide +kernel)
      (case kcopy => first | k_is | rfl | decide +kernel)
      (case aeq => first | k_is | rfl | decide +kernel)
      (case ieq => first | k_is | rfl | decide +kernel)
      (case leq => first | k_is | rfl | decide +kernel)
      (case ceq => first | k_is | rfl | decide +kernel)
      (case keq => first | k_is | rfl | decide +kernel)
    obtain eW : ∃ a, Ht.Wh _ mg a := by
      refine' Ht.wh_mk KX G ?g ?l
      (case g => k_is); (case l => k_is)
    obtain eE : ∃ CA CT CN CI CS CH, Ht.Er _ mg (Ht.csE CA CT CN CI CS) CH ∧ Ht.Ec _ mg "NoArea" CA ∧ Ht.Ec _ mg "NoText" CT ∧ Ht.Ec _ mg "NoNumber" CN ∧ Ht.Ec _ mg "NoItems" CI ∧ Ht.Ec _ mg "NoStand" CS := by
      refine' Ht.er_mk KX G ?a0 ?q0 ?k0 ?b0 ?t0 ?i0 ?s0 ?u0 ?v0 ?w0 ?x0 ?m0 ?h0 ?a1 ?q1 ?k1 ?b1 ?t1 ?i1 ?s1 ?u1 ?v1 ?w1 ?x1 ?m1 ?h1 ?a2 ?q2 ?k2 ?b2 ?t2 ?i2 ?s2 ?u2 ?v2 ?w2 ?x2 ?m2 ?h2 ?a3 ?q3 ?k3 ?b3 ?t3 ?i3 ?s3 ?u3 ?v3 ?w3 ?x3 ?m3 ?h3 ?a4 ?q4 ?k4 ?b4 ?t4 ?i4 ?s4 ?u4 ?v4 ?w4 ?x4 ?m4 ?h4 ?k00 ?k01 ?k02 ?k03 ?k04 ?k10 ?k11 ?k12 ?k13 ?k14 ?k20 ?k21 ?k22 ?k23 ?k24 ?k30 ?k31 ?k32 ?k33 ?k34 ?k40 ?k41 ?k42 ?k43 ?k44 ?aH ?bH ?iH ?tH ?sp ?tk
      (case a0 => first | k_is | rfl | decide +kernel)
      (case q0 => k_exc)
      (case k0 => first | k_is | rfl | decide +kernel)
      (case b0 => first | k_is | rfl | decide +kernel)
      (case t0 => first | k_is | rfl | decide +kernel)
      (case i0 => first | k_is | rfl | decide +kernel)
      (case s0 => first | k_is | rfl | decide +kernel)
      (case u0 => first | k_is | rfl | decide +kernel)
      (case v0 => first | k_is | rfl | decide +kernel)
      (case w0 => first | k_is | rfl | decide +kernel)
      (case x0 => first | k_is | rfl | decide +kernel)
      (case m0 => first | k_is | rfl | decide +kernel)
      (case a1 => first | k_is | rfl | decide +kernel)
      (case q1 => k_exc)
      (case k1 => first | k_is | rfl | decide +kernel)
      (case b1 => first | k_is | rfl | decide +kernel)
      (case t1 => first | k_is | rfl | decide +kernel)
      (case i1 => first | k_is | rfl | decide +kernel)
      (case s1 => first | k_is | rfl | decide +kernel)
      (case u1 => first | k_is | rfl | decide +kernel)
      (case v1 => first | k_is | rfl | decide +kernel)
      (case w1 => first | k_is | rfl | decide +kernel)
      (case x1 => first | k_is | rfl | decide +kernel)
      (case m1 => first | k_is | rfl | decide +kernel)
      (case a2 => first | k_is | rfl | decide +kernel)
      (case q2 => k_exc)
      (case k2 => first | k_is | rfl | decide +kernel)
      (case b2 => first | k_is | rfl | decide +kernel)
      (case t2 => first | k_is | rfl | decide +kernel)
      (case i2 => first | k_is | rfl | decide +kernel)
      (case s2 => first | k_is | rfl | decide +kernel)
      (case u2 => first | k_is | rfl | decide +kernel)
      (case v2 => first | k_is | rfl | decide +kernel)
      (case w2 => first | k_is | rfl | decide +kernel)
      (case x2 => first | k_is | rfl | decide +kernel)
      (case m2 => first | k_is | rfl | decide +kernel)
      (case a3 => first | k_is | rfl | decide +kernel)
      (case q3 => k_exc)
      (case k3 => first | k_is | rfl | decide +kernel)
      (case b3 => first | k_is | rfl | decide +kernel)
      (case t3 => first | k_is | rfl | decide +kernel)
      (case i3 => first | k_is | rfl | decide +kernel)
      (case s3 => first | k_is | rfl | decide +kernel)
      (case u3 => first | k_is | rfl | decide +kernel)
      (case v3 => first | k_is | rfl | decide +kernel)
      (case w3 => first | k_is | rfl | decide +kernel)
      (case x3 => first | k_is | rfl | decide +kernel)
      (case m3 => first | k_is | rfl | decide +kernel)
      (case a4 => first | k_is | rfl | decide +kernel)
      (case q4 => k_exc)
      (case k4 => first | k_is | rfl | decide +kernel)
      (case b4 => first | k_is | rfl | decide +kernel)
      (case t4 => first | k_is | rfl | decide +kernel)
      (case i4 => first | k_is | rfl | decide +kernel)
      (case s4 => first | k_is | rfl | decide +kernel)
      (case u4 => first | k_is | rfl | decide +kernel)
      (case v4 => first | k_is | rfl | decide +kernel)
      (case w4 => first | k_is | rfl | decide +kernel)
      (case x4 => first | k_is | rfl | decide +kernel)
      (case m4 => first | k_is | rfl | decide +kernel)
      (case k00 => first | k_is | rfl | decide +kernel)
      (case k01 => first | k_is | rfl | decide +kernel)
      (case k02 => first | k_is | rfl | decide +kernel)
      (case k03 => first | k_is | rfl | decide +kernel)
      (case k04 => first | k_is | rfl | decide +kernel)
      (case k10 => first | k_is | rfl | decide +kernel)
      (case k11 => first | k_is | rfl | decide +kernel)
      (case k12 => first | k_is | rfl | decide +kernel)
      (case k13 => first | k_is | rfl | decide +kernel)
      (case k14 => first | k_is | rfl | decide +kernel)
      (case k20 => first | k_is | rfl | decide +kernel)
      (case k21 => first | k_is | rfl | decide +kernel)
      (case k22 => first | k_is | rfl | decide +kernel)
      (case k23 => first | k_is | rfl | decide +kernel)
      (case k24 => first | k_is | rfl | decide +kernel)
      (case k30 => first | k_is | rfl | decide +kernel)
      (case k31 => first | k_is | rfl | decide +kernel)
      (case k32 => first | k_is | rfl | decide +kernel)
      (case k33 => first | k_is | rfl | decide +kernel)
      (case k34 => first | k_is | rfl | decide +kernel)
      (case k40 => first | k_is | rfl | decide +kernel)
      (case k41 => first | k_is | rfl | decide +kernel)
      (case k42 => first | k_is | rfl | decide +kernel)
      (case k43 => first | k_is | rfl | decide +kernel)
      (case k44 => first | k_is | rfl | decide +kernel)
      (case aH => first | k_is | rfl | decide +kernel)
      (case bH => first | k_is | rfl | decide +kernel)
      (case iH => first | k_is | rfl | decide +kernel)
      (case tH => first | k_is | rfl | decide +kernel)
      (case h0 => first | k_is | rfl | decide +kernel)
      (case h1 => first | k_is | rfl | decide +kernel)
      (case h2 => first | k_is | rfl | decide +kernel)
      (case h3 => first | k_is | rfl | decide +kernel)
      (case h4 => first | k_is | rfl | decide +kernel)
      (case sp => first | k_is | rfl | decide +kernel)
      (case tk => first | k_is | rfl | decide +kernel)
    have nDG : ∃ t, mg "DIGITS" = some (.str "0123456789" t) := by
      refine' Ht.gs_mk KX G ?a
      (case a => k_is)
    have nMOST_DIGITS : ∃ t, mg "MOST_DIGITS" = some (.int 30 t) := by
      refine' Ht.gi_mk KX G ?a
      (case a => k_is)
    have nDEEPEST : ∃ t, mg "DEEPEST" = some (.int 30 t) := by
      refine' Ht.gi_mk KX G ?a
      (case a => k_is)
    have nBOUND : ∃ t, mg "BOUND" = some (.int (10 ^ 30) t) := by
      refine' Ht.gi_mk KX G ?a
      (case a => k_is)
    have nITEM_DEPTH : ∃ t, mg "ITEM_DEPTH" = some (.int 28 t) := by
      refine' Ht.gi_mk KX G ?a
      (case a => k_is)
    have nCHECK_PRIME : ∃ t, mg "CHECK_PRIME" = some (.int 99991 t) := by
      refine' Ht.gi_mk KX G ?a
      (case a => k_is)
    have b_int : mg "int" = none := by
      refine' Ht.gn_mk KX G ?a
      (case a => k_is)
    have b_len : mg "len" = none := by
      refine' Ht.gn_mk KX G ?a
      (case a => k_is)
    have b_range : mg "range" = none := by
      refine' Ht.gn_mk KX G ?a
      (case a => k_is)
    have b_all : mg "all" = none := by
      refine' Ht.gn_mk KX G ?a
      (case a => k_is)
    have b_isinstance : mg "isinstance" = none := by
      refine' Ht.gn_mk KX G ?a
      (case a => k_is)
    have b_tuple : mg "tuple" = none := by
      refine' Ht.gn_mk KX G ?a
      (case a => k_is)
    have b_list : mg "list" = none := by
      refine' Ht.gn_mk KX G ?a
      (case a => k_is)
    have b_str : mg "str" = none := by
      refine' Ht.gn_mk KX G ?a
      (case a => k_is)
    have b_max : mg "max" = none := by
      refine' Ht.gn_mk KX G ?a
      (case a => k_is)
    have b_bool : mg "bool" = none := by
      refine' Ht.gn_mk KX G ?a
      (case a => k_is)
    have b_abs : mg "abs" = none := by
      refine' Ht.gn_mk KX G ?a
      (case a => k_is)
    have b_ord : mg "ord" = none := by
      refine' Ht.gn_mk KX G ?a
      (case a => k_is)
    have b_sum : mg "sum" = none := by
      refine' Ht.gn_mk KX G ?a
      (case a => k_is)
    have b_enumerate : mg "enumerate" = none := by
      refine' Ht.gn_mk KX G ?a
      (case a => k_is)
    refine' Ht.law_mk KX G hmg own ?a ?l ?c ?lc ?v11 ?v18 ?v7 ?v9 ?v10 ?lP ⟨⟨b_int, b_len, b_range, b_all, b_isinstance, b_tuple, b_list, b_str, b_max, b_bool, b_abs⟩, ⟨b_ord, b_sum, b_enumerate⟩, ⟨nDG, nMOST_DIGITS, nDEEPEST⟩, nCHECK_PRIME, eB, eW, kD, nBOUND, nITEM_DEPTH, eE, his_integer, his_count, his_pair, his_signs, his_lined, his_thing, hpacked, h_text_of, hunpacked, h_read_thing, h_read_tuple, h_read_string, h_read_integer, hcheck, hcheck_behind, hsealed, hunsealed, h_is_area, h_is_most, h_line_at, h_counted, h_generation, hstanding, hopened, hwritten_lines, hnoted, hkept, h_law_hand, h_law_draw, h_law_any, h_law_word, h_law_thing, hlines, hrest, h_law_nested, h_law_deep, h_law_refusal, h_law_first, h_law_of⟩
    (case a => k_is); (case l => k_is); (case c => k_is); (case lc => k_is); (case v11 => rfl); (case v18 => rfl); (case v7 => rfl); (case v9 => rfl); (case v10 => rfl); (case lP => first | k_is | rfl | decide +kernel)
