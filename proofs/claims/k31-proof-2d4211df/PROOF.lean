import PyProof.Rows.All
import Wide.All
import OpenK.AllK
import Wide.FinOn
import HandS.ForMost
import HandS.Exc
import HandS.ExcOwn
import HandS.ExcValue
import HandS.IsInst
import PyProof.ReprReads
import PyProof.ReprRoads
import PyProof.ExcRepr
import KE.KExcStr
import HandS.ExcIs
import HandS.Evl
import HandS.TryMany
import HandS.WordsExc
import HandS.Small
import HandS.TupAny
import HandS.Walk
import HandS.Deep
import HandS.Wide
import PyProof.FitsInt
import HandS.Steps
import HandS.ReplaceList
import HandS.ReplaceLit
import HandS.ReplaceDef
import HandS.ExcInit
import HandS.ExcField
import HandS.Style
import PyProof.Rows.StrRev
import PyProof.Rows.StrStep
import HandS.Codes
import KE.GoesEnumKw
import KE.GoesNew
import PyProof.StrLawsLast
import HandS.TryOnly
import PyProof.StrLawsFirst
import PyProof.StrBlock2
import PyProof.Rows.StrJoinRep
import PyProof.Rows.StrMul
import PySem.Challenge.RW_homeshold_k31_whole_checks_and_sealed_te
set_option Elab.async false
set_option linter.all false
set_option maxRecDepth 100000
namespace PySem
open Sem (wp)
open Builtin Builtin.Str Builtin.BaseException Builtin.Exceptions
open PySem.W (Looks Frag findIn subIn looks_findIn looks_subIn)
section
variable {prog : Program} {w : World} {K : Frag} {C e t0 : Addr} {h₀ : Heap}
/-- an exception of the class C without arguments -/
def HxExc (C e t0 : Addr) (h : Heap) : Prop := (∃ o vs, h.get? e = some o ∧ o.cls = .ref C ∧ o.data = .fields vs ∧ vs[0]? = some (.ref t0) ∧ o.dict = none) ∧ ∃ o n, h.get? t0 = some o ∧ o.cls = .type "tuple" ∧ o.data = .seq #[] n
theorem HxExc.mono {h h' : Heap} (x : HxExc C e t0 h) (k : ∀ b o, h.get? b = some o → h'.get? b = some o) : HxExc C e t0 h' := by
  obtain ⟨⟨o, vs, h1, h2⟩, o', n, h3, h4⟩ := x
  exact ⟨⟨o, vs, k _ _ h1, h2⟩, o', n, k _ _ h3, h4⟩
/-- the class's name -/
def HxName (K : Frag) (C : Addr) (nm : Str) : Prop := ∃ o cd, K.lookup C = some o ∧ o.data = .cls cd ∧ Str.ofString ((cd.name.toString.cutAt '.').getLastD "") = nm
theorem hx_typeName {M : Model} {A : Around} {E : Value → Shared → Prop} {s : Shared} {nm : Str} {Q : String → Shared → Prop} (X : K.In s.heap) (x : HxExc C e t0 s.heap) (n : HxName K C nm) (hq : ∀ z : String, Str.ofString ((z.cutAt '.').getLastD "") = nm → Q z s) : wpAny M A (typeNameOfWhole (.ref e)) Q E s := by
  obtain ⟨⟨o, vs, h1, h2, _⟩, _⟩ := x
  obtain ⟨oc, cd, hc, hd, hn⟩ := n
  have ty : ∀ {Q : Value → Shared → Prop}, Q (.ref C) s → wpAny M A (typeOf (.ref e)) Q E s := fun q => wpAny_typeOf_ref h1 (by rw [h2]; exact q)
  unfold typeNameOfWhole shownTypeOf
  refine wpAny_bind (wpAny_bind (ty ?_))
  have e1 : ((Value.ref C == Value.type "builtin_function_or_method") = true) = False := by simp
  rw [if_neg (by rw [e1]; exact id)]
  refine wpAny_pure ?_
  unfold typeNameWhole classData
  refine wpAny_bind (wpAny_bind (wpAny_load (X C oc hc) ?_))
  rw [hd]
  exact wpAny_pure (wpAny_pure (hq _ hn))
/-- where the class's repr is the base's -/
structure HxRepr (K : Frag) (C : Addr) (nm : Str) : Prop where
  name : HxName K C nm
  find : findIn K (.ref C) "__repr__" = some (some (.builtin "BaseException.__repr__"))
  sub : subIn K (.ref C) (.type "BaseException") = some true
theorem hx_looks {M : Model} {h : Heap} (x : HxExc C e t0 h) : Looks M h (typeOf (.ref e)) (.ref C) := fun A Q E s k q => by
  obtain ⟨⟨o, vs, ho, hc, _⟩, _⟩ := x
  exact wpAny_typeOf_ref (k _ _ ho) (by rw [hc]; exact q)
theorem hx_tuple (x : HxExc C e t0 h₀) : ReprK prog w [t0] h₀ 1 (.ref t0) "()" := by
  obtain ⟨_, o, n, h1, h2, h3⟩ := x
  exact ReprK.tuple (ts := []) (as := []) (d := 0) h1 h2 h3 (by simp) .nil
theorem bexcArgs_T {M : Model} {A : Around} {E : Value → Shared → Prop} {s : Shared} {items : List Value} {Q : Value × List Value → Shared → Prop} (x : ∃ o vs, s.heap.get? e = some o ∧ o.data = .fields vs ∧ vs[0]? = some (.ref t0)) (ht : s.heap.TupAt t0 items) (hq : Q (.ref t0, items) s) :
    wpAny M A (bexcArgs (.ref e)) Q E s := by
  obtain ⟨o, vs, ho, hd, h0⟩ := x
  obtain ⟨ot, k, hto, _, htd⟩ := ht
  unfold bexcArgs
  refine wpAny_bind (wpAny_field ho hd h0 (wpAny_bind (wpAny_seqItems hto htd ?_)))
  have : items.toArray.toList = items := by simp
  show wpAny M A (pure (Value.ref t0, items.toArray.toList)) Q E s
  rw [this]; exact wpAny_pure hq
/-- the body of the base's repr -/
theorem hx_body {A : Around} {g : List Code} {E : Value → Shared → Prop} {s : Shared} {nm : Str} {base : Nat} {Q : Fin → Shared → Prop} (X : K.In h₀) (x : HxExc C e t0 h₀) (R : HxRepr K C nm) (hb : base + (nm ++ "()").length ≤ sizeLine)
    (hg : A.guards = some g) (hcl : Clear g t0) (hu : A.units + 1 < cLine) (hk : ∀ b o, h₀.get? b = some o → s.heap.get? b = some o)
    (hQ : ∀ h' u tk, (∀ b o, s.heap.get? b = some o → h'.get? b = some o) → Q (.done (.ret (.str (nm ++ "()") u))) { s with heap := h', toks := tk }) :
    wpAny (model prog w) A (Builtin.bexcReprAt base ⟨[.ref e], []⟩) Q E s := by
  have xs : HxExc C e t0 s.heap := x.mono hk
  obtain ⟨⟨o, vs, h1, h2, h3, h4, _⟩, ot, n, g1, g2, g3⟩ := id xs
  have e2 : (nm ++ "()").length = nm.length + 2 := by
    rw [strLen_append]
    rfl
  unfold Builtin.bexcReprAt
  repeat (first | with_reducible refine hx_typeName (fun a o q => hk _ _ (X a o q)) xs R.name (fun z hz => ?_) | wp_step)
  rw [h2]
  obtain ⟨oc, cd, hc, hd, hn⟩ := R.name
  show wpAny _ _ (do let c ← classData C; pure c.name.toString) _ _ _
  unfold classData
  refine wpAny_bind (wpAny_bind (wpAny_load (hk _ _ (X C oc hc)) ?_))
  rw [hd]
  refine wpAny_pure (wpAny_pure ?_)
  dsimp only
  rw [hn]
  refine wpAny_bind (bexcArgs_T (items := []) ⟨o, vs, h1, h3, h4⟩ ⟨ot, n, g1, g2, g3⟩ ?_)
  dsimp only
  refine wpAny_bind (hx_tuple x (base + nm.length) (by have : ("()" : Str).length = 2 := rfl; omega) A g E s _ hg (fun b hb => by rw [List.mem_singleton.mp hb]; exact hcl) (by omega) hk fun h' tk hk' => ?_)
  refine wpAny_bind (wpAny_mkStr (x := nm ++ ("()" : Str)) (wpAny_pure ?_) (by omega))
  exact hQ h' _ _ hk'
theorem hx_by {A : Around} {E : Value → Shared → Prop} {s : Shared} {last : Value → List Value → Sem Value} {Q : Option Value → Shared → Prop}
    (sp : ∀ {A : Around} {E : Value → Shared → Prop} {Q : Option Value → Shared → Prop}, Q (some (.builtin "BaseException.__repr__")) s → wpAny (model prog w) A (specialOf (.ref e) (Str.ofString "__repr__")) Q E s)
    (hc : wpAny (model prog w) A (last (.builtin "BaseException.__repr__") [.ref e]) (fun v => Q (some v)) E s) : wpAny (model prog w) A (callSpecialIfBoundBy? last (.ref e) (Str.ofString "__repr__")) Q E s := by
  simp only [callSpecialIfBoundBy?, bindSpecialIfBound?]
  refine wpAny_holding (wpAny_bind (wpAny_bind (sp ?_)))
  simp only [F.excStr_Exception.repr.bind]
  refine wpAny_bind (wpAny_askSetting (wpAny_ite ?_))
  have fin : wpAny (model prog w) A (last (.builtin "BaseException.__repr__") [.ref e] >>= fun v => pure (some v)) Q E s :=
    wpAny_bind (wpAny_mono hc (fun v s' h' => wpAny_pure h') fun _ _ h' => h')
  split
  · exact wpAny_bind (wpAny_pure (wpAny_pure fin))
  · exact wpAny_tryCatch (wpAny_bind (wpAny_pure (wpAny_pure fin)))
theorem hx_bound {A : Around} {E : Value → Shared → Prop} {s : Shared} {Q : Option Value → Shared → Prop}
    (sp : ∀ {A : Around} {E : Value → Shared → Prop} {Q : Option Value → Shared → Prop}, Q (some (.builtin "BaseException.__repr__")) s → wpAny (model prog w) A (specialOf (.ref e) (Str.ofString "__repr__")) Q E s)
    (hc : wpAny (model prog w) A (call (.builtin "BaseException.__repr__") [.ref e]) (fun v => Q (some v)) E s) : wpAny (model prog w) A (callSpecialIfBound? (.ref e) (Str.ofString "__repr__")) Q E s := by
  simp only [callSpecialIfBound?, bindSpecialIfBound?]
  refine wpAny_holding (wpAny_bind (wpAny_bind (sp ?_)))
  simp only [F.excStr_Exception.repr.bind]
  refine wpAny_bind (wpAny_askSetting (wpAny_ite ?_))
  have fin : wpAny (model prog w) A (call (.builtin "BaseException.__repr__") ([.ref e] ++ []) >>= fun v => pure (some v)) Q E s :=
    wpAny_bind (wpAny_mono hc (fun v s' h' => wpAny_pure h') fun _ _ h' => h')
  split
  · exact wpAny_bind (wpAny_pure (wpAny_pure fin))
  · exact wpAny_tryCatch (wpAny_bind (wpAny_pure (wpAny_pure fin)))
/-- repr of such an exception, within another repr -/
theorem hx_repr {nm : Str} (X : K.In h₀) (x : HxExc C e t0 h₀) (R : HxRepr K C nm) (hne : ∀ b ∈ ([] : List Addr), b ≠ e) : ReprK prog w [e, t0] h₀ 3 (.ref e) (nm ++ "()") := by
  intro base hb A g E s Q hg hcl hu hk0 hQ
  have xs := x.mono hk0
  have hf : Looks (model prog w) s.heap (typeLookup (.ref C) (Str.ofString "__repr__")) (some (.builtin "BaseException.__repr__")) := looks_findIn (fun a o q => hk0 _ _ (X a o q)) R.find
  have hi : Looks (model prog w) s.heap (isInstance (.ref e) (.type "BaseException")) true := (hx_looks xs).andThen (looks_subIn (fun a o q => hk0 _ _ (X a o q)) R.sub)
  refine wpAny_pyReprUnder_ref (by omega) ?_
  unfold pyReprObjUnder pyReprObjBy
  refine wpAny_bind (wpAny_cRoomFor (by omega) ?_)
  have sp : ∀ {A : Around} {E : Value → Shared → Prop} {Q : Option Value → Shared → Prop}, Q (some (.builtin "BaseException.__repr__")) s → wpAny (model prog w) A (specialOf (.ref e) (Str.ofString "__repr__")) Q E s := fun q => by
    unfold specialOf
    exact wpAny_bind ((hx_looks xs).here (hf.here q))
  refine wpAny_bind (sp ?_)
  refine wpAny_bind (hx_by sp ?_)
  show wpAny (model prog w) A (call (.builtin "BaseException.__repr__.under") [.ref e, rawInt base]) _ _ _
  refine wpAny_call (codeAny_call_builtin F.plain_bexc_repr_under F.entry_bexc_repr_under ?_)
  rw [F.check_bexc_repr_under]
  refine wpAny_pure ?_
  unfold Builtin.«BaseException.__repr__.under»
  rw [reprTwin_eq]
  refine wpAny_bind (@PySem.W.check_slot (model prog w) _ _ s "BaseException.__repr__" "BaseException" "__repr__" (.ref e) [] [] _ (by decide +kernel) (by decide +kernel) hi (F.args_bexc_repr _) ?_)
  refine hx_body X x R hb (g := g) hg (hcl t0 (by simp)) (by show A.units + 1 + 1 < cLine; omega) hk0 fun h' u tk hk => ?_
  exact wpAny_bind (wpAny_isInstance (T := "str") (b := true) rfl isSubtype_str_str (wpAny_pure ⟨_, _, rfl, hQ h' tk hk⟩))
/-- repr of such an exception by itself -/
theorem hx_reprTop {nm : Str} {A : Around} {E : Value → Shared → Prop} {s : Shared} {Q : Value → Shared → Prop} (X : K.In s.heap) (x : HxExc C e t0 s.heap) (R : HxRepr K C nm) (hb : (nm ++ "()").length ≤ sizeLine) (hg : A.guards = some []) (hu : A.units + 4 < cLine)
    (hQ : ∀ h' u tk, (∀ b o, s.heap.get? b = some o → h'.get? b = some o) → Q (.str (nm ++ "()") u) { s with heap := h', toks := tk }) : wpAny (model prog w) A (call (.builtin "repr") [.ref e]) Q E s := by
  have hf : Looks (model prog w) s.heap (typeLookup (.ref C) (Str.ofString "__repr__")) (some (.builtin "BaseException.__repr__")) := looks_findIn X R.find
  have hi : Looks (model prog w) s.heap (isInstance (.ref e) (.type "BaseException")) true := (hx_looks x).andThen (looks_subIn X R.sub)
  have sp : ∀ {A : Around} {E : Value → Shared → Prop} {Q : Option Value → Shared → Prop}, Q (some (.builtin "BaseException.__repr__")) s → wpAny (model prog w) A (specialOf (.ref e) (Str.ofString "__repr__")) Q E s := fun q => by
    unfold specialOf
    exact wpAny_bind ((hx_looks x).here (hf.here q))
  refine Calls.call_function_entry F.kind_repr F.plain_repr F.entry_repr (F.args_repr1 _) ?_
  unfold Builtin.«repr»
  refine wpAny_bind (m := oneArg "repr" _) (wpAny_pure ?_)
  refine wpAny_bind (m := cRoomFor _ _) (wpAny_cRoomFor (by show A.units + 1 < cLine; omega) ?_)
  refine wpAny_bind (sp ?_)
  refine wpAny_bind (m := callSpecialIfBound? (.ref e) (Str.ofString "__repr__")) (hx_bound sp ?_)
  refine wpAny_call (codeAny_call_builtin F.excStr_Exception.repr.plain F.entry_bexc_repr ?_)
  refine @PySem.W.check_slot (model prog w) _ _ s "BaseException.__repr__" "BaseException" "__repr__" (.ref e) [] [] _ (by decide +kernel) (by decide +kernel) hi (F.args_bexc_repr _) ?_
  refine hx_body (base := 0) X x R (by rw [Nat.zero_add]; exact hb) (g := []) hg (Clear.nil t0) (by show A.units + 1 + 1 + 1 < cLine; omega) (fun _ _ q => q) fun h' u tk hk => ?_
  exact wpAny_bind (wpAny_isInstance (T := "str") (b := true) rfl isSubtype_str_str (wpAny_pure ⟨_, rfl, hQ h' u tk hk⟩))
end
end PySem
/-! any value of the law's: what it is as data, where it stands, its repr -/
namespace Hu
open PySem PySem.Spec PyProof.Rows L2
/-- data: dct us is {'a': [us], 1: None}, exc an error of the one class -/
inductive U where
  | non | bl (b : Bool) | int (i : Int) | str (z : Str) | tup (us : List U) | lst (us : List U) | dct (us : List U) | exc
/-- an error of the class C as it stands at a, its arguments at t -/
def ExN (C t a : Addr) : HO := .ext fun h => ∃ o vs, h.get? a = some o ∧ o.cls = .ref C ∧ o.data = .fields vs ∧ vs[0]? = some (.ref t) ∧ o.dict = none
mutual
/-- the value v is the data u; all that it stands in is tracked, and isn't w -/
inductive At (w C : Addr) (H : Hp) : V → U → Prop
  | non : At w C H .non .non
  | bl (b : Bool) : At w C H (.bl b) (.bl b)
  | int (i : Int) : At w C H (.int i) (.int i)
  | str (z : Str) : At w C H (.str z) (.str z)
  | tup {a : Addr} {xs : List V} {us : List U} : H a = some (.tup xs) → a ≠ w → AtL w C H xs us → At w C H (.ref a) (.tup us)
  | lst {a : Addr} {xs : List V} {us : List U} : H a = some (.lst xs) → a ≠ w → AtL w C H xs us → At w C H (.ref a) (.lst us)
  | dct {a b : Addr} {xs : List V} {us : List U} : H a = some (.dK [(.inr "a", .ref b), (.inl 1, .non)]) → a ≠ w → H b = some (.lst xs) → b ≠ w → AtL w C H xs us → At w C H (.ref a) (.dct us)
  | exc {a t : Addr} : H a = some (ExN C t a) → a ≠ w → H t = some (.tup []) → t ≠ w → At w C H (.ref a) .exc
inductive AtL (w C : Addr) (H : Hp) : List V → List U → Prop
  | nil : AtL w C H [] []
  | cons {v : V} {u : U} {vs : List V} {us : List U} : At w C H v u → AtL w C H vs us → AtL w C H (v :: vs) (u :: us)
end
section
variable {w C : Addr} {H H' : Hp}
mutual
theorem At.keep (k : ∀ b o, b ≠ w → H b = some o → H' b = some o) : ∀ {u : U} {v : V}, At w C H v u → At w C H' v u
  | _, _, .non => .non
  | _, _, .bl b => .bl b
  | _, _, .int i => .int i
  | _, _, .str z => .str z
  | _, _, .tup h n l => .tup (k _ _ n h) n (AtL.keep k l)
  | _, _, .lst h n l => .lst (k _ _ n h) n (AtL.keep k l)
  | _, _, .dct h n h2 n2 l => .dct (k _ _ n h) n (k _ _ n2 h2) n2 (AtL.keep k l)
  | _, _, .exc h n h2 n2 => .exc (k _ _ n h) n (k _ _ n2 h2) n2
theorem AtL.keep (k : ∀ b o, b ≠ w → H b = some o → H' b = some o) : ∀ {us : List U} {vs : List V}, AtL w C H vs us → AtL w C H' vs us
  | _, _, .nil => .nil
  | _, _, .cons x l => .cons (x.keep k) (AtL.keep k l)
end
theorem key_ne : ([((.inr "a" : Key), V.ref 0)] : List (Key × V)) ≠ [] := fun e => by cases e
mutual
theorem At.one : ∀ {u u' : U} {v : V}, At w C H v u → At w C H v u' → u = u'
  | _, _, _, .non, y => by cases y; rfl
  | _, _, _, .bl b, y => by cases y; rfl
  | _, _, _, .int i, y => by cases y; rfl
  | _, _, _, .str z, y => by cases y; rfl
  | _, _, _, .tup h n l, y => by
    cases y with
    | tup h' _ l' => rw [h] at h'; cases h'; rw [AtL.one l l']
    | lst h' _ _ => rw [h] at h'; cases h'
    | dct h' _ _ _ _ => rw [h] at h'; cases h'
    | exc h' _ _ _ => rw [h] at h'; cases h'
  | _, _, _, .lst h n l, y => by
    cases y with
    | tup h' _ l' => rw [h] at h'; cases h'
    | lst h' _ l' => rw [h] at h'; cases h'; rw [AtL.one l l']
    | dct h' _ _ _ _ => rw [h] at h'; cases h'
    | exc h' _ _ _ => rw [h] at h'; cases h'
  | _, _, _, .dct h n h2 n2 l, y => by
    cases y with
    | tup h' _ l' => rw [h] at h'; cases h'
    | lst h' _ l' => rw [h] at h'; cases h'
    | dct h' _ h2' _ l' =>
      rw [h] at h'
      cases h'
      rw [h2] at h2'
      cases h2'
      rw [AtL.one l l']
    | exc h' _ _ _ => rw [h] at h'; cases h'
  | _, _, _, .exc h n _ _, y => by
    cases y with
    | tup h' _ l' => rw [h] at h'; cases h'
    | lst h' _ l' => rw [h] at h'; cases h'
    | dct h' _ _ _ _ => rw [h] at h'; cases h'
    | exc h' _ _ _ => rfl
theorem AtL.one : ∀ {us us' : List U} {vs : List V}, AtL w C H vs us → AtL w C H vs us' → us = us'
  | _, _, _, .nil, y => by cases y; rfl
  | _, _, _, .cons x l, y => by
    cases y with
    | cons x' l' => rw [At.one x x', AtL.one l l']
end
theorem AtL.length : ∀ {us : List U} {vs : List V}, AtL w C H vs us → vs.length = us.length
  | _, _, .nil => rfl
  | _, _, .cons x l => by rw [List.length_cons, List.length_cons, AtL.length l]
theorem AtL.get : ∀ {us : List U} {vs : List V} {i : Nat} {u : U}, AtL w C H vs us → us[i]? = some u → ∃ v, vs[i]? = some v ∧ At w C H v u
  | _, _, _, _, .nil, e => by simp at e
  | _, _, 0, _, .cons x l, e => by
    have := Option.some.inj e
    subst this
    exact ⟨_, rfl, x⟩
  | _, _, i + 1, _, .cons x l, e => AtL.get (i := i) l e
theorem AtL.append : ∀ {us us' : List U} {vs vs' : List V}, AtL w C H vs us → AtL w C H vs' us' → AtL w C H (vs ++ vs') (us ++ us')
  | _, _, _, _, .nil, y => y
  | _, _, _, _, .cons x l, y => .cons x (AtL.append l y)
theorem AtL.take : ∀ {us : List U} {vs : List V} (n : Nat), AtL w C H vs us → AtL w C H (vs.take n) (us.take n)
  | _, _, 0, _ => .nil
  | _, _, _ + 1, .nil => .nil
  | _, _, n + 1, .cons x l => .cons x (AtL.take n l)
theorem AtL.drop : ∀ {us : List U} {vs : List V} (n : Nat), AtL w C H vs us → AtL w C H (vs.drop n) (us.drop n)
  | _, _, 0, l => l
  | _, _, _ + 1, .nil => .nil
  | _, _, n + 1, .cons x l => AtL.drop n l
end
/-! ### its repr -/
mutual
def shown (nm : Str) : U → Str
  | .non => "None"
  | .bl b => if b then "True" else "False"
  | .int i => toString i
  | .str z => reprText z
  | .tup us => tupleText (shownL nm us)
  | .lst us => listText (shownL nm us)
  | .dct us => dictText [reprText "a" ++ ": " ++ listText (shownL nm us), (toString (1 : Int) : Str) ++ ": " ++ "None"]
  | .exc => nm ++ "()"
def shownL (nm : Str) : List U → List Str
  | [] => []
  | u :: us => shown nm u :: shownL nm us
end
mutual
def dep : U → Nat
  | .tup us | .lst us => depL us + 1
  | .dct us => depL us + 2
  | .exc => 3
  | _ => 0
def depL : List U → Nat
  | [] => 0
  | u :: us => max (dep u) (depL us)
end
mutual
/-- all its integers are small -/
def smallU : U → Prop
  | .int i => i.natAbs.log2 < 1920
  | .tup us | .lst us | .dct us => smallL us
  | _ => True
def smallL : List U → Prop
  | [] => True
  | u :: us => smallU u ∧ smallL us
end
end Hu
namespace Hu
open PySem PySem.Spec PyProof.Rows L2
section
variable {P : Program} {wd : World} {K : PySem.W.Frag} {w C : Addr} {H : Hp} {h₀ : Heap} {nm : Str}
/-- an empty tuple -/
def Emp (h : Heap) (b : Addr) : Prop := ∃ o m, h.get? b = some o ∧ o.cls = .type "tuple" ∧ o.data = .seq #[] m
def Inn (w C : Addr) (H : Hp) (h : Heap) (n : Nat) (bs : List Addr) : Prop := ∀ b ∈ bs, (∃ u, At w C H (.ref b) u ∧ dep u ≤ n) ∨ Emp h b
theorem Inn.mono {n m : Nat} {bs : List Addr} (x : Inn w C H h₀ n bs) (l : n ≤ m) : Inn w C H h₀ m bs := fun b hb => by
  rcases x b hb with ⟨u, a, d⟩ | e
  · exact .inl ⟨u, a, Nat.le_trans d l⟩
  · exact .inr e
theorem Inn.append {n : Nat} {bs cs : List Addr} (x : Inn w C H h₀ n bs) (y : Inn w C H h₀ n cs) : Inn w C H h₀ n (bs ++ cs) := fun b hb =>
  (List.mem_append.mp hb).elim (x b) (y b)
theorem Inn.not_mem {n : Nat} {bs : List Addr} {a : Addr} {u : U} (x : Inn w C H h₀ n bs) (y : At w C H (.ref a) u) (l : n < dep u) (e : ¬ Emp h₀ a) : a ∉ bs := fun hm => by
  rcases x a hm with ⟨u', y', l'⟩ | q
  · have := y.one y'
    subst this
    omega
  · exact e q
theorem Inn.cons {n : Nat} {bs : List Addr} {a : Addr} {u : U} (x : Inn w C H h₀ n bs) (y : At w C H (.ref a) u) (l : n ≤ dep u) : Inn w C H h₀ (dep u) (a :: bs) := fun b hb => by
  rcases List.mem_cons.mp hb with e | hb
  · subst e
    exact .inl ⟨u, y, Nat.le_refl _⟩
  · exact (x.mono l) b hb
theorem shownL_mem {us : List U} {t : Str} (h : t ∈ shownL nm us) : ∃ u ∈ us, t = shown nm u := by
  induction us with
  | nil => simp [shownL] at h
  | cons u us ih =>
    rw [shownL] at h
    rcases List.mem_cons.mp h with e | h
    · exact ⟨u, List.mem_cons_self, e⟩
    · obtain ⟨x, hx, e⟩ := ih h
      exact ⟨x, List.mem_cons_of_mem _ hx, e⟩
/-- the repr of a list of items within a list object at b -/
theorem list_reprs {b : Addr} {xs : List V} {its : List Value} {us : List U} {bs : List Addr} {n d : Nat} (hb : h₀.get? b = some { cls := .type "list", data := .seq its.toArray n }) (hna : b ∉ bs)
    (hk : ReprAllK P wd bs h₀ d its (shownL nm us)) : ReprK P wd (b :: bs) h₀ (d + 1) (.ref b) (listText (shownL nm us)) := by
  cases its with
  | nil =>
    cases us with
    | nil =>
      show ReprK P wd (b :: bs) h₀ (d + 1) (.ref b) (listText [])
      rw [listText_nil]
      exact ReprK.listEmpty hb rfl rfl
    | cons u us => rw [shownL] at hk; cases hk
  | cons x l => exact ReprK.list hb rfl rfl hna (by simpa using hk.length_eq) (fun i y e => hk.item i y (by simpa using e))
theorem rep_tup (ok : HOk P wd H h₀) {a : Addr} {xs : List V} {us : List U} (h : H a = some (.tup xs)) (n : a ≠ w) (l : AtL w C H xs us)
    (rec : ∀ its, Vals xs its → ∃ bs, Inn w C H h₀ (depL us) bs ∧ ReprAllK P wd bs h₀ (depL us) its (shownL nm us)) :
    ∃ bs, Inn w C H h₀ (dep (.tup us)) bs ∧ ReprK P wd bs h₀ (dep (.tup us)) (.ref a) (shown nm (.tup us)) := by
  obtain ⟨_, its, rv, o, h1, h2, m, h3⟩ := ok a _ h
  obtain ⟨bs, hb, hk⟩ := rec its rv
  have y : At w C H (.ref a) (.tup us) := .tup h n l
  have hd : depL us < dep (.tup us) := by simp only [dep]; omega
  by_cases e : its = []
  · subst e
    have hl := rv.length
    have hu := AtL.length l
    have ex : us = [] := List.length_eq_zero_iff.mp (by rw [← hu, hl]; rfl)
    subst ex
    refine ⟨[a], fun b hb => .inl ⟨_, by rw [List.mem_singleton.mp hb]; exact y, Nat.le_refl _⟩, ?_⟩
    simp only [shown, dep]
    exact ReprK.tuple (as := []) h1 h2 h3 (by simp) (by rw [shownL]; exact .nil)
  · have hna : a ∉ bs := hb.not_mem y hd fun ⟨o', m', q1, q2, q3⟩ => by
      rw [h1] at q1
      cases q1
      rw [h3] at q3
      injection q3 with q3 _
      exact e (by simpa using congrArg Array.toList q3)
    refine ⟨a :: bs, hb.cons y (Nat.le_of_lt hd), ?_⟩
    simp only [shown, dep]
    exact ReprK.tuple h1 h2 h3 hna (by simpa using hk)
theorem rep_lst (ok : HOk P wd H h₀) {a : Addr} {xs : List V} {us : List U} (h : H a = some (.lst xs)) (n : a ≠ w) (l : AtL w C H xs us)
    (rec : ∀ its, Vals xs its → ∃ bs, Inn w C H h₀ (depL us) bs ∧ ReprAllK P wd bs h₀ (depL us) its (shownL nm us)) :
    ∃ bs, Inn w C H h₀ (dep (.lst us)) bs ∧ ReprK P wd bs h₀ (dep (.lst us)) (.ref a) (shown nm (.lst us)) := by
  obtain ⟨_, its, m, rv, h1⟩ := ok a _ h
  obtain ⟨bs, hb, hk⟩ := rec its rv
  have y : At w C H (.ref a) (.lst us) := .lst h n l
  have hd : depL us < dep (.lst us) := by simp only [dep]; omega
  have hna : a ∉ bs := hb.not_mem y hd fun ⟨o', m', q1, q2, q3⟩ => by
    rw [h1] at q1
    cases q1
    simp at q2
  refine ⟨a :: bs, hb.cons y (Nat.le_of_lt hd), ?_⟩
  simp only [shown, dep]
  exact list_reprs (xs := []) h1 hna hk
theorem pairs2 {el : List DictEntry} {k1 k2 : Key} {x1 x2 : Value} (g : Pairs (mixKind P wd) el [(k1, x1), (k2, x2)]) : ∃ e1 e2 : DictEntry, el = [e1, e2] ∧ keyIs k1 e1.key = true ∧ e1.val = x1 ∧ keyIs k2 e2.key = true ∧ e2.val = x2 := by
  cases g with
  | cons a1 b1 g =>
    cases g with
    | cons a2 b2 g =>
      cases g
      exact ⟨_, _, rfl, a1, b1, a2, b2⟩
theorem kv2 {k1 k2 : Key} {v1 v2 : V} {vs : List (Key × Value)} (kv : KV [(k1, v1), (k2, v2)] vs) : ∃ x1 x2, vs = [(k1, x1), (k2, x2)] ∧ RelV v1 x1 ∧ RelV v2 x2 := by
  cases kv with
  | @cons _ q1 _ _ r1 kv =>
    cases kv with
    | @cons _ q2 _ _ r2 kv =>
      cases kv
      obtain ⟨a1, b1⟩ := q1
      obtain ⟨a2, b2⟩ := q2
      obtain ⟨e1, r1⟩ := r1
      obtain ⟨e2, r2⟩ := r2
      cases e1
      cases e2
      exact ⟨_, _, rfl, r1, r2⟩
theorem dct_parts (ok : HOk P wd H h₀) {a b : Addr} {xs : List V} {us : List U} (h : H a = some (.dK [(.inr "a", .ref b), (.inl 1, .non)])) (n : a ≠ w) (h2 : H b = some (.lst xs)) (n2 : b ≠ w) (l : AtL w C H xs us)
    (rec : ∀ its, Vals xs its → ∃ bs, Inn w C H h₀ (depL us) bs ∧ ReprAllK P wd bs h₀ (depL us) its (shownL nm us)) :
    ∃ bs o es ep, Inn w C H h₀ (depL us + 1) bs ∧ a ∉ bs ∧ h₀.get? a = some o ∧ o.cls = .type "dict" ∧ o.data = .dict es ep ∧ (a == sysModules) = false ∧
      ReprEntriesK P wd bs h₀ (depL us + 1) es.toList [reprText "a" ++ ": " ++ listText (shownL nm us), (toString (1 : Int) : Str) ++ ": " ++ "None"] := by
  obtain ⟨bs, hB, kb⟩ := rep_lst ok h2 n2 l rec
  have y : At w C H (.ref a) (.dct us) := .dct h n h2 n2 l
  have hda : dep (.lst us) < dep (.dct us) := by simp only [dep]; omega
  obtain ⟨_, hsys, vs, kv, o, es, ep, g1, g2, g3, _, g4, _⟩ := ok a _ h
  have hna : a ∉ bs := hB.not_mem y hda fun ⟨o', m', q1, q2, q3⟩ => by
    rw [g1] at q1
    cases q1
    rw [g3] at q3
    cases q3
  obtain ⟨x1, x2, rfl, r1, r2⟩ := kv2 kv
  cases r1
  cases r2
  obtain ⟨e1, e2, ee, a1, b1, a2, b2⟩ := pairs2 g4
  simp only [shown, dep] at kb hB
  refine ⟨bs, o, es, ep, hB, hna, g1, g2.1, g3, hsys, ?_⟩
  rw [ee]
  rcases keyIs_shape a1 with ⟨i, t, q, _⟩ | ⟨z, t, q, ek⟩
  · cases q
  · cases q
    rcases keyIs_shape a2 with ⟨i, t', q, ek2⟩ | ⟨z, t', q, _⟩
    · cases q
      refine .cons ?_ ?_ (.cons ?_ ?_ .nil)
      · rw [ek]
        exact .of_is (ReprIs.str _ t (by rw [sizeLine_eq]; decide +kernel)) _ _ _
      · rw [b1]
        exact kb
      · rw [ek2]
        exact .of_is (ReprIs.int t' (by decide)) _ _ _
      · rw [b2]
        exact .of_is ReprIs.none _ _ _
    · cases q
theorem rep_dct (ok : HOk P wd H h₀) {a b : Addr} {xs : List V} {us : List U} (h : H a = some (.dK [(.inr "a", .ref b), (.inl 1, .non)])) (n : a ≠ w) (h2 : H b = some (.lst xs)) (n2 : b ≠ w) (l : AtL w C H xs us)
    (rec : ∀ its, Vals xs its → ∃ bs, Inn w C H h₀ (depL us) bs ∧ ReprAllK P wd bs h₀ (depL us) its (shownL nm us)) :
    ∃ bs, Inn w C H h₀ (dep (.dct us)) bs ∧ ReprK P wd bs h₀ (dep (.dct us)) (.ref a) (shown nm (.dct us)) := by
  obtain ⟨bs, o, es, ep, hB, hna, g1, g2, g3, hsys, hE⟩ := dct_parts ok h n h2 n2 l rec
  refine ⟨a :: bs, hB.cons (.dct h n h2 n2 l) (by simp only [dep]; omega), ?_⟩
  simp only [shown, dep]
  exact ReprK.dict (d := depL us + 1) g1 g2 g3 hsys hna hE
theorem exc_at (ok : HOk P wd H h₀) {a t : Addr} (h : H a = some (ExN C t a)) (h2 : H t = some (.tup [])) : HxExc C a t h₀ := by
  obtain ⟨⟨o, vs, q1, q2, q3, q4, q5⟩, _, _⟩ := ok a _ h
  obtain ⟨_, its, rv, o', g1, g2, m, g3⟩ := ok t _ h2
  cases rv
  exact ⟨⟨o, vs, q1, q2, q3, q4, q5⟩, o', m, g1, g2, g3⟩
theorem rep_exc (ok : HOk P wd H h₀) (X : K.In h₀) (R : HxRepr K C nm) {a t : Addr} (h : H a = some (ExN C t a)) (n : a ≠ w) (h2 : H t = some (.tup [])) (n2 : t ≠ w) : ∃ bs, Inn w C H h₀ (dep .exc) bs ∧ ReprK P wd bs h₀ (dep .exc) (.ref a) (shown nm .exc) := by
  have hx := exc_at ok h h2
  refine ⟨[a, t], fun b hb => ?_, ?_⟩
  · rcases List.mem_cons.mp hb with e | hb
    · subst e
      exact .inl ⟨.exc, .exc h n h2 n2, Nat.le_refl _⟩
    · rw [List.mem_singleton.mp hb]
      obtain ⟨_, o, m, q1, q2, q3⟩ := hx
      exact .inr ⟨o, m, q1, q2, q3⟩
  · simp only [shown, dep]
    exact hx_repr X hx R (fun _ h => nomatch h)
theorem rep_cons {u : U} {us : List U} {x : Value} {xs : List Value} (h1 : ∃ bs, Inn w C H h₀ (dep u) bs ∧ ReprK P wd bs h₀ (dep u) x (shown nm u)) (h2 : ∃ bs, Inn w C H h₀ (depL us) bs ∧ ReprAllK P wd bs h₀ (depL us) xs (shownL nm us)) :
    ∃ bs, Inn w C H h₀ (depL (u :: us)) bs ∧ ReprAllK P wd bs h₀ (depL (u :: us)) (x :: xs) (shownL nm (u :: us)) := by
  obtain ⟨b1, i1, k1⟩ := h1
  obtain ⟨b2, i2, k2⟩ := h2
  refine ⟨b1 ++ b2, ?_, ?_⟩
  · simp only [depL]
    exact (i1.mono (Nat.le_max_left _ _)).append (i2.mono (Nat.le_max_right _ _))
  · simp only [depL, shownL]
    exact .cons ((k1.more fun b hb => List.mem_append_left _ hb).level_le (Nat.le_max_left _ _)) (k2.more_le (fun b hb => List.mem_append_right _ hb) (Nat.le_max_right _ _))
theorem small_dct {us : List U} (hz : (shown nm (.dct us)).length ≤ sizeLine) : ∀ t ∈ shownL nm us, t.length ≤ sizeLine := fun t ht => by
  simp only [shown] at hz
  have hz1 := dictText_mem_le (ps := [reprText "a" ++ ": " ++ listText (shownL nm us), (toString (1 : Int) : Str) ++ ": " ++ "None"]) (List.mem_cons_self)
  rw [strLen_append] at hz1
  have := listText_mem_le ht
  omega
def Rp (P : Program) (wd : World) (w C : Addr) (H : Hp) (h₀ : Heap) (nm : Str) (u : U) : Prop := ∀ (v : V) (x : Value), At w C H v u → RelV v x → smallU u → (shown nm u).length ≤ sizeLine → ∃ bs, Inn w C H h₀ (dep u) bs ∧ ReprK P wd bs h₀ (dep u) x (shown nm u)
theorem list_rp : ∀ (us : List U) (vs : List V) (xs : List Value), (∀ u ∈ us, Rp P wd w C H h₀ nm u) → AtL w C H vs us → Vals vs xs → smallL us → (∀ t ∈ shownL nm us, t.length ≤ sizeLine) →
    ∃ bs, Inn w C H h₀ (depL us) bs ∧ ReprAllK P wd bs h₀ (depL us) xs (shownL nm us)
  | [], _, _, _, l, r, _, _ => by
    cases l
    cases r
    exact ⟨[], (fun _ h => nomatch h), by simp only [shownL]; exact .nil⟩
  | u :: us, _, _, ih, l, r, hs, hz => by
    cases l with
    | cons x l =>
      cases r with
      | cons rx rl =>
        simp only [smallL] at hs
        simp only [shownL] at hz
        exact rep_cons (ih u List.mem_cons_self _ _ x rx hs.1 (hz _ List.mem_cons_self)) (list_rp us _ _ (fun y hy => ih y (List.mem_cons_of_mem _ hy)) l rl hs.2 (fun t ht => hz t (List.mem_cons_of_mem _ ht)))
theorem dep_mem {us : List U} {u : U} (h : u ∈ us) : dep u ≤ depL us := by
  induction us with
  | nil => cases h
  | cons x us ih =>
    simp only [depL]
    rcases List.mem_cons.mp h with e | h
    · subst e
      exact Nat.le_max_left _ _
    · exact Nat.le_trans (ih h) (Nat.le_max_right _ _)
theorem rp_all (ok : HOk P wd H h₀) (X : K.In h₀) (R : HxRepr K C nm) : ∀ (n : Nat) (u : U), dep u ≤ n → Rp P wd w C H h₀ nm u := by
  intro n
  induction n with
  | zero =>
    intro u hd v x h r hs hz
    cases h with
    | non => cases r; exact ⟨[], (fun _ h => nomatch h), by simp only [shown]; exact .of_is ReprIs.none _ _ _⟩
    | bl b => cases r; exact ⟨[], (fun _ h => nomatch h), by simp only [shown]; exact .of_is (ReprIs.bool b) _ _ _⟩
    | int i => obtain ⟨t, rfl⟩ := r; exact ⟨[], (fun _ h => nomatch h), by simp only [shown]; exact .of_is (ReprIs.int t (by simpa only [smallU] using hs)) _ _ _⟩
    | str z => obtain ⟨t, rfl⟩ := r; exact ⟨[], (fun _ h => nomatch h), by simp only [shown]; exact .of_is (ReprIs.str z t (by simpa only [shown] using hz)) _ _ _⟩
    | tup => simp only [dep] at hd; omega
    | lst => simp only [dep] at hd; omega
    | dct => simp only [dep] at hd; omega
    | exc => simp only [dep] at hd; omega
  | succ n ih =>
    intro u hd v x h r hs hz
    cases h with
    | non => cases r; exact ⟨[], (fun _ h => nomatch h), by simp only [shown]; exact .of_is ReprIs.none _ _ _⟩
    | bl b => cases r; exact ⟨[], (fun _ h => nomatch h), by simp only [shown]; exact .of_is (ReprIs.bool b) _ _ _⟩
    | int i => obtain ⟨t, rfl⟩ := r; exact ⟨[], (fun _ h => nomatch h), by simp only [shown]; exact .of_is (ReprIs.int t (by simpa only [smallU] using hs)) _ _ _⟩
    | str z => obtain ⟨t, rfl⟩ := r; exact ⟨[], (fun _ h => nomatch h), by simp only [shown]; exact .of_is (ReprIs.str z t (by simpa only [shown] using hz)) _ _ _⟩
    | @tup a xs us h1 n1 l =>
      cases r
      simp only [dep] at hd
      exact rep_tup ok h1 n1 l fun its rv => list_rp us _ _ (fun y hy => ih y (by have := dep_mem hy; omega)) l rv (by simpa only [smallU] using hs) (fun t ht => Nat.le_trans (tupleText_mem_le ht) (by simpa only [shown] using hz))
    | @lst a xs us h1 n1 l =>
      cases r
      simp only [dep] at hd
      exact rep_lst ok h1 n1 l fun its rv => list_rp us _ _ (fun y hy => ih y (by have := dep_mem hy; omega)) l rv (by simpa only [smallU] using hs) (fun t ht => Nat.le_trans (listText_mem_le ht) (by simpa only [shown] using hz))
    | @dct a b xs us h1 n1 h2 n2 l =>
      cases r
      simp only [dep] at hd
      exact rep_dct ok h1 n1 h2 n2 l fun its rv => list_rp us _ _ (fun y hy => ih y (by have := dep_mem hy; omega)) l rv (by simpa only [smallU] using hs) (small_dct hz)
    | exc h1 n1 h2 n2 =>
      cases r
      exact rep_exc ok X R h1 n1 h2 n2
end
end Hu
/-! a def run where the guards around it are known to be none: for what asks for a repr -/
namespace Gd
open PySem PySem.Spec PyProof.Rows L2
/-- one run of a def's body, at one place -/
theorem run_at {CX : CXT} {P : Program} {wd : World} {F : PySem.W.Frag} {mg : Str → Option Value} {base : Heap} {k : Nat} {fa : Addr} {nm qn : Str} {prm : Arguments} {code : List Stmt} {sc : Scope} {d1 d2 d3 d4 d5 d6 d7 : Value} {an od : Option Addr}
    {slots : Array (Option Value)} {N ps : List Str} (at_f : F.lookup fa = some ⟨d7, od, .func (PySem.W.fnOf nm qn prm code sc d1 d2 d3 d4 an d5 d6), slots⟩) (rec : PySem.W.codeIn F d5 qn = true) (sco : FnScope N ps sc)
    {A : Around} {outer : List Env} {s : Shared} {H : Hp} {args : Args} {us : List Value} {vs : List V} {Q : VK} {E : XK} (room : Room (k + 1) A) (ev : Env0 P wd F mg base A outer s H) (bd : BindsTo s (PySem.W.fnOf nm qn prm code sc d1 d2 d3 d4 an d5 d6) args (ps.zip us))
    (rv : Vals vs us) (len : vs.length = ps.length) (body : Room k (A.deeper (envOfC qn sc s.heap.objs.size fa d5)) → ∃ t, PSs (cxOf CX P wd F mg base N qn sc fa d5 A outer s H E) code t ∧ t { nx := fun _ H' => Q .non H', rt := Q } (start N vs) H) :
    codeAny (model P wd) A (.call (.ref fa) args) (CR CX outer P wd H s Q E) s := by
  obtain ⟨t, body1, body2⟩ := body (room.deeper _)
  have inF : F.In s.heap := ev.mod.kin.keeps fun b o q => And.left (ev.bs b o q)
  have kinds : ∀ y ∈ ps.zip us, sc.names.lookup y.1 = some .local ∨ (sc.names.lookup y.1 = some .cell ∧ ((cellsFrom (s.heap.objs.size + 1) sc.names []).lookup y.1).isSome = true) := by
    rintro ⟨n, v⟩ hy
    rcases sco.par n (And.left (List.of_mem_zip hy)) with z | z
    · exact Or.inl z
    · exact Or.inr ⟨z, PySem.W.cellsFrom_some _ _ _ (Or.inl z)⟩
  refine codeAny_call_function room.depth (inF _ _ at_f) rfl sco.co sco.gen rfl (PySem.W.codeRec_of inF rec) (bd _ _ _ _ (wpAny_newFunctionEnv_cells sco.kind kinds fun env he s1 x => ?_))
  subst he
  have noLimit : s.heap.NoLimit := ev.mod.nolimit.keeps fun b o q => And.left (ev.bs b o q)
  refine ⟨noLimit.keeps x.toInCall.keep, codeAny_func (wpAny_mono (body1.run [] s1 (start N vs) H _ (inv_start sco room.hd ev len rv x) body2) (fun fl s' q => ?_) fun _ _ z => z)⟩
  cases fl with
  | ret u => obtain ⟨v, σ', H', J, r, q⟩ := q; exact ⟨v, H', J.os, J.bare, J.base, J.hok, r, q⟩
  | next => obtain ⟨σ', H', J, q⟩ := q; exact ⟨V.non, H', J.os, J.bare, J.base, J.hok, rfl, q⟩
  | brk => exact (Exists.elim q fun _ q => Exists.elim q fun _ q => q.2).elim
  | cont => exact (Exists.elim q fun _ q => Exists.elim q fun _ q => q.2).elim
/-- the end of a law's call: nothing that stood is changed -/
theorem law_end {P : Program} {wd : World} {s₁ s' : Shared} {H : Hp} {r : Result} (only : ∀ b, H b = none ∨ ∃ o xs, H b = some (.frz o (.lst xs))) (hok : HOk P wd H s₁.heap)
    (h : CR CX0 [] P wd H s₁ (fun v _ => v = .bl true) (fun _ _ _ => False) r s') : r = .ok (.ret (.bool true)) ∧ OldK s₁.heap s'.heap ∧ s'.os = s₁.os ∧ AllBare s'.gens := by
  match r, h with
  | .ok (.ret u), ⟨v, H', os, gens, un, ok2, ru, ev⟩ =>
    have ev : v = V.bl true := ev
    subst ev
    cases (show u = Value.bool true from ru)
    have none_in : ∀ b : Addr, b ∉ ([] : List Addr) := fun b => List.not_mem_nil
    refine ⟨rfl, OldK.of_keep fun b o e => ?_, os, gens⟩
    rcases only b with z | ⟨ob, xs, z⟩
    · exact un.keep b o e z (none_in b) (none_in b)
    · have here := (hok b _ z).1
      have there := (ok2 b _ (un.frzs b ob _ z)).1
      rw [e] at here
      cases here
      exact there
theorem law_at {P : Program} {wd : World} {F : PySem.W.Frag} {mg mb : Str → Option Value} {fa a : Addr} {s₁ : Shared} {vs : List Value} {ns : List Int} (inF : F.In s₁.heap) (main : s₁.heap.Ns mainGlobals mg) (bns : s₁.heap.Ns builtinsNs mb) (boot : ∀ x : Str, x ≠ "__name__" → mb x = bootBuiltins x)
    (lim : s₁.heap.NoLimit) (gens : s₁.gens = #[]) (script : s₁.heap.get? a = some { cls := .type "list", data := .seq vs.toArray }) (areI : IntsAre vs ns) (few : ns.length ≤ sizeLine)
    (go : ∀ (base : Heap) (H : Hp), F.In base → base.Ns mainGlobals mg → Env0 P wd F mg base callerA [] s₁ H → SqL F H a (ns.map V.int) → codeAny (model P wd) callerA (.call (.ref fa) ⟨[.ref a], []⟩) (CR CX0 [] P wd H s₁ (fun v _ => v = .bl true) (fun _ _ _ => False)) s₁) :
    codeAny (model P wd) callerA (.call (.ref fa) ⟨[.ref a], []⟩) (fun r s' => r = .ok (.ret (.bool true)) ∧ OldK s₁.heap s'.heap ∧ s'.os = s₁.os ∧ AllBare s'.gens) s₁ := by
  have rel := vals_ints areI
  have size := areI.length
  have main_case : ∀ H : Hp, (∀ b u, H b = some u → b = a ∧ F.lookup a = none ∧ u = .frz { cls := .type "list", data := .seq vs.toArray } (.lst (ns.map V.int))) → SqL F H a (ns.map V.int) →
      codeAny (model P wd) callerA (.call (.ref fa) ⟨[.ref a], []⟩) (fun r s' => r = .ok (.ret (.bool true)) ∧ OldK s₁.heap s'.heap ∧ s'.os = s₁.os ∧ AllBare s'.gens) s₁ := by
    intro H only sq
    have here : ∀ {b : Addr} {o : Obj}, s₁.heap.get? b = some o → (b = a → F.lookup a = none → False) → (hidT s₁.heap H).get? b = some o := fun {b o} e no => by
      refine hidT_get e ?_
      cases q : H b with
      | none => rfl
      | some u => exact (no (only b u q).1 (only b u q).2.1).elim
    have spaces : ∀ {b : Addr} {m : Str → Option Value}, s₁.heap.Ns b m → (hidT s₁.heap H).Ns b m := fun {b m} z => by
      obtain ⟨o, es, ep, e, d, r⟩ := z
      refine ⟨o, es, ep, here e (fun q _ => ?_), d, r⟩
      rw [q, script] at e
      cases e
      cases d
    have inB : F.In (hidT s₁.heap H) := fun b o e => here (inF b o e) fun q z => by
      rw [q, z] at e
      cases e
    have hok : HOk P wd H s₁.heap := fun b u e => by
      obtain ⟨rfl, _, rfl⟩ := only b u e
      exact ⟨script, by rw [List.length_map]; exact few, vs, _, rel, script⟩
    have env : Env0 P wd F mg (hidT s₁.heap H) callerA [] s₁ H :=
      ⟨rfl, ⟨inB, spaces main, ⟨mb, spaces bns, boot⟩, Exists.elim lim fun m z => ⟨m, spaces z.1, z.2⟩⟩, fun b o e => of_hidT e, Nat.le_of_eq (hidT_size _ _), trivial, fun b z => (List.not_mem_nil (show b ∈ ([] : List Addr) from z)).elim, hok, .of_eq gens⟩
    refine codeAny_mono (go _ H inB (spaces main) env sq) fun r s' z => law_end (fun b => ?_) hok z
    cases q : H b with
    | none => exact .inl rfl
    | some u => exact .inr ⟨_, _, congrArg some (only b u q).2.2⟩
  cases q : F.lookup a with
  | some o =>
    have e := (inF a o q).symm.trans script
    cases e
    exact main_case (fun _ => none) (fun _ _ z => by cases z) (.inr ⟨_, vs.toArray, _, q, rfl, rfl, rfl, by rw [List.size_toArray, size]; exact few, by simpa using rel⟩)
  | none =>
    refine main_case (fun b => if b = a then some (.frz { cls := .type "list", data := .seq vs.toArray } (.lst (ns.map V.int))) else none) (fun b u z => ?_) (.inl (.inr ⟨_, if_pos rfl⟩))
    by_cases e : b = a
    · have z2 := (if_pos e).symm.trans z
      exact ⟨e, q, (Option.some.inj z2).symm⟩
    · have z2 := (if_neg e).symm.trans z
      cases z2
/-- what the head leaves, from the law's run at the caller -/
theorem walk_at {l : PySem.W.OpenLaw} {n : Nat} {q : Program} {loose : List Str} {XP : (Str → Option Value) → Heap → Prop} {YP : World → Heap → Prop} {d : DefRec} {F : Params → PySem.W.Frag} (most : l.most = some n) (line : n ≤ sizeLine) (plain : d.params.defaults = [])
    (inF : ∀ (w : World) (h : Heap), YP w h → (F w.params).In h)
    (go : ∀ (w : World) (mg : Str → Option Value) (fa : Addr) (h : Heap), (F w.params).In h → h.Ns mainGlobals mg → mg d.name = some (.ref fa) →
      ∀ (s : Shared) (a : Addr) (ns : List Int) (base : Heap) (H : Hp), (F w.params).In base → base.Ns mainGlobals mg → Env0 l.prog w (F w.params) mg base callerA [] s H → SqL (F w.params) H a (ns.map V.int) →
        codeAny (model l.prog w) callerA (.call (.ref fa) ⟨[.ref a], []⟩) (CR CX0 [] l.prog w H s (fun v _ => v = .bl true) (fun _ _ _ => False)) s) :
    PySem.W.WalkO q loose XP YP l.row.toRowW d [] (fun f vs => PySem.call f vs) :=
  Att.attach_call most plain fun w s₀ s₁ mg mb fa o pm cd doc a vs ns G Y ho hd hcd hmg obj areI len gens =>
    law_at (inF w _ Y) G.T.g G.T.b G.T.builtins G.T.nolimit gens obj areI (Nat.le_trans len line) fun base H => go w mg fa _ (inF w _ Y) G.T.g hmg s₁ a ns base H
end Gd
namespace Hu
open PySem PySem.Spec PyProof.Rows L2
section
variable {X : Cx} {w C : Addr} {nm : Str}
/-- repr(x), any value of the law's, where nothing is shown around -/
theorem call_reprU {k : Nat} (room : Room k X.A) (bare : X.A.guards = some []) (R : HxRepr X.K C nm) :
    CallR X (.builtin "repr") (fun xs H Q => ∃ (v : V) (u : U) (w : Addr), xs = [v] ∧ At w C H v u ∧ smallU u ∧ dep u ≤ 60 ∧ (shown nm u).length ≤ sizeLine ∧ Q (.str (shown nm u)) H) := by
  intro pins s σ H xs us Q I r h
  obtain ⟨v, u, w, rfl, hat, hs, hd, hz, q⟩ := h
  obtain ⟨x, rfl, rx⟩ := vals1 r
  have hu := room.units
  have ok := I.hok
  have X0 := I.kIn
  have fin : ∀ (h' : Heap) (t : Tok) (tk : Nat), (∀ b o, s.heap.get? b = some o → h'.get? b = some o) → EP X pins σ Q (.str (shown nm u) t) { s with heap := h', toks := tk } := fun h' t tk kp =>
    ⟨.str (shown nm u), H, I.un (Un.kept kp) (I.hok.kept kp), ⟨t, rfl⟩, q⟩
  have rp : ∀ (us : List U) (vs : List V) (its : List Value), depL us ≤ 60 → AtL w C H vs us → Vals vs its → smallL us → (∀ t ∈ shownL nm us, t.length ≤ sizeLine) → ∃ bs, Inn w C H s.heap (depL us) bs ∧ ReprAllK X.prog X.w bs s.heap (depL us) its (shownL nm us) :=
    fun us vs its hd l rv hs hz => list_rp us vs its (fun y hy => rp_all ok X0 R 60 y (Nat.le_trans (dep_mem hy) hd)) l rv hs hz
  cases hat with
  | non =>
    cases rx
    simp only [shown] at fin
    exact PySem.P.repr_of_none (fin s.heap _ _ fun _ _ e => e)
  | bl b =>
    cases rx
    simp only [shown] at fin
    exact PySem.P.repr_of_bool (fin s.heap _ _ fun _ _ e => e)
  | int i =>
    obtain ⟨t, rfl⟩ := rx
    simp only [shown] at fin
    exact PySem.P.repr_of_int (by simpa only [smallU] using hs) (fin s.heap _ _ fun _ _ e => e)
  | str z =>
    obtain ⟨t, rfl⟩ := rx
    simp only [shown] at fin hz
    exact PySem.P.repr_of_str (fin s.heap _ _ fun _ _ e => e) hz
  | @tup a xs us h1 n1 l =>
    cases rx
    simp only [dep] at hd
    have hz' : (tupleText (shownL nm us)).length ≤ sizeLine := by simpa only [shown] using hz
    obtain ⟨_, its, rv, o, g1, g2, m, g3⟩ := ok a _ h1
    obtain ⟨bs, hb, hk⟩ := rp us xs its (by omega) l rv (by simpa only [smallU] using hs) (fun t ht => Nat.le_trans (tupleText_mem_le ht) hz')
    have hna : ∃ bs, a ∉ bs ∧ ReprAllK X.prog X.w bs s.heap (depL us) its (shownL nm us) := by
      by_cases e : its = []
      · subst e
        have hl := rv.length
        have ex : us = [] := List.length_eq_zero_iff.mp (by rw [← AtL.length l, hl]; rfl)
        subst ex
        exact ⟨[], by simp, by rw [shownL]; exact .nil⟩
      · refine ⟨bs, hb.not_mem (.tup h1 n1 l) (by simp only [dep]; omega) fun ⟨o', m', q1, q2, q3⟩ => ?_, hk⟩
        rw [g1] at q1
        cases q1
        rw [g3] at q3
        injection q3 with q3 _
        exact e (by simpa using congrArg Array.toList q3)
    obtain ⟨bs, hna, hk⟩ := hna
    simp only [shown] at fin
    exact call_repr_slot (by omega) ⟨o, g1, g2⟩ F.slot_tuple_repr (call_tuple_reprK g1 g2 g3 hna (by simpa using hk) (A := X.A.in1) bare (fun b _ => Clear.nil b) (by show X.A.units + 1 + _ < _; omega) (fun _ _ e => e) (fun h' u tk kp => ⟨_, _, rfl, fin h' u tk kp⟩) hz')
  | @lst a xs us h1 n1 l =>
    cases rx
    simp only [dep] at hd
    have hz' : (listText (shownL nm us)).length ≤ sizeLine := by simpa only [shown] using hz
    obtain ⟨_, its, m, rv, g1⟩ := ok a _ h1
    obtain ⟨bs, hb, hk⟩ := rp us xs its (by omega) l rv (by simpa only [smallU] using hs) (fun t ht => Nat.le_trans (listText_mem_le ht) hz')
    have hna : a ∉ bs := hb.not_mem (.lst h1 n1 l) (by simp only [dep]; omega) fun ⟨o', m', q1, q2, q3⟩ => by
      rw [g1] at q1
      cases q1
      simp at q2
    simp only [shown] at fin
    refine call_repr_slot (by omega) ⟨_, g1, rfl⟩ F.slot_list_repr.toG ?_
    cases its with
    | nil =>
      cases us with
      | nil =>
        simp only [shownL, listText_nil] at fin
        exact call_list_repr_empty ⟨_, g1, rfl⟩ g1 rfl ⟨_, _, rfl, fin s.heap _ _ fun _ _ e => e⟩
      | cons u us => rw [shownL] at hk; cases hk
    | cons y l2 =>
      exact call_list_reprK (A := X.A.in1) g1 rfl rfl hna (by simpa using hk.length_eq) (fun i y e => hk.item i y (by simpa using e)) bare (fun b _ => Clear.nil b) (by show X.A.units + 1 + _ < _; omega) (fun _ _ e => e) (fun h' u tk kp => ⟨_, _, rfl, fin h' u tk kp⟩) hz'
  | @dct a b xs us h1 n1 h2 n2 l =>
    cases rx
    simp only [dep] at hd
    have hz' : (dictText [reprText "a" ++ ": " ++ listText (shownL nm us), (toString (1 : Int) : Str) ++ ": " ++ "None"]).length ≤ sizeLine := by simpa only [shown] using hz
    obtain ⟨bs, o, es, ep, hB, hna, g1, g2, g3, hsys, hE⟩ := dct_parts ok h1 n1 h2 n2 l fun its rv => rp us xs its (by omega) l rv (by simpa only [smallU] using hs) (small_dct hz)
    simp only [shown] at fin
    exact call_repr_slot (by omega) ⟨o, g1, g2⟩ F.slot_dict_repr (call_dict_reprK (A := X.A.in1) g1 g2 g3 hsys hna hE bare (fun b _ => Clear.nil b) (by show X.A.units + 1 + _ < _; omega) (fun _ _ e => e) (fun h' u tk kp => ⟨_, _, rfl, fin h' u tk kp⟩) hz')
  | exc h1 n1 h2 n2 =>
    cases rx
    have hx := exc_at ok h1 h2
    simp only [shown] at fin hz
    exact hx_reprTop X0 hx R hz bare (by omega) fin
end
end Hu
/-! isinstance of any value of the law's, and the error that it may be -/
namespace Hu
open PySem PySem.Spec PyProof.Rows L2
/-- the class of the errors among the values: how isinstance asks them, what repr tells -/
structure Xc (K : PySem.W.Frag) (mg : Str → Option Value) (x : Str) (C : Addr) (nm : Str) : Prop where
  g : mg x = some (.ref C)
  x : PySem.W.excIn K C [.type "ValueError", .type "Exception", .type "BaseException", .type "object"] "ValueError.__new__" = true
  k : PySem.W.keepIn K (.ref C) = true
  c : L2.ExcC K C
  r : HxRepr K C nm
  ki : PySem.W.kitOne K (.ref C) (.type "int") = some false
  kb : PySem.W.kitOne K (.ref C) (.type "bool") = some false
  ks : PySem.W.kitOne K (.ref C) (.type "str") = some false
  kt : PySem.W.kitOne K (.ref C) (.type "tuple") = some false
def tyU : U → String
  | .non => "NoneType"
  | .bl _ => "bool"
  | .int _ => "int"
  | .str _ => "str"
  | .tup _ => "tuple"
  | .lst _ => "list"
  | .dct _ => "dict"
  | .exc => "?"
def isS (S T : String) : Bool := S == T || (S == "bool" && T == "int")
/-- isinstance(u, T), T one of int, bool, str, tuple -/
def isT (u : U) (T : String) : Bool := isS (tyU u) T
theorem kit_is {S T : String} (hS : S ∈ ["NoneType", "bool", "int", "str", "tuple", "list", "dict"]) (hT : T ∈ ["int", "bool", "str", "tuple"]) : kitB S T = some (isS S T) := by
  have : (["NoneType", "bool", "int", "str", "tuple", "list", "dict"].all fun S => ["int", "bool", "str", "tuple"].all fun T => decide (kitB S T = some (isS S T))) = true := by decide +kernel
  exact of_decide_eq_true (List.all_eq_true.mp (List.all_eq_true.mp this S hS) T hT)
theorem ExN.inst {P : Program} {wd : World} {H : Hp} {h : Heap} {C a t : Addr} (ok : HOk P wd H h) (e : H a = some (ExN C t a)) : ∃ o, PySem.W.InstAt h a o C none := by
  obtain ⟨⟨o, vs, h1, h2, h3, _, h5⟩, _, _⟩ := ok a _ e
  refine ⟨o, ?_⟩
  obtain ⟨oc, od, oda, osl⟩ := o
  dsimp only at h2 h3 h5
  subst h2 h3 h5
  exact ⟨h1, rfl, rfl, trivial⟩
section
variable {X : Cx} {w C : Addr} {nm x : Str}
/-- isinstance(v, T) -/
theorem call_isiU (T : String) (E : Xc X.K X.mg x C nm) (hT : T ∈ ["int", "bool", "str", "tuple"]) :
    CallR X (.builtin "isinstance") (fun xs H Q => ∃ (v : V) (u : U) (w : Addr), xs = [v, .ty T] ∧ At w C H v u ∧ Q (.bl (isT u T)) H) := by
  intro pins s σ H xs us Q I r h
  obtain ⟨v, u, w, rfl, hat, q⟩ := h
  have plain : ∀ S, TyX X.K H v (.type S) → kitB S T = some (isT u T) → wpAny (model X.prog X.w) X.A (call (.builtin "isinstance") us) (EP X pins σ Q) X.xe s := fun S ty kb =>
    call_isi pins s σ H _ us Q I r ⟨v, .ty T, .type S, .type T, isT u T, rfl, .ty T, ty, kit_ty kb, q⟩
  cases hat with
  | non => exact plain _ (.base .non) (kit_is (by simp) hT)
  | bl b => exact plain _ (.base (.bl b)) (kit_is (by simp) hT)
  | int i => exact plain _ (.base (.int i)) (kit_is (by simp) hT)
  | str z => exact plain _ (.base (.str z)) (kit_is (by simp) hT)
  | tup h _ _ => exact plain _ (.base (.tup h)) (kit_is (by simp) hT)
  | lst h _ _ => exact plain _ (.base (.lst h)) (kit_is (by simp) hT)
  | dct h _ _ _ _ => exact plain _ (.base (.dK h)) (kit_is (by simp) hT)
  | exc h n _ _ =>
    obtain ⟨u1, u2, rfl, r1, r2⟩ := vals2 r
    cases r1
    cases r2
    obtain ⟨o, J⟩ := ExN.inst I.hok h
    have c := E.c
    have e : PySem.W.kitOne X.K (.ref C) (.type T) = some false ∧ isT .exc T = false := by
      simp only [List.mem_cons, List.not_mem_nil, or_false] at hT
      rcases hT with rfl | rfl | rfl | rfl
      · exact ⟨E.ki, by decide +kernel⟩
      · exact ⟨E.kb, by decide +kernel⟩
      · exact ⟨E.ks, by decide +kernel⟩
      · exact ⟨E.kt, by decide +kernel⟩
    rw [e.2] at q
    exact PySem.W.kia_one (PySem.W.handS_kitx_exc c.hg c.hk c.hs c.hd c.ha c.hn c.ht c.hm) I.kIn J e.1 (fun z => nomatch z) fun tk => ⟨.bl false, H, I.tok tk, rfl, q⟩
/-- an error as a value: X() -/
theorem pe_exc0 {y : Str} {p pos : Pos} (E : Xc X.K X.mg y C nm) (hg : Gl X y) (hdb : (y == ("__debug__" : Str)) = false := by decide) :
    PE X (.Call (.Name y p) [] [] pos) (fun σ H Q => ∀ a t, H a = none → H t = none → a ≠ t → Q (.ref a) (upd (upd H t (.tup [])) a (ExN C t a))) := by
  refine ⟨fun pins s σ H Q I h => ?_⟩
  refine wpAny_Call_Name_kw (ld_glob I hg E.g ?_ hdb)
  refine PySem.W.callWith_K0 I.kIn E.k ?_
  show wpAny _ _ (call (.ref C) []) _ _ _
  obtain ⟨bm, N, nm, qn, bs, hdct, sn, sub, ab, col, dd, k0, k1, k2, k3, k5, mN, hC, hN, hni, T⟩ := exc_obj I.kIn E.x
  refine wpAny_call_exc_subT PySem.F.excBase_ValueError T hC hN hni (fun h' a hm => ?_) (Nat.zero_le _)
  have hn : H a = none := I.hok.gone hm.new
  obtain ⟨t, ht, htn, htt⟩ := hm.there
  have hn2 : H t = none := I.hok.gone htn
  have nat : a ≠ t := fun e => by
    rw [e, htt] at ht
    cases ht
  have na : upd H t (.tup []) a = none := by
    rw [upd_ne nat]
    exact hn
  have ok1 : HOk X.prog X.w (upd H t (.tup [])) h' := I.hok.laidN hm.keeps hn2 ⟨Nat.zero_le _, [], .nil, _, htt, rfl, _, rfl⟩
  have ok2 : HOk X.prog X.w (upd (upd H t (.tup [])) a (ExN C t a)) h' := ok1.laidN (fun _ _ q => q) na ⟨⟨_, _, ht, rfl, rfl, rfl, rfl⟩, ⟨_, ht⟩, fun _ _ ⟨o, vs, q, r⟩ k => ⟨o, vs, k o q, r⟩⟩
  have same : ∀ b o, H b = some o → upd (upd H t (.tup [])) a (ExN C t a) b = some o := fun b o q => by
    rw [upd_ne (ne_of_none q hn), upd_ne (ne_of_none q hn2)]
    exact q
  have I2 : Inv X pins σ (upd (upd H t (.tup [])) a (ExN C t a)) { s with heap := h' } := I.un (t' := s.toks)
    { keep := fun b u q _ _ _ => hm.keeps b u q
      slot := fun b u q _ _ _ => ⟨u.slots, hm.keeps b u q⟩
      free := fun b u q n _ => by
        rw [upd_ne (fun e => by rw [e, hm.new] at q; cases q), upd_ne (fun e => by rw [e, htn] at q; cases q)]
        exact n
      there := fun b u q _ => ⟨u, hm.keeps b u q⟩
      tups := fun b xs q => same b _ q
      frzs := fun b o u q => same b _ q
      tbls := fun b ps q => ⟨#[], by rw [same b _ q]; simp⟩ } ok2
  exact ⟨.ref a, _, I2, rfl, h a t hn hn2 nat⟩
end
end Hu
namespace Ht
open PySem PySem.Spec PyProof.Rows L2
def topS (i : Nat) : Stmt := PySem.Challenge.pw_homeshold_k31_whole_checks_and_sealed_te.main.body.getD i (.Pass ⟨0, 0, 0, 0⟩)
abbrev sHand : Stmt := topS 28
abbrev sDraw : Stmt := topS 29
/-! ### heaps -/
/-- all that was tracked stands as it was, but for what stands at w -/
def Keep (w : Addr) (H H' : Hp) : Prop := ∀ b o, b ≠ w → H b = some o → H' b = some o
theorem Keep.refl (w : Addr) (H : Hp) : Keep w H H := fun _ _ _ h => h
theorem Keep.trans {w : Addr} {H H1 H2 : Hp} (a : Keep w H H1) (b : Keep w H1 H2) : Keep w H H2 := fun c o n h => b c o n (a c o n h)
theorem Keep.of_same {w : Addr} {H H' : Hp} (s : Same H H') : Keep w H H' := fun b o _ h => s b o h
theorem Keep.updw {w : Addr} {H : Hp} {o : HO} : Keep w H (upd H w o) := fun b u n h => by
  rw [upd_ne n]
  exact h
theorem same_upd {H : Hp} {p : Addr} {o : HO} (h : H p = none) : Same H (upd H p o) := fun b x e => by
  rw [upd_ne (ne_of_none e h)]
  exact e
theorem Keep.new {w : Addr} {H : Hp} {p : Addr} {o : HO} (h : H p = none) : Keep w H (upd H p o) := .of_same (same_upd h)
/-- where a well stands: w the well, c its cells -/
structure WA where
  (w c : Addr)
/-- a hand: a list of the cells, how many were taken, what is left of a cell, the mix, the count -/
structure Well (H : Hp) (a : WA) : Prop where
  ex : ∃ (cells : List Int) (pos : Nat) (rest mix cnt : Int), H a.w = some (.lst [.ref a.c, .int (pos : Int), .int rest, .int mix, .int cnt]) ∧ H a.c = some (.lst (cells.map V.int)) ∧ a.c ≠ a.w ∧ (cells.length ≤ 63 ∧ (∀ c ∈ cells, 0 ≤ c) ∧ 0 ≤ rest)
/-- what a draw leaves -/
structure Drawn (a : WA) (H H' : Hp) : Prop where
  keep : Keep a.w H H'
  well : Well H' a
variable {a : WA} {H H' H1 H2 : Hp} {p : Addr} {o : HO}
theorem Drawn.refl (h : Well H a) : Drawn a H H := ⟨.refl _ _, h⟩
theorem Drawn.trans (x : Drawn a H H1) (y : Drawn a H1 H2) : Drawn a H H2 := ⟨x.keep.trans y.keep, y.well⟩
theorem Well.same (h : Well H a) (s : Same H H') : Well H' a := by
  obtain ⟨cells, pos, rest, mix, cnt, h1, h2, n, l⟩ := h.ex
  exact ⟨cells, pos, rest, mix, cnt, s _ _ h1, s _ _ h2, n, l⟩
theorem Drawn.same (x : Drawn a H H1) (y : Same H1 H2) : Drawn a H H2 := ⟨x.keep.trans (.of_same y), x.well.same y⟩
theorem Drawn.new (x : Drawn a H H1) (h : H1 p = none) : Drawn a H (upd H1 p o) := x.same (same_upd h)
theorem Well.at (h : Well H a) : ∃ o, H a.w = some o := by
  obtain ⟨cells, pos, rest, mix, cnt, h1, _⟩ := h.ex
  exact ⟨_, h1⟩
theorem Well.ne (h : Well H a) (n : H p = none) : p ≠ a.w ∧ p ≠ a.c := by
  obtain ⟨cells, pos, rest, mix, cnt, h1, h2, _⟩ := h.ex
  exact ⟨(ne_of_none h1 n).symm, (ne_of_none h2 n).symm⟩
theorem Drawn.free (e : Drawn a H H') (hw : Well H a) (h : H' p = Option.none) : H p = Option.none := by
  by_cases q : p = a.w
  · subst q
    obtain ⟨o, h1⟩ := e.well.at
    rw [h1] at h
    cases h
  · cases z : H p with
    | none => rfl
    | some o =>
      rw [e.keep p o q z] at h
      cases h
/-- what is new since H is written -/
theorem Drawn.put (x : Drawn a H H1) (hw : Well H a) (n : H p = none) : Drawn a H (upd H1 p o) := by
  obtain ⟨n1, n2⟩ := hw.ne n
  refine ⟨fun b u nb e => ?_, ?_⟩
  · rw [upd_ne (ne_of_none e n)]
    exact x.keep b u nb e
  · obtain ⟨cells, pos, rest, mix, cnt, h1, h2, n, l⟩ := x.well.ex
    exact ⟨cells, pos, rest, mix, cnt, by rw [upd_ne n1.symm]; exact h1, by rw [upd_ne n2.symm]; exact h2, n, l⟩
theorem Drawn.there (x : Drawn a H H1) (hw : Well H a) {u : HO} (n : p ≠ a.w) (e : H p = some u) : H1 p = some u := x.keep p u n e
/-- the names of the built-ins that the text leaves alone -/
structure Bt (mg : Str → Option Value) : Prop where
  int : mg "int" = none
  len : mg "len" = none
  range : mg "range" = none
  all : mg "all" = none
  isi : mg "isinstance" = none
  tup : mg "tuple" = none
  lst : mg "list" = none
  str : mg "str" = none
  max : mg "max" = none
  boo : mg "bool" = none
  abs : mg "abs" = none
section
variable {P : Program} {w : World} {K : PySem.W.Frag} {mg : Str → Option Value} {base : Heap}
theorem fmod_lt {a b : Int} (h : 0 < b) : 0 ≤ a.fmod b ∧ a.fmod b < b := by
  rw [Int.fmod_eq_emod_of_nonneg _ (Int.le_of_lt h)]
  exact ⟨Int.emod_nonneg _ (by omega), Int.emod_lt_of_pos _ h⟩
theorem nz {j : Int} (h : decide (j = 0) = false) : j ≠ 0 := of_decide_eq_false h
/-- a def of the text, found by its name -/
structure Df (K : PySem.W.Frag) (mg : Str → Option Value) (x : Str) (st : Stmt) (ps : List Str) (f : Addr) (fd : FuncData) : Prop where
  F : Fun K x x st f fd
  b : Binds K fd ps []
  g : mg x = some (.ref f)
def spDraw : Sp := fun vs H Q _ => ∃ (wl : WA) (m : Int), vs = [.ref wl.w, .int m] ∧ Well H wl ∧ 0 < m ∧ m < 2 ^ 62 ∧ ∀ (d : Int) (H' : Hp), 0 ≤ d → d < m → Drawn wl H H' → Q (.int d) H'
theorem scDraw : FnScope ["hand", "many", "cell", "digit", "number"] ["hand", "many"] (defScope sDraw) := ⟨rfl, rfl, rfl, by decide +kernel, rfl, by decide +kernel, by decide +kernel⟩
theorem ok_draw {f : Addr} {fd : FuncData} (F : Fun K "_law_draw" "_law_draw" sDraw f fd) (B : Bt mg) : FnOk P w K mg base CX0 1 f fd ["hand", "many"] spDraw := by
  refine F.ok scDraw (fun vs H Q E h => ?_) (fun cdv A outer s H vs Q E hr h => ?_)
  · obtain ⟨n, m, rfl, _⟩ := h
    rfl
  · obtain ⟨wl, m, rfl, W, m0, m1, k⟩ := h
    have hI := B.int
    refine ⟨_, Evl.pss_cut (ps_if (PW.pt (pw_and (pt_cmpR op_eq (pe_ix ix_list (pv 0) pe_int (fun _ _ => rfl)) pe_int (nomark _)) (pw_and1 (pt_cmpR op_lt (pe_ix ix_list (pv 0) pe_int (fun _ _ => rfl)) (pe_callB call_len_seq (by rfl) B.len PySem.boot_len (pa_cons (pe_ix ix_list (pv 0) pe_int (fun _ _ => rfl)) pa_nil)) (nomark _)))))
        (pss_cons (ps_set (i := 2) scDraw.nd rfl (.inl rfl) (pe_ix ix_list (pe_ix ix_list (pv 0) pe_int (fun _ _ => rfl)) (pe_ix ix_list (pv 0) pe_int (fun _ _ => rfl)) (fun _ _ => rfl)))
        (pss_cons (ps_asg (pe_op op_add (pe_ix ix_list (pv 0) pe_int (fun _ _ => rfl)) pe_int) (pg_sub (pv 0) pe_int set_list))
        (pss_cons (ps_asg (pe_op op_modN (pe_callTy call_int1 (by rfl) hI boot_int (pa_cons (pe_op op_add (pe_op op_add (pe_op op_mul (pe_ix ix_list (pv 0) pe_int (fun _ _ => rfl)) pe_int) (pv 2)) pe_int) pa_nil)) pe_int) (pg_sub (pv 0) pe_int set_list))
        (pss_one (ps_if (pt_cmpR op_ge (pv 2) (pe_op op_pow pe_int pe_int) (nomark _)) (pss_one (ps_asg (pv 2) (pg_sub (pv 0) pe_int set_list))) pss_nil))))) pss_nil)
      (pss_cons (ps_if (pt_cmpR op_gt (pe_ix ix_list (pv 0) pe_int (fun _ _ => rfl)) pe_int (nomark _))
        (pss_cons (ps_set (i := 3) scDraw.nd rfl (.inl rfl) (pe_op op_modN (pe_callTy call_int1 (by rfl) hI boot_int (pa_cons (pe_ix ix_list (pv 0) pe_int (fun _ _ => rfl)) pa_nil)) (pv 1)))
        (pss_cons (ps_asg (pe_op op_fdivW (pe_ix ix_list (pv 0) pe_int (fun _ _ => rfl)) (pv 1)) (pg_sub (pv 0) pe_int set_list))
        (pss_one (ps_ret (pv 3))))) pss_nil)
      (pss_cons (ps_asg (pe_op op_add (pe_ix ix_list (pv 0) pe_int (fun _ _ => rfl)) pe_int) (pg_sub (pv 0) pe_int set_list))
      (pss_cons (ps_set (i := 4) scDraw.nd rfl (.inl rfl) (pe_op op_modN (pe_callTy call_int1 (by rfl) hI boot_int (pa_cons (pe_op op_mul (pe_callTy call_int1 (by rfl) hI boot_int (pa_cons (pe_op op_add (pe_ix ix_list (pv 0) pe_int (fun _ _ => rfl)) (pe_op op_mul pe_int (pe_ix ix_list (pv 0) pe_int (fun _ _ => rfl)))) pa_nil)) pe_int) pa_nil)) pe_int))
      (pss_cons (ps_set (i := 4) scDraw.nd rfl (.inl rfl) (pe_op op_modN (pe_callTy call_int1 (by rfl) hI boot_int (pa_cons (pe_op op_mul (pv 4) (pe_op op_add (pe_op op_fdivN (pv 4) pe_int) pe_int)) pa_nil)) pe_int))
      (pss_cons (ps_set (i := 4) scDraw.nd rfl (.inl rfl) (pe_op op_modN (pe_callTy call_int1 (by rfl) hI boot_int (pa_cons (pe_op op_mul (pv 4) (pe_op op_add (pe_op op_fdivN (pv 4) pe_int) pe_int)) pa_nil)) pe_int))
      (pss_one (ps_ret (pe_op op_modN (pe_callTy call_int1 (by rfl) hI boot_int (pa_cons (pe_op op_fdivN (pv 4) pe_int) pa_nil)) (pv 1))))))))), ?_⟩
    refine ⟨fun σ' H' => (∃ x2 : Option V, σ' = [some (.ref wl.w), some (.int m), x2, none, none]) ∧ Drawn wl H H', ?_, ?_⟩
    · obtain ⟨cells, pos, rest, mix, cnt, h1, h2, n, l1, l2, l3⟩ := W.ex
      refine ⟨_, rfl, wl.w, _, _, _, rfl, rfl, SqL.of h1, atI_nat (j := 2) rfl, rfl, _, rfl, ite2 (fun q => ?_) (fun q => iteF ⟨⟨none, rfl⟩, .refl W⟩)⟩
      refine ⟨_, rfl, wl.w, _, _, _, rfl, rfl, SqL.of h1, atI_nat (j := 1) rfl, _, rfl, wl.w, _, _, _, rfl, rfl, SqL.of h1, atI_nat (j := 0) rfl, wl.c, _, rfl, .inl (SqL.of h2), _, _, rfl, rfl, _, rfl, ite2 (fun q2 => ?_) (fun q2 => ⟨⟨none, rfl⟩, .refl W⟩)⟩
      have q3 : (pos : Int) < ((cells.map V.int).length : Int) := of_decide_eq_true q2
      rw [List.length_map] at q3
      have q4 : pos < cells.length := by omega
      have e1 : (cells.map V.int)[pos]? = some (.int cells[pos]) := by
        rw [List.getElem?_map, List.getElem?_eq_getElem q4]
        rfl
      have cn := l2 _ (List.getElem_mem q4)
      refine ⟨_, rfl, wl.w, _, _, _, rfl, rfl, SqL.of h1, atI_nat (j := 0) rfl, _, rfl, wl.w, _, _, _, rfl, rfl, SqL.of h1, atI_nat (j := 1) rfl, wl.c, _, _, _, rfl, rfl, SqL.of h2, atI_nat e1, ?_⟩
      refine ⟨_, rfl, wl.w, _, _, _, rfl, rfl, SqL.of h1, atI_nat (j := 1) rfl, _, _, rfl, rfl, _, rfl, wl.w, _, _, _, rfl, rfl, h1, rfl, ?_⟩
      have u1 := upd_same (H := H) (a := wl.w) (o := .lst [.ref wl.c, .int ((pos : Int) + 1), .int rest, .int mix, .int cnt])
      refine ⟨_, rfl, wl.w, _, _, _, rfl, rfl, SqL.of u1, atI_nat (j := 3) rfl, _, _, rfl, rfl, .inr (by decide), _, rfl, _, _, rfl, rfl, _, _, rfl, rfl, .inl ⟨_, rfl, _, _, rfl, rfl, nz rfl, ?_⟩⟩
      refine ⟨_, rfl, wl.w, _, _, _, rfl, rfl, u1, rfl, ?_⟩
      have D : ∀ z y : Int, 0 ≤ y → Drawn wl H (upd H wl.w (.lst [.ref wl.c, .int ((pos : Int) + 1), .int y, .int z, .int cnt])) := fun z y hy => ⟨.updw, cells, pos + 1, y, z, cnt, upd_same, by rw [upd_ne n]; exact h2, n, l1, l2, hy⟩
      refine ⟨_, rfl, _, _, rfl, rfl, ⟨by decide, by decide, by decide⟩, _, _, rfl, rfl, _, rfl, ite2 (fun q => ?_) (fun q => ?_)⟩
      · refine ⟨_, rfl, _, rfl, wl.w, _, _, _, rfl, rfl, upd_same, rfl, ⟨_, rfl⟩, ?_⟩
        rw [upd_upd, upd_upd]
        exact D _ _ cn
      · refine ⟨⟨_, rfl⟩, ?_⟩
        rw [upd_upd]
        exact D _ _ l3
    · rintro σ' H1 ⟨⟨x2, rfl⟩, D⟩
      obtain ⟨cells, pos, rest, mix, cnt, h1, h2, n, l1, l2, l3⟩ := D.well.ex
      refine ⟨_, rfl, wl.w, _, _, _, rfl, rfl, SqL.of h1, atI_nat (j := 2) rfl, _, _, rfl, rfl, _, rfl, ite2 (fun q => ?_) (fun q => ?_)⟩
      · have b1 := fmod_lt (a := rest) m0
        refine ⟨_, rfl, wl.w, _, _, _, rfl, rfl, SqL.of h1, atI_nat (j := 2) rfl, .inl ⟨_, rfl, _, rfl, _, _, rfl, rfl, (by show m ≠ 0; omega), ?_⟩⟩
        refine ⟨_, rfl, wl.w, _, _, _, rfl, rfl, SqL.of h1, atI_nat (j := 2) rfl, _, rfl, _, _, rfl, rfl, wide_div m0 (b := 62) (by omega) (by decide) (by decide), ?_⟩
        refine ⟨_, rfl, wl.w, _, _, _, rfl, rfl, h1, rfl, ?_⟩
        refine ⟨_, rfl, k _ _ b1.1 b1.2 ⟨D.keep.trans .updw, cells, pos, _, mix, cnt, upd_same, ?_, n, l1, l2, Int.ediv_nonneg l3 (by omega)⟩⟩
        rw [upd_ne n]
        exact h2
      · have u1 := upd_same (H := H1) (a := wl.w) (o := .lst [.ref wl.c, .int (pos : Int), .int rest, .int mix, .int (cnt + 1)])
        have D2 : Drawn wl H (upd H1 wl.w (.lst [.ref wl.c, .int (pos : Int), .int rest, .int mix, .int (cnt + 1)])) := ⟨D.keep.trans .updw, cells, pos, rest, mix, cnt + 1, upd_same, by rw [upd_ne n]; exact h2, n, l1, l2, l3⟩
        refine ⟨_, rfl, wl.w, _, _, _, rfl, rfl, SqL.of h1, atI_nat (j := 4) rfl, _, _, rfl, rfl, _, rfl, wl.w, _, _, _, rfl, rfl, h1, rfl, ?_⟩
        refine ⟨_, rfl, wl.w, _, _, _, rfl, rfl, SqL.of u1, atI_nat (j := 3) rfl, _, rfl, wl.w, _, _, _, rfl, rfl, SqL.of u1, atI_nat (j := 4) rfl, _, _, rfl, rfl, .inl ⟨by decide, by decide⟩, _, _, rfl, rfl, .inl ⟨_, rfl, _, _, rfl, rfl, .inr ⟨by decide, by decide⟩, .inl ⟨_, rfl, _, _, rfl, rfl, nz rfl, ?_⟩⟩⟩
        have b1 := fmod_lt (a := (mix + 7919 * (cnt + 1)) * 48271) (b := 2147483647) (by decide)
        refine ⟨_, rfl, _, rfl, _, _, rfl, rfl, ⟨by decide, by decide⟩, _, _, rfl, rfl, _, _, rfl, rfl, .inl ⟨by omega, by omega⟩, .inl ⟨_, rfl, _, _, rfl, rfl, nz rfl, ?_⟩⟩
        have b2 := fmod_lt (a := ((mix + 7919 * (cnt + 1)) * 48271).fmod 2147483647 * ((((mix + 7919 * (cnt + 1)) * 48271).fmod 2147483647).fdiv 1009 + 69621)) (b := 2147483647) (by decide)
        refine ⟨_, rfl, _, rfl, _, _, rfl, rfl, ⟨by decide, by decide⟩, _, _, rfl, rfl, _, _, rfl, rfl, .inl ⟨by omega, by omega⟩, .inl ⟨_, rfl, _, _, rfl, rfl, nz rfl, ?_⟩⟩
        refine ⟨_, rfl, _, _, rfl, rfl, ⟨by decide, by decide⟩, .inl ⟨_, rfl, _, rfl, _, _, rfl, rfl, (by show m ≠ 0; omega), ?_⟩⟩
        have b3 := fmod_lt (a := (((((mix + 7919 * (cnt + 1)) * 48271).fmod 2147483647 * ((((mix + 7919 * (cnt + 1)) * 48271).fmod 2147483647).fdiv 1009 + 69621)).fmod 2147483647 * (((((mix + 7919 * (cnt + 1)) * 48271).fmod 2147483647 * ((((mix + 7919 * (cnt + 1)) * 48271).fmod 2147483647).fdiv 1009 + 69621)).fmod 2147483647).fdiv 2003 + 40692)).fmod 2147483399).fdiv 16) m0
        exact k _ _ b3.1 b3.2 D2
end
end Ht
namespace Ht
open PySem PySem.Spec PyProof.Rows L2
section
variable {P : Program} {w : World} {K : PySem.W.Frag} {mg : Str → Option Value} {base : Heap}
theorem big_line : 1000000 < sizeLine := by
  rw [sizeLine_eq]
  decide
theorem boot_abs' : bootBuiltins "abs" = some (.builtin "abs") := by decide +kernel
def absI (i : Int) : Int := if i < 0 then -i else i
theorem absI_nn (i : Int) : 0 ≤ absI i := by
  unfold absI
  split <;> omega
def spHand (K : PySem.W.Frag) : Sp := fun vs H Q _ => ∃ (a : Addr) (ns : List Int), vs = [.ref a] ∧ SqL K H a (ns.map V.int) ∧ ∀ (wl : WA) (H' : Hp), Same H H' → Well H' wl → Q (.ref wl.w) H'
theorem scHand : FnScope ["script", "cell", "cells"] ["script"] (defScope sHand) := ⟨rfl, rfl, rfl, by decide +kernel, rfl, by decide +kernel, by decide +kernel⟩
theorem ok_hand {f : Addr} {fd : FuncData} (F : Fun K "_law_hand" "_law_hand" sHand f fd) (B : Bt mg) : FnOk P w K mg base CX0 1 f fd ["script"] (spHand K) := by
  refine F.ok scHand (fun vs H Q E h => ?_) (fun cdv A outer s H vs Q E hr h => ?_)
  · obtain ⟨n, m, rfl, _⟩ := h
    rfl
  · obtain ⟨a, ns, rfl, hS, k⟩ := h
    have hI := B.int
    refine ⟨_, pss_cons (ps_setLc (i := 2) (own := [("cell", 1)]) (g := gName 1) (tt := tYes) rfl scHand.nd rfl rfl rfl (pi_list (pe_slice sl_list (pv 0) po_none (po_some pe_int))) (blkOk_by (N := ["script", "cell", "cells"]) (sc := defScope sHand) (by decide +kernel))
        (fun _ _ _ _ _ => pg_name (i := 1) scHand.nd rfl (Or.inl rfl)) (fun _ _ _ _ _ => pts_nil) (fun _ _ _ _ _ => pe_callB call_abs (by rfl) B.abs boot_abs' (pa_cons (pe_callTy call_int1 (by rfl) hI boot_int (pa_cons (pv 1) pa_nil)) pa_nil)))
      (pss_one (ps_ret (pe_lst (pa_cons (pv 2) (pa_cons pe_int (pa_cons pe_int (pa_cons (pe_op op_add pe_int (pe_callB call_len_seq (by rfl) B.len PySem.boot_len (pa_cons (pv 2) pa_nil))) (pa_cons pe_int pa_nil)))))))), ?_⟩
    refine ⟨_, rfl, _, rfl, a, _, rfl, hS, fun p hp => ?_⟩
    have ec : cutV (ns.map V.int) none (some 63) = (ns.take 63).map V.int := by
      unfold cutV
      rw [HT.sIx_none, show HT.sIx (ns.map V.int).length (ns.map V.int).length (some 63) = min 63 (ns.map V.int).length from HT.sIx_nat _ _ 63]
      show List.take (min 63 (ns.map V.int).length - 0) (List.drop 0 (ns.map V.int)) = _
      rw [List.drop_zero, Nat.sub_zero, List.map_take, List.take_eq_take_iff]
      omega
    rw [ec]
    have l63 : (ns.take 63).length ≤ 63 := by
      rw [List.length_take]
      omega
    clear ec
    generalize ns.take 63 = cs at l63
    have s1 : Same H (upd H p (.lst (cs.map V.int))) := same_upd hp
    refine ⟨p, rfl, ⟨_, SqL.of upd_same⟩, fun D hD => ?_⟩
    have nDp : p ≠ D := ne_of_none upd_same hD
    refine lc_list (K := K) (a := p) (xs := cs.map V.int) (fun i H' => Same H H' ∧ H' p = some (.lst (cs.map V.int)) ∧ H' D = some (.lst (((cs.map absI).take i).map V.int)))
      ⟨s1.trans (same_upd hD), by rw [upd_ne nDp, upd_same], upd_same⟩ (fun i H' _ p => SqL.of p.2.1) ?_ ?_
    · rintro i x H1 hi ⟨sm, h1, h2⟩
      rw [List.getElem?_map] at hi
      cases e : cs[i]? with
      | none =>
        rw [e] at hi
        cases hi
      | some n =>
        rw [e] at hi
        have ex := Option.some.inj hi
        subst ex
        have hl := (List.getElem?_eq_some_iff.mp e).1
        refine ⟨rfl, _, rfl, .inl ⟨_, rfl, _, rfl, _, h2, ?_, fun b o hb => ?_, ?_, ?_⟩⟩
        · rw [List.length_map, List.length_take, List.length_map]
          have := big_line
          omega
        · rw [upd_ne (ne_of_none hb (s1.free hD))]
          exact sm _ _ hb
        · rw [upd_ne nDp]
          exact h1
        · rw [upd_same, List.take_add_one, List.getElem?_map, e, List.map_append]
          rfl
    · rintro H1 ⟨sm, h1, h2⟩
      rw [List.length_map, show cs.length = (cs.map absI).length by rw [List.length_map], List.take_length] at h2
      refine ⟨_, rfl, _, rfl, D, _, rfl, .inl (SqL.of h2), _, _, rfl, rfl, by show 5 ≤ sizeLine; decide, fun q hq => ?_⟩
      have nDq : D ≠ q := ne_of_none h2 hq
      refine k ⟨q, D⟩ _ (sm.trans (same_upd hq)) ⟨cs.map absI, 0, 0, 1 + (cs.length : Int), 0, ?_, ?_, nDq, by rw [List.length_map]; exact l63, fun c hc => ?_, Int.le_refl _⟩
      · rw [upd_same, List.length_map, List.length_map]
        rfl
      · rw [upd_ne nDq]
        exact h2
      · obtain ⟨b, _, rfl⟩ := List.mem_map.mp hc
        exact absI_nn b
end
end Ht
/-! one of a list, one sign of a string; a drawn word -/
namespace Ht
open PySem PySem.Spec PyProof.Rows L2
abbrev sAny : Stmt := topS 30
abbrev sWord : Stmt := topS 31
/-- _law_draw, ready to be called -/
structure Dd (P : Program) (w : World) (K : PySem.W.Frag) (mg : Str → Option Value) (base : Heap) (f : Addr) (d : FuncData) : Prop where
  ok : FnOk P w K mg base CX0 1 f d ["hand", "many"] spDraw
  g : mg "_law_draw" = some (.ref f)
  kp : PySem.W.keepIn K (.ref f) = true
  b : Binds K d ["hand", "many"] []
section
variable {X : Cx} {fD : Addr} {dD : FuncData} {e1 e2 : Expr} {t1 t2 : TE} {ps pos : Pos} {k : Nat}
theorem pe_draw (D : Dd X.prog X.w X.K X.mg X.base fD dD) (hr : Room k X.A) (h : 1 ≤ k) (hg : Gl X "_law_draw") (h1 : PE X e1 t1) (h2 : PE X e2 t2) (hst : starEach [e1, e2] X.env = (false, eval e1 X.env) :: starEach [e2] X.env := by rfl) (hst2 : starEach [e2] X.env = (false, eval e2 X.env) :: starEach [] X.env := by rfl)
    (hpl : (backTo pos (starEach [e2] X.env)).any (·.1) = false := by rfl) : PE X (.Call (.Name "_law_draw" ps) [e1, e2] [] pos) (tCall spDraw [] E0 (tCons t1 (tCons t2 tNil))) :=
  pe_call (D.ok.mono h) hr hg D.g D.kp D.b .nil pass0 (pa_cons h1 (pa_cons h2 pa_nil hst2) hst) (by decide) hst hpl
end
section
variable {P : Program} {w : World} {K : PySem.W.Frag} {mg : Str → Option Value} {base : Heap} {fD : Addr} {dD : FuncData}
theorem scAny : FnScope ["hand", "things"] ["hand", "things"] (defScope sAny) := ⟨rfl, rfl, rfl, by decide +kernel, rfl, by decide +kernel, by decide +kernel⟩
def spAnyL : Sp := fun vs H Q _ => ∃ (wl : WA) (L : Addr) (xs : List V), vs = [.ref wl.w, .ref L] ∧ Well H wl ∧ H L = some (.lst xs) ∧ L ≠ wl.w ∧ 1 ≤ xs.length ∧ xs.length ≤ 1000 ∧ ∀ (x : V) (H' : Hp), x ∈ xs → Drawn wl H H' → Q x H'
def spAnyS : Sp := fun vs H Q _ => ∃ (wl : WA) (z : Str), vs = [.ref wl.w, .str z] ∧ Well H wl ∧ 1 ≤ z.length ∧ z.length ≤ 1000 ∧ ∀ (c : Nat) (H' : Hp), c ∈ TL.tl z → Drawn wl H H' → Q (.str ⟨#[c]⟩) H'
theorem ok_anyL {f : Addr} {fd : FuncData} (F : Fun K "_law_any" "_law_any" sAny f fd) (B : Bt mg) (D : Dd P w K mg base fD dD) : FnOk P w K mg base CX0 2 f fd ["hand", "things"] spAnyL := by
  refine F.ok scAny (fun vs H Q E h => ?_) (fun cdv A outer s H vs Q E hr h => ?_)
  · obtain ⟨n, m, xs, rfl, _⟩ := h
    rfl
  obtain ⟨wl, L, xs, rfl, W, hL, nL, l1, l2, k⟩ := h
  refine ⟨_, pss_one (ps_ret (pe_ix ix_list (pv 1) (pe_draw D hr (by decide) (by rfl) (pv 0) (pe_callB call_len_seq (by rfl) B.len PySem.boot_len (pa_cons (pv 1) pa_nil))) (fun _ _ => rfl))), ?_⟩
  refine ⟨_, rfl, _, rfl, _, rfl, L, xs, rfl, .inl (SqL.of hL), wl, _, rfl, W, by omega, by omega, fun d H1 d0 d1 D1 => ?_⟩
  have hd : d.toNat < xs.length := by omega
  have e : d = ((d.toNat : Nat) : Int) := by omega
  have ha : atI xs ((d.toNat : Nat) : Int) = some xs[d.toNat] := atI_nat (List.getElem?_eq_getElem hd)
  exact ⟨L, xs, d, xs[d.toNat], rfl, rfl, SqL.of (D1.keep L _ nL hL), (by rw [← e] at ha; exact ha), k _ _ (List.getElem_mem hd) D1⟩
theorem ok_anyS {f : Addr} {fd : FuncData} (F : Fun K "_law_any" "_law_any" sAny f fd) (B : Bt mg) (D : Dd P w K mg base fD dD) : FnOk P w K mg base CX0 2 f fd ["hand", "things"] spAnyS := by
  refine F.ok scAny (fun vs H Q E h => ?_) (fun cdv A outer s H vs Q E hr h => ?_)
  · obtain ⟨n, m, rfl, _⟩ := h
    rfl
  obtain ⟨wl, z, rfl, W, l1, l2, k⟩ := h
  have hz : z.length ≤ sizeLine := Nat.le_trans l2 (Nat.le_of_lt (Nat.lt_trans (by decide) big_line))
  refine ⟨_, pss_one (ps_ret (pe_ix ix_str (pv 1) (pe_draw D hr (by decide) (by rfl) (pv 0) (pe_callB call_len_str (by rfl) B.len PySem.boot_len (pa_cons (pv 1) pa_nil))) (fun _ _ => rfl))), ?_⟩
  refine ⟨_, rfl, _, rfl, _, rfl, z, rfl, hz, wl, _, rfl, W, by omega, by omega, fun d H1 d0 d1 D1 => ?_⟩
  have hl := TL.len_tl z
  have hd : d.toNat < (TL.tl z).length := by omega
  have e : d = ((d.toNat : Nat) : Int) := by omega
  have ha : atI (TL.tl z) ((d.toNat : Nat) : Int) = some (TL.tl z)[d.toNat] := atI_nat (List.getElem?_eq_getElem hd)
  exact ⟨z, d, (TL.tl z)[d.toNat], rfl, rfl, hz, (by rw [← e] at ha; exact ha), k _ _ (List.getElem_mem hd) D1⟩
/-! ### words -/
def wordsZ : Str := "ab'~() ,#.-0129~'z!"
def okW (c : Nat) : Bool := decide (32 ≤ c) && decide (c ≤ 126)
theorem words_ok : (TL.tl wordsZ).all okW = true := by decide +kernel
def spWord : Sp := fun vs H Q _ => ∃ wl : WA, vs = [.ref wl.w] ∧ Well H wl ∧ ∀ (z : Str) (H' : Hp), z.length ≤ 6 → (TL.tl z).all okW = true → Drawn wl H H' → Q (.str z) H'
theorem scWord : FnScope ["hand", "signs", "k"] ["hand"] (defScope sWord) := ⟨rfl, rfl, rfl, by decide +kernel, rfl, by decide +kernel, by decide +kernel⟩
theorem join_tl (zs : List Str) : TL.tl (Txt.join ("" : Str) zs) = (zs.map TL.tl).flatten := by
  rw [TL.join_eq, TL.tl_join]
  have e : TL.tl ("" : Str) = [] := rfl
  rw [e]
  generalize zs.map TL.tl = l
  induction l with
  | nil => rfl
  | cons p r ih =>
    cases r with
    | nil => simp [TL.joinL]
    | cons q r =>
      show p ++ ([] ++ TL.joinL [] (q :: r)) = _
      rw [ih]
      rfl
theorem join_signs : ∀ cs : List Nat, ((cs.map fun c => (⟨#[c]⟩ : Str)).map (·.length)).sum = cs.length ∧ ((cs.map fun c => (⟨#[c]⟩ : Str)).map TL.tl).flatten = cs
  | [] => ⟨rfl, rfl⟩
  | c :: cs => by
    obtain ⟨h1, h2⟩ := join_signs cs
    refine ⟨?_, ?_⟩
    · rw [List.map_cons, List.map_cons, List.sum_cons, h1, List.length_cons]
      show 1 + cs.length = cs.length + 1
      omega
    · rw [List.map_cons, List.map_cons, List.flatten_cons, h2]
      rfl
theorem ok_word {f fA : Addr} {fd dA : FuncData} (F : Fun K "_law_word" "_law_word" sWord f fd) (B : Bt mg) (D : Dd P w K mg base fD dD) (DA : Df K mg "_law_any" sAny ["hand", "things"] fA dA) : FnOk P w K mg base CX0 3 f fd ["hand"] spWord := by
  have GA : FnOk P w K mg base CX0 2 fA dA ["hand", "things"] spAnyS := ok_anyS DA.F B D
  refine F.ok scWord (fun vs H Q E h => ?_) (fun cdv A outer s H vs Q E hr h => ?_)
  · obtain ⟨n, rfl, _⟩ := h
    rfl
  obtain ⟨wl, rfl, W, k⟩ := h
  refine ⟨_, pss_cons (ps_set (i := 1) scWord.nd rfl (.inr rfl) pe_str)
    (pss_one (ps_ret (pe_join pe_str (pe_lc (own := [("k", 2)]) (g := gName 2) (tt := tYes) rfl scWord.nd (pi_range1 (by rfl) B.range (pa_cons (pe_draw D hr (by decide) (by rfl) (pv 0) pe_int) pa_nil)) (blkOk_by (N := ["hand", "signs", "k"]) (sc := defScope sWord) (by decide +kernel))
        (fun _ _ _ _ _ => pg_name (i := 2) scWord.nd rfl (Or.inl rfl)) (fun _ _ _ _ _ => pts_nil)
        (fun _ _ _ _ _ => pe_call GA hr (by rfl) DA.g DA.F.kp DA.b .nil pass0 (pa_cons (pv 0) (pa_cons (pv 1) pa_nil))))))), ?_⟩
  refine ⟨⟨_, rfl⟩, _, rfl, wl, 7, rfl, W, by decide, by decide, fun m H1 m0 m1 D1 => ⟨m, rfl, by omega, by omega, fun D' hD => ?_⟩⟩
  have nD := (D1.well.ne hD).1
  refine lc_range (lo := 0) (n := m.toNat) (fun i H' => Drawn wl H1 H' ∧ ∃ cs : List Nat, H' D' = some (.lst ((cs.map fun c => (⟨#[c]⟩ : Str)).map V.str)) ∧ cs.length = i ∧ cs.all okW = true) ⟨(Drawn.refl D1.well).new hD, [], upd_same, rfl, rfl⟩ ?_ ?_
  · rintro i H2 hi ⟨D2, cs, hz, hl, hc⟩
    refine ⟨rfl, _, rfl, _, rfl, wl, wordsZ, rfl, D2.well, by decide +kernel, by decide +kernel, fun c H3 hcm D3 => ⟨_, D3.keep D' _ nD hz, ?_, (D2.trans D3).put D1.well hD, cs ++ [c], ?_, ?_, ?_⟩⟩
    · rw [List.length_map, List.length_map]
      have := big_line
      omega
    · rw [upd_same, List.map_append, List.map_append]
      rfl
    · rw [List.length_append, hl]
      rfl
    · rw [List.all_append, hc]
      have := List.all_eq_true.mp words_ok c hcm
      simp [this]
  · rintro H2 ⟨D2, cs, hz, hl, hc⟩
    obtain ⟨s1, s2⟩ := join_signs cs
    refine ⟨_, D', cs.map fun c => (⟨#[c]⟩ : Str), rfl, rfl, .inl (SqL.of hz), ?_, k _ _ ?_ ?_ (D1.trans D2)⟩
    · rw [s1]
      show cs.length + _ * 0 ≤ 16777216
      omega
    · rw [TL.len_tl, join_tl, s2]
      omega
    · rw [join_tl, s2]
      exact hc
end
end Ht
/-! k30: the readers as pure functions of (signs, place); the program's and the law's tell alike -/
namespace Ht
open PySem Hu
inductive R where
  | ok (u : U) (p : Nat) | bad (p : Nat)
def isD (c : Nat) : Bool := decide (48 ≤ c) && decide (c ≤ 57)
def mkS (l : List Nat) : Str := ⟨l.toArray⟩
/-- the string behind a quote; n steps at most -/
def rdStr (cs : List Nat) : Nat → Nat → List Nat → R
  | 0, p, _ => .bad p
  | n + 1, p, acc => match cs[p]? with
    | none => .bad p
    | some c => if c = 39 then .ok (.str (mkS acc)) (p + 1)
      else if c = 126 then match cs[p + 1]? with
        | none => .bad (p + 1)
        | some d => if d = 39 ∨ d = 126 then rdStr cs n (p + 2) (acc ++ [d]) else .bad (p + 1)
      else if 32 ≤ c ∧ c ≤ 126 then rdStr cs n (p + 1) (acc ++ [c]) else .bad p
/-- the items of a tuple, from one place on -/
def rdItems (cs : List Nat) (rd : Nat → R) : Nat → Nat → List U → R
  | 0, p, _ => .bad p
  | n + 1, p, acc => match rd p with
    | .bad e => .bad e
    | .ok u q => if cs[q]? = some 41 then .ok (.tup (acc ++ [u])) (q + 1) else if cs[q]? = some 44 then rdItems cs rd n (q + 1) (acc ++ [u]) else .bad q
/-- a thing; k tuples may still be opened; ri reads integers -/
def rdThing (cs : List Nat) (ri : Nat → R) : Nat → Nat → R
  | k, p => match cs[p]? with
    | none => .bad p
    | some c => if c = 46 then .ok .non (p + 1) else if c = 39 then rdStr cs cs.length (p + 1) [] else if c = 40 then
        (match k with
        | 0 => .bad p
        | k + 1 => if cs[p + 1]? = some 41 then .ok (.tup []) (p + 2) else rdItems cs (rdThing cs ri k) cs.length (p + 1) [])
      else ri p
/-- how many digits stand from a place on -/
def run (cs : List Nat) (p : Nat) : Nat := ((cs.drop p).takeWhile isD).length
def valD (l : List Nat) : Nat := l.foldl (fun a c => a * 10 + (c - 48)) 0
def begins (cs : List Nat) (p : Nat) : Nat := if cs[p]? = some 45 then p + 1 else p
def intAt (cs : List Nat) (p n : Nat) : Int := if cs[p]? = some 45 then -(valD ((cs.drop (begins cs p)).take n) : Int) else (valD ((cs.drop (begins cs p)).take n) : Int)
/-- the program's -/
def riP (cs : List Nat) (p : Nat) : R :=
  let f := begins cs p
  if run cs f = 0 then .bad f
  else if cs[f]? = some 48 then (if p < f then .bad f else .ok (.int 0) (f + 1))
  else if 30 < run cs f then .bad (f + 30) else .ok (.int (intAt cs p (run cs f))) (f + run cs f)
/-- the law's: of more than thirty digits the first thirty -/
def riL (cs : List Nat) (p : Nat) : R :=
  let f := begins cs p
  if run cs f = 0 then .bad f
  else if cs[f]? = some 48 then (if p < f then .bad f else .ok (.int 0) (f + 1))
  else if 30 < run cs f then .ok (.int (intAt cs p 30)) (f + 30) else .ok (.int (intAt cs p (run cs f))) (f + run cs f)
/-- alike, but where the law goes on with a digit behind it, which is wrong for all who read on -/
def Alike (cs : List Nat) (x y : R) : Prop := x = y ∨ ∃ u e c, x = .bad e ∧ y = .ok u e ∧ cs[e]? = some c ∧ isD c = true
theorem run_digit {cs : List Nat} {f n : Nat} (h : n < run cs f) : ∃ c, cs[f + n]? = some c ∧ isD c = true := by
  unfold run at h
  have h1 : n < (cs.drop f).length := Nat.lt_of_lt_of_le h (List.takeWhile_sublist _).length_le
  refine ⟨(cs.drop f)[n], ?_, ?_⟩
  · rw [← List.getElem?_drop, List.getElem?_eq_getElem h1]
  · have e : ((cs.drop f).takeWhile isD)[n] = (cs.drop f)[n] := by
      have := List.takeWhile_append_dropWhile (p := isD) (l := cs.drop f)
      have q : ((cs.drop f).takeWhile isD ++ (cs.drop f).dropWhile isD)[n]? = (cs.drop f)[n]? := by rw [this]
      rw [List.getElem?_append_left h, List.getElem?_eq_getElem h, List.getElem?_eq_getElem h1] at q
      exact Option.some.inj q
    rw [← e]
    have ha := List.all_takeWhile (p := isD) (l := cs.drop f)
    exact List.all_eq_true.mp ha _ (List.getElem_mem h)
theorem ri_alike (cs : List Nat) (p : Nat) : Alike cs (riP cs p) (riL cs p) := by
  unfold riP riL
  dsimp only
  by_cases h1 : run cs (begins cs p) = 0
  · rw [if_pos h1, if_pos h1]
    exact .inl rfl
  · rw [if_neg h1, if_neg h1]
    by_cases h2 : cs[begins cs p]? = some 48
    · rw [if_pos h2, if_pos h2]
      exact .inl rfl
    · rw [if_neg h2, if_neg h2]
      by_cases h3 : 30 < run cs (begins cs p)
      · rw [if_pos h3, if_pos h3]
        obtain ⟨c, hc, hd⟩ := run_digit h3
        exact .inr ⟨_, _, c, rfl, rfl, hc, hd⟩
      · rw [if_neg h3, if_neg h3]
        exact .inl rfl
theorem items_alike {cs : List Nat} {rd ld : Nat → R} (h : ∀ p, Alike cs (rd p) (ld p)) : ∀ n p acc, rdItems cs rd n p acc = rdItems cs ld n p acc
  | 0, _, _ => rfl
  | n + 1, p, acc => by
    unfold rdItems
    rcases h p with e | ⟨u, e, c, h1, h2, h3, h4⟩
    · rw [e]
      cases ld p with
      | bad e => rfl
      | ok u q =>
        dsimp only
        rw [items_alike h n]
    · rw [h1, h2]
      dsimp only
      have n1 : ¬ cs[e]? = some 41 := fun z => by
        rw [h3] at z
        cases z
        cases h4
      have n2 : ¬ cs[e]? = some 44 := fun z => by
        rw [h3] at z
        cases z
        cases h4
      rw [if_neg n1, if_neg n2]
theorem thing_alike (cs : List Nat) : ∀ k p, Alike cs (rdThing cs (riP cs) k p) (rdThing cs (riL cs) k p) := by
  intro k
  induction k with
  | zero =>
    intro p
    unfold rdThing
    cases cs[p]? with
    | none => exact .inl rfl
    | some c =>
      dsimp only
      split
      · exact .inl rfl
      · split
        · exact .inl rfl
        · split
          · exact .inl rfl
          · exact ri_alike cs p
  | succ k ih =>
    intro p
    unfold rdThing
    cases cs[p]? with
    | none => exact .inl rfl
    | some c =>
      dsimp only
      split
      · exact .inl rfl
      · split
        · exact .inl rfl
        · split
          · split
            · exact .inl rfl
            · exact .inl (items_alike ih _ _ _)
          · exact ri_alike cs p
/-- what is told of a whole text: the thing, or the place -/
def whole (cs : List Nat) : R → U ⊕ Nat
  | .bad e => .inr e
  | .ok u q => if q = cs.length then .inl u else .inr q
theorem whole_alike (cs : List Nat) : whole cs (rdThing cs (riP cs) 30 0) = whole cs (rdThing cs (riL cs) 30 0) := by
  rcases thing_alike cs 30 0 with e | ⟨u, e, c, h1, h2, h3, h4⟩
  · rw [e]
  · rw [h1, h2]
    have := (List.getElem?_eq_some_iff.mp h3).1
    show _ = if e = cs.length then _ else _
    rw [if_neg (by omega)]
    rfl
end Ht
/-! drawn things -/
namespace Ht
open PySem PySem.Spec PyProof.Rows L2 Hu Evl
abbrev sThing : Stmt := topS 32
mutual
/-- how long its text is, at most -/
def ln : U → Nat
  | .int _ => 32
  | .str z => 2 * z.length + 2
  | .tup us => lnL us + 2
  | _ => 1
def lnL : List U → Nat
  | [] => 0
  | u :: us => ln u + 1 + lnL us
end
mutual
def dpt : U → Nat
  | .tup us => dptL us + 1
  | _ => 0
def dptL : List U → Nat
  | [] => 0
  | u :: us => max (dpt u) (dptL us)
end
mutual
/-- a thing -/
def pl : U → Prop
  | .non => True
  | .int i => i.natAbs < 10 ^ 30
  | .str z => (TL.tl z).all okW = true
  | .tup us => plL us
  | _ => False
def plL : List U → Prop
  | [] => True
  | u :: us => pl u ∧ plL us
end
theorem lnL_append : ∀ us us' : List U, lnL (us ++ us') = lnL us + lnL us'
  | [], us' => by simp [lnL]
  | u :: us, us' => by simp only [List.cons_append, lnL, lnL_append us us']; omega
theorem dptL_append : ∀ us us' : List U, dptL (us ++ us') = max (dptL us) (dptL us')
  | [], us' => by simp [dptL]
  | u :: us, us' => by simp only [List.cons_append, dptL, dptL_append us us']; omega
theorem plL_append : ∀ {us us' : List U}, plL us → plL us' → plL (us ++ us')
  | [], _, _, h => h
  | _ :: _, _, h, h' => ⟨h.1, plL_append h.2 h'⟩
def fresh (H H' : Hp) : Hp := fun b => match H b with | none => H' b | some _ => none
theorem fr_get {H H' : Hp} {b : Addr} (h : H b = none) : fresh H H' b = H' b := by
  unfold fresh
  rw [h]
theorem fr_new {H H' : Hp} {b : Addr} {o : HO} (h : fresh H H' b = some o) : H b = none ∧ H' b = some o := by
  cases q : H b with
  | none => exact ⟨rfl, by rw [fr_get q] at h; exact h⟩
  | some o' =>
    unfold fresh at h
    rw [q] at h
    cases h
section
variable {C : Addr}
theorem fr_step {wl : WA} {H2 H' H3 : Hp} {D' : Addr} {o0 : HO} {vs : List V} {us : List U} {y : V} {u : U} (W2 : Well H2 wl) (hD : H2 D' = none) (D2 : Drawn wl H2 H') (hL : H' D' = some (.lst vs)) (l : AtL wl.w C (fresh (upd H2 D' o0) H') vs us) (D3 : Drawn wl H' H3) (hy : At wl.w C (fresh H' H3) y u) :
    AtL wl.w C (fresh (upd H2 D' o0) (upd H3 D' (.lst (vs ++ [y])))) (vs ++ [y]) (us ++ [u]) := by
  refine AtL.append (l.keep fun b o _ q => ?_) (.cons (hy.keep fun b o _ q => ?_) .nil)
  · obtain ⟨q1, q2⟩ := fr_new q
    have nb : b ≠ D' := fun e => by rw [e, upd_same] at q1; cases q1
    rw [fr_get q1, upd_ne nb]
    rw [upd_ne nb] at q1
    have nbw : b ≠ wl.w := fun e => by
      obtain ⟨o', ho⟩ := W2.at
      rw [e, ho] at q1
      cases q1
    exact D3.keep b o nbw q2
  · obtain ⟨q1, q2⟩ := fr_new q
    have nb : b ≠ D' := fun e => by rw [e, hL] at q1; cases q1
    have q3 : upd H2 D' o0 b = none := by
      rw [upd_ne nb]
      exact D2.free W2 q1
    rw [fr_get q3, upd_ne nb]
    exact q2
theorem fr_lift {wl : WA} {H H2 H' : Hp} {D' : Addr} {o0 : HO} {vs : List V} {us : List U} (W : Well H wl) (D1 : Drawn wl H H2) (hD : H2 D' = none) (l : AtL wl.w C (fresh (upd H2 D' o0) H') vs us) : AtL wl.w C (fresh H H') vs us :=
  l.keep fun b o _ q => by
    obtain ⟨q1, q2⟩ := fr_new q
    have nb : b ≠ D' := fun e => by rw [e, upd_same] at q1; cases q1
    rw [upd_ne nb] at q1
    rw [fr_get (D1.free W q1)]
    exact q2
theorem fr_same {w : Addr} {H H' H'' : Hp} {vs : List V} {us : List U} (l : AtL w C (fresh H H') vs us) (s : Same H' H'') : AtL w C (fresh H H'') vs us := l.keep fun b o _ q => by
  obtain ⟨q1, q2⟩ := fr_new q
  rw [fr_get q1]
  exact s _ _ q2
end
def Ln : Nat → Nat | 0 => 40 | n + 1 => 3 * (Ln n + 1) + 2
theorem Ln_ge : ∀ n, 40 ≤ Ln n
  | 0 => Nat.le_refl _
  | n + 1 => by have := Ln_ge n; simp only [Ln]; omega
theorem vi_eq {i j : Int} (h : decide (V.int i = V.int j) = true) : i = j := V.int.inj (of_decide_eq_true h)
theorem vi_ne {i j : Int} (h : ¬ decide (V.int i = V.int j) = true) : i ≠ j := fun e => h (decide_eq_true (by rw [e]))
section
variable {P : Program} {w : World} {K : PySem.W.Frag} {mg : Str → Option Value} {base : Heap} {fD : Addr} {dD : FuncData} {C : Addr}
def spThing (C : Addr) (n : Nat) : Sp := fun vs H Q _ => ∃ wl : WA, vs = [.ref wl.w, .int (n : Int)] ∧ Well H wl ∧ ∀ (v : V) (u : U) (H' : Hp), Drawn wl H H' → At wl.w C (fresh H H') v u → pl u → ln u ≤ Ln n → dpt u ≤ n → Q v H'
def spPrev (C : Addr) : Nat → Sp
  | 0 => fun _ _ _ _ => False
  | n + 1 => spThing C n
def smallInts : List V := [.int 0, .int 1, .int (-1), .int 7, .int 10, .int (-205), .int (10 ^ 30 - 1), .int (-10 ^ 30 + 1), .int 99991]
theorem scThing : FnScope ["hand", "deep", "kind", "k"] ["hand", "deep"] (defScope sThing) := ⟨rfl, rfl, rfl, by decide +kernel, rfl, by decide +kernel, by decide +kernel⟩
theorem ints_small : ∀ x ∈ smallInts, ∃ i : Int, x = .int i ∧ i.natAbs < 10 ^ 30 := by
  intro x hx
  simp only [smallInts, List.mem_cons, List.not_mem_nil, or_false] at hx
  rcases hx with rfl | rfl | rfl | rfl | rfl | rfl | rfl | rfl | rfl
  all_goals exact ⟨_, rfl, by decide⟩
theorem ok_thing {f fA fW : Addr} {fd dA dW : FuncData} (DT : Df K mg "_law_thing" sThing ["hand", "deep"] f fd) (B : Bt mg) (D : Dd P w K mg base fD dD) (DA : Df K mg "_law_any" sAny ["hand", "things"] fA dA) (DW : Df K mg "_law_word" sWord ["hand"] fW dW) (n : Nat) (G : FnOk P w K mg base CX0 (3 + n) f fd ["hand", "deep"] (spPrev C n)) :
    FnOk P w K mg base CX0 (3 + n + 1) f fd ["hand", "deep"] (spThing C n) := by
  have GA : FnOk P w K mg base CX0 2 fA dA ["hand", "things"] spAnyL := ok_anyL DA.F B D
  have GW : FnOk P w K mg base CX0 3 fW dW ["hand"] spWord := ok_word DW.F B D DA
  refine DT.F.ok scThing (fun vs H Q E h => ?_) (fun cdv A outer s H vs Q E hr h => ?_)
  · obtain ⟨wl, rfl, _⟩ := h
    rfl
  obtain ⟨wl, rfl, W, k⟩ := h
  have hr3 : Room 3 (A.deeper (envOfC "_law_thing" (defScope sThing) s.heap.objs.size f cdv)) := hr.mono (by omega)
  refine ⟨_, Evl.pss_cut (ps_set (i := 2) scThing.nd rfl (.inl rfl) (pe_draw D hr3 (by decide) (by rfl) (pv 0) (pe_ifExp (pt_cmpR op_gt (pv 1) pe_int (nomark _)) pe_int pe_int)))
    (pss_cons (ps_if (pt_cmpR op_eq (pv 2) pe_int (nomark _)) (pss_one (ps_ret (pe_call GA (hr3.mono (by decide)) (by rfl) DA.g DA.F.kp DA.b .nil pass0 (pa_cons (pv 0) (pa_cons (pe_lst (pa_cons pe_int (pa_cons pe_int (pa_cons (pe_un un_neg pe_int) (pa_cons pe_int (pa_cons pe_int (pa_cons (pe_un un_neg pe_int)
        (pa_cons (pe_op op_sub (pe_op op_pow pe_int pe_int) pe_int) (pa_cons (pe_op op_add (pe_un un_neg (pe_op op_pow pe_int pe_int)) pe_int) (pa_cons pe_int pa_nil)))))))))) pa_nil))))) pss_nil)
    (pss_cons (ps_if (pt_cmpR op_eq (pv 2) pe_int (nomark _)) (pss_one (ps_ret pe_non)) pss_nil)
    (pss_cons (ps_if (pt_cmpR op_lt (pv 2) pe_int (nomark _)) (pss_one (ps_ret (pe_call GW hr3 (by rfl) DW.g DW.F.kp DW.b .nil pass0 (pa_cons (pv 0) pa_nil)))) pss_nil)
    (pss_one (ps_ret (pe_callTy call_tuple_of (by rfl) B.tup (by decide +kernel) (pa_cons (pe_lc (own := [("k", 3)]) (g := gName 3) (tt := tYes) rfl scThing.nd (pi_range1 (by rfl) B.range (pa_cons (pe_draw D hr3 (by decide) (by rfl) (pv 0) pe_int) pa_nil)) (blkOk_by (N := ["hand", "deep", "kind", "k"]) (sc := defScope sThing) (by decide +kernel))
        (fun _ _ _ _ _ => pg_name (i := 3) scThing.nd rfl (Or.inl rfl)) (fun _ _ _ _ _ => pts_nil) (fun _ _ _ _ _ => pe_call G hr (by rfl) DT.g DT.F.kp DT.b .nil pass0 (pa_cons (pv 0) (pa_cons (pe_op op_sub (pv 1) pe_int) pa_nil)))) pa_nil))))))), ?_⟩
  refine ⟨fun σ' H' => ∃ kd : Int, σ' = [some (.ref wl.w), some (.int (n : Int)), some (.int kd), none] ∧ 0 ≤ kd ∧ kd < 6 ∧ (n = 0 → kd < 4) ∧ Drawn wl H H', ?_, ?_⟩
  · refine ⟨_, rfl, _, rfl, _, _, rfl, rfl, _, rfl, ite2 (fun q => ?_) (fun q => ?_)⟩
    · have q1 : (0 : Int) < (n : Int) := of_decide_eq_true q
      exact ⟨wl, 6, rfl, W, by decide, by decide, fun kd H1 k0 k1 D1 => ⟨kd, rfl, k0, k1, fun e => by omega, D1⟩⟩
    · exact ⟨wl, 4, rfl, W, by decide, by decide, fun kd H1 k0 k1 D1 => ⟨kd, rfl, k0, by omega, fun _ => k1, D1⟩⟩
  rintro σ' H1 ⟨kd, rfl, k0, k1, k6, D1⟩
  have hl := Ln_ge n
  refine ⟨_, rfl, rfl, _, rfl, ite2 (fun q => ?_) (fun q0 => ?_)⟩
  · have EV : EvL (tLst (tCons (tC (.int 0)) (tCons (tC (.int 1)) (tCons (tUn (rU fun i => .int (-i)) (tC (.int 1))) (tCons (tC (.int 7)) (tCons (tC (.int 10)) (tCons (tUn (rU fun i => .int (-i)) (tC (.int 205))) (tCons (tOp (rI0 fun i j => .int (i - j)) (tOp (rI CPow fun i j => .int (i ^ j.toNat)) (tC (.int 10)) (tC (.int 30))) (tC (.int 1)))
        (tCons (tOp (rI0 fun i j => .int (i + j)) (tUn (rU fun i => .int (-i)) (tOp (rI CPow fun i j => .int (i ^ j.toNat)) (tC (.int 10)) (tC (.int 30)))) (tC (.int 1))) (tCons (tC (.int 99991)) tNil)))))))))) [some (V.ref wl.w), some (.int (n : Int)), some (.int kd), none] H1 smallInts :=
      el_lst (ea_cons ev_c (ea_cons ev_c (ea_cons (ev_un ev_c ru_neg) (ea_cons ev_c (ea_cons ev_c (ea_cons (ev_un ev_c ru_neg) (ea_cons (ev_op (ev_op ev_c ev_c (rv_I ⟨by decide, by decide, by decide⟩)) ev_c rv_I0) (ea_cons (ev_op (ev_un (ev_op ev_c ev_c (rv_I ⟨by decide, by decide, by decide⟩)) ru_neg) ev_c rv_I0) (ea_cons ev_c ea_nil))))))))) (show (9 : Nat) ≤ 100000 by decide)
    refine ⟨_, rfl, EV H1 (Ex.refl H1) _ fun L H2 hL e2 h2 => ⟨wl, L, smallInts, rfl, D1.well.same e2, h2, (D1.well.ne hL).1, (show 1 ≤ 9 by decide), (show 9 ≤ 1000 by decide), fun x H3 hx D3 => ?_⟩⟩
    obtain ⟨i, rfl, hi⟩ := ints_small x hx
    exact k _ (.int i) H3 ((D1.same e2).trans D3) (.int i) (by simpa only [pl] using hi) (by simp only [ln]; omega) (by simp only [dpt]; omega)
  refine ⟨_, rfl, rfl, _, rfl, ite2 (fun q => ?_) (fun q1 => ?_)⟩
  · exact k _ .non H1 D1 .non (by simp only [pl]) (by simp only [ln]; omega) (by simp only [dpt]; omega)
  refine ⟨_, rfl, _, _, rfl, rfl, _, rfl, ite2 (fun q => ?_) (fun q2 => ?_)⟩
  · exact ⟨_, rfl, wl, rfl, D1.well, fun z H2 hz lz D2 => k (.str z) (.str z) H2 (D1.trans D2) (.str z) (by simpa only [pl] using lz) (by simp only [ln]; omega) (by simp only [dpt]; omega)⟩
  have k4 : ¬ kd < 4 := fun z => q2 (decide_eq_true z)
  obtain ⟨m, rfl⟩ : ∃ m, n = m + 1 := ⟨n - 1, by
    have : n ≠ 0 := fun e => k4 (k6 e)
    omega⟩
  refine ⟨_, rfl, wl, 4, rfl, D1.well, by decide, by decide, fun c H2 c0 c1 D2 => ⟨c, rfl, by omega, by omega, fun D' hD => ?_⟩⟩
  have nD := (D2.well.ne hD).1
  refine lc_range (lo := 0) (n := c.toNat) (fun i H3 => Drawn wl H2 H3 ∧ ∃ (vs : List V) (us : List U), H3 D' = some (.lst vs) ∧ vs.length = i ∧ AtL wl.w C (fresh (upd H2 D' (.lst [])) H3) vs us ∧ plL us ∧ lnL us ≤ i * (Ln m + 1) ∧ dptL us ≤ m)
    ⟨(Drawn.refl D2.well).new hD, [], [], upd_same, rfl, .nil, trivial, by simp [lnL], by simp [dptL]⟩ ?_ ?_
  · rintro i H3 hi ⟨D3, vs, us, hL, hv, ha, hp, hln, hd⟩
    refine ⟨rfl, _, rfl, _, rfl, _, _, rfl, rfl, wl, ?_, D3.well, fun v u H4 D4 hav pu lu du => ⟨vs, D4.keep D' _ nD hL, ?_, (D3.trans D4).put D2.well hD, vs ++ [v], us ++ [u], upd_same, ?_, fr_step D2.well hD D3 hL ha D4 hav, plL_append hp ⟨pu, trivial⟩, ?_, ?_⟩⟩
    · show [V.ref wl.w, .int (((m + 1 : Nat) : Int) - 1)] = [.ref wl.w, .int (m : Int)]
      rw [show ((m + 1 : Nat) : Int) - 1 = (m : Int) by omega]
    · have := big_line
      omega
    · rw [List.length_append, hv]
      rfl
    · rw [lnL_append, show (i + 1) * (Ln m + 1) = i * (Ln m + 1) + (Ln m + 1) by rw [Nat.add_mul, Nat.one_mul]]
      simp only [lnL]
      omega
    · rw [dptL_append]
      simp only [dptL]
      omega
  · rintro H3 ⟨D3, vs, us, hL, hv, ha, hp, hln, hd⟩
    have DD := (D1.trans D2).trans D3
    refine ⟨D', vs, rfl, .inl ⟨SqL.of hL, fun p hp2 => k (.ref p) (.tup us) _ (DD.new hp2) (.tup (xs := vs) ?_ (D3.well.ne hp2).1 (fr_same (fr_lift W (D1.trans D2) hD ha) (same_upd hp2))) (by simpa only [pl] using hp) ?_ ?_⟩⟩
    · rw [fr_get (DD.free W hp2), upd_same]
    · have : c.toNat * (Ln m + 1) ≤ 3 * (Ln m + 1) := Nat.mul_le_mul_right _ (by omega)
      simp only [ln, Ln]
      omega
    · simp only [dpt]
      omega
theorem ok_things {f fA fW : Addr} {fd dA dW : FuncData} (DT : Df K mg "_law_thing" sThing ["hand", "deep"] f fd) (B : Bt mg) (D : Dd P w K mg base fD dD) (DA : Df K mg "_law_any" sAny ["hand", "things"] fA dA) (DW : Df K mg "_law_word" sWord ["hand"] fW dW) : ∀ n : Nat, FnOk P w K mg base CX0 (3 + n + 1) f fd ["hand", "deep"] (spThing C n)
  | 0 => ok_thing DT B D DA DW 0 ⟨fun _ _ _ _ h => h.elim, fun _ _ _ _ _ _ _ _ _ _ _ _ _ h => h.elim⟩
  | n + 1 => ok_thing DT B D DA DW (n + 1) (ok_things DT B D DA DW n)
end
end Ht
namespace Ht
open PySem PySem.Spec PyProof.Rows L2 Hu Evl
section
variable {P : Program} {w : World} {K : PySem.W.Frag} {mg : Str → Option Value} {base : Heap} {fD : Addr} {dD : FuncData} {C : Addr}
theorem ex_at {w' C : Addr} {H H' : Hp} {v : V} {u : U} (e : Ex H H') (h : At w' C H v u) : At w' C H' v u := h.keep fun b o _ q => e b o q
end
end Ht
/-! the text of a thing, as the law makes it -/
namespace Ht
open PySem PySem.Spec PyProof.Rows L2 Hu Evl
abbrev sPacked : Stmt := topS 33
def escP (l : List Nat) : List Nat := l.flatMap fun c => if c = 39 ∨ c = 126 then [126, c] else [c]
mutual
/-- the signs of a thing's text -/
def tx : U → List Nat
  | .non => [46]
  | .int i => TL.tl (toString i : Str)
  | .str z => 39 :: (escP (TL.tl z) ++ [39])
  | .tup us => 40 :: (TL.joinL [44] (txs us) ++ [41])
  | _ => []
def txs : List U → List (List Nat)
  | [] => []
  | u :: us => tx u :: txs us
end
theorem escP_len (l : List Nat) : (escP l).length ≤ 2 * l.length := by
  induction l with
  | nil => exact Nat.le_refl _
  | cons c l ih =>
    show ((if c = 39 ∨ c = 126 then [126, c] else [c]) ++ escP l).length ≤ _
    rw [List.length_append, List.length_cons]
    split
    · simp only [List.length_cons, List.length_nil]
      omega
    · simp only [List.length_cons, List.length_nil]
      omega
theorem joinL_len (s : List Nat) : ∀ l : List (List Nat), (TL.joinL s l).length ≤ (l.map (·.length)).sum + s.length * l.length
  | [] => by simp [TL.joinL]
  | [a] => by simp [TL.joinL]
  | a :: b :: r => by
    have ih := joinL_len s (b :: r)
    have e : TL.joinL s (a :: b :: r) = a ++ (s ++ TL.joinL s (b :: r)) := rfl
    rw [e, List.length_append, List.length_append]
    simp only [List.map_cons, List.sum_cons, List.length_cons] at *
    rw [Nat.mul_add]
    omega
section
variable {K : PySem.W.Frag} {σ : L2.St} {H : Hp} {te tl : TE} {C : Addr}
/-- isinstance of a plain thing -/
theorem ev_isiP {T : String} {v : V} {u : U} {w' : Addr} (h : Ev te σ H v) (hat : At w' C H v u) (hp : pl u) (hT : T ∈ ["int", "bool", "str", "tuple"]) : Ev (tCB (L2.rIsi K) (tCons te (tCons (tC (.ty T)) tNil))) σ H (.bl (isT u T)) :=
  ev_cb (ea_cons h (ea_cons ev_c ea_nil)) fun H1 e Q q => by
    have hat1 := ex_at e hat
    cases hat1 with
    | non => exact ⟨_, .ty T, _, .type T, _, rfl, .ty T, .base .non, kit_ty (kit_is (by simp) hT), q H1 (Ex.refl H1)⟩
    | int i => exact ⟨_, .ty T, _, .type T, _, rfl, .ty T, .base (.int i), kit_ty (kit_is (by simp) hT), q H1 (Ex.refl H1)⟩
    | str z => exact ⟨_, .ty T, _, .type T, _, rfl, .ty T, .base (.str z), kit_ty (kit_is (by simp) hT), q H1 (Ex.refl H1)⟩
    | tup h1 _ _ => exact ⟨_, .ty T, _, .type T, _, rfl, .ty T, .base (.tup h1), kit_ty (kit_is (by simp) hT), q H1 (Ex.refl H1)⟩
    | bl b => simp only [pl] at hp
    | lst _ _ _ => simp only [pl] at hp
    | dct _ _ _ _ _ => simp only [pl] at hp
    | exc _ _ _ _ => simp only [pl] at hp

end
end Ht
namespace Ht
open PySem PySem.Spec PyProof.Rows L2 Hu Evl
section
variable {K : PySem.W.Frag} {σ : L2.St} {H : Hp} {te tl : TE} {C w' : Addr} {us : List U} {xs : List V}
/-- [f(c) for c in a string] -/
theorem el_lcS {z : Str} {j : Nat} {vs : List Nat} {g : Nat → V} (h : Ev tl σ H (.str z)) (hz : z.length ≤ 100000) (hw : ∀ x, wipe ((wipe σ vs).set j (some x)) vs = wipe σ vs)
    (he : ∀ c ∈ TL.tl z, Ev te ((wipe σ vs).set j (some (.str ⟨#[c]⟩))) H (g c)) : EvL (tLc (iStr tl) (gName j) tYes te vs) σ H ((TL.tl z).map g) := fun H0 e Q q => h H0 e _ fun H1 e1 => ⟨z, rfl, fun Dl hD =>
  lc_it walk_str (fun i H' => Ex H1 H' ∧ H' Dl = some (.lst (((TL.tl z).take i).map g))) ⟨Ex.new hD, upd_same⟩ (fun _ _ _ _ => True.intro) (fun i x H2 H2' hi p y => by
    obtain ⟨p1, p2⟩ := p
    obtain ⟨rfl, c, hc, rfl⟩ := y
    have hc' : (TL.tl z)[i]? = some c := by
      show z.cps.toList[i]? = some c
      rw [Array.getElem?_toList]
      exact hc
    have hl : i < (TL.tl z).length := (List.getElem?_eq_some_iff.mp hc').1
    refine ⟨hw _, he c (List.mem_of_getElem? hc') H2' ((e.trans e1).trans p1) _ fun H3 e3 => ⟨_, e3 _ _ p2, ?_, fun q o hq => ?_, ?_⟩⟩
    · rw [List.length_map, List.length_take]
      have := big_line
      have hq := TL.len_tl z
      omega
    · rw [upd_ne (ne_of_none hq hD)]
      exact e3 _ _ (p1 _ _ hq)
    · rw [upd_same, List.take_add_one, hc', List.map_append]
      rfl) (fun H' p => q Dl H' (fresh_back e1 (by exact hD)) (e1.trans p.1) (by
        rw [p.2, show z.cps.size = (TL.tl z).length from (TL.len_tl z).symm, List.take_length]))⟩
/-- [f(x) for x in a tuple] -/
theorem el_lcT {a : Addr} {j : Nat} {vs : List Nat} {g : U → V} (h : Ev tl σ H (.ref a)) (hx : H a = some (.tup xs)) (hz : us.length ≤ 100000) (hl : AtL w' C H xs us) (hw : ∀ x, wipe ((wipe σ vs).set j (some x)) vs = wipe σ vs)
    (he : ∀ (x : V) (u : U), u ∈ us → At w' C H x u → Ev te ((wipe σ vs).set j (some x)) H (g u)) : EvL (tLc (iTup K tl) (gName j) tYes te vs) σ H (us.map g) := fun H0 e Q q => h H0 e _ fun H1 e1 => ⟨a, rfl, ⟨xs, st_of ((e.trans e1) _ _ hx)⟩, fun Dl hD =>
  lc_tup (xs := xs) (fun i H' => Ex H1 H' ∧ H' Dl = some (.lst ((us.take i).map g))) ⟨Ex.new hD, upd_same⟩ (fun i H' _ p => st_of (((e.trans e1).trans p.1) _ _ hx)) (fun i x H2 hi p => by
    obtain ⟨p1, p2⟩ := p
    have hlen := AtL.length hl
    have hu : i < us.length := by
      have := (List.getElem?_eq_some_iff.mp hi).1
      omega
    obtain ⟨x', hx', hax⟩ := AtL.get hl (List.getElem?_eq_getElem hu)
    rw [hi] at hx'
    cases hx'
    refine ⟨hw x, he x us[i] (List.getElem_mem hu) hax H2 ((e.trans e1).trans p1) _ fun H3 e3 => ⟨_, e3 _ _ p2, ?_, fun q o hq => ?_, ?_⟩⟩
    · rw [List.length_map, List.length_take]
      have := big_line
      omega
    · rw [upd_ne (ne_of_none hq hD)]
      exact e3 _ _ (p1 _ _ hq)
    · rw [upd_same, List.take_add_one, List.getElem?_eq_getElem hu, List.map_append]
      rfl) (fun H' p => q Dl H' (fresh_back e1 (by exact hD)) (e1.trans p.1) (by rw [p.2, AtL.length hl, List.take_length]))⟩
end
end Ht
namespace Ht
open PySem PySem.Spec PyProof.Rows L2 Hu Evl
theorem tl_mk (l : List Nat) : TL.tl (mkS l) = l := rfl
def txt (u : U) : Str := mkS (tx u)
theorem txs_map : ∀ us : List U, txs us = us.map tx
  | [] => rfl
  | u :: us => by rw [txs, txs_map us]; rfl
mutual
theorem tx_len : ∀ u : U, pl u → (tx u).length ≤ ln u
  | .non, _ => by simp [tx, ln]
  | .int i, h => by
    have hi : i.natAbs < 10 ^ 30 := by simpa only [pl] using h
    have := int_text_length_le10 (a := i) (k := 30) (by decide) hi
    simp only [tx, ln]
    rw [← TL.len_tl, PySem.ofString_length]
    omega
  | .str z, _ => by
    have := escP_len (TL.tl z)
    have e := TL.len_tl z
    simp only [tx, ln, List.length_cons, List.length_append, List.length_nil]
    omega
  | .tup us, h => by
    have h1 := joinL_len [44] (txs us)
    have h2 := txs_len us (by simpa only [pl] using h)
    simp only [tx, ln, List.length_cons, List.length_append, List.length_nil] at *
    omega
  | .bl _, h => by simp only [pl] at h
  | .lst _, h => by simp only [pl] at h
  | .dct _, h => by simp only [pl] at h
  | .exc, h => by simp only [pl] at h
theorem txs_len : ∀ us : List U, plL us → ((txs us).map (·.length)).sum + (txs us).length ≤ lnL us
  | [], _ => by simp [txs]
  | u :: us, h => by
    have h1 := tx_len u h.1
    have h2 := txs_len us h.2
    simp only [txs, lnL, List.map_cons, List.sum_cons, List.length_cons]
    omega
end
theorem ln_mem : ∀ {us : List U} {u : U}, u ∈ us → ln u ≤ lnL us
  | _ :: us, _, .head _ => by simp only [lnL]; omega
  | _ :: us, _, .tail _ h => by have := ln_mem h; simp only [lnL]; omega
theorem dpt_mem : ∀ {us : List U} {u : U}, u ∈ us → dpt u ≤ dptL us
  | _ :: us, _, .head _ => by simp only [dptL]; omega
  | _ :: us, _, .tail _ h => by have := dpt_mem h; simp only [dptL]; omega
theorem pl_mem : ∀ {us : List U} {u : U}, plL us → u ∈ us → pl u
  | _ :: _, _, h, .head _ => h.1
  | _ :: _, _, h, .tail _ q => pl_mem h.2 q
theorem lnL_len : ∀ us : List U, us.length ≤ lnL us
  | [] => Nat.zero_le _
  | u :: us => by have := lnL_len us; simp only [lnL, List.length_cons]; omega
theorem Ln_line {n : Nat} (h : n ≤ 200000) : n ≤ sizeLine := Nat.le_trans h (Nat.le_of_lt (Nat.lt_trans (by decide) big_line))
section
variable {σ : L2.St} {H : Hp} {te to : TE}
theorem ev_join {a : Str} {ys : List Str} (h : Ev to σ H (.str a)) (he : EvL te σ H (ys.map V.str)) (hz : (ys.map (·.length)).sum + ys.length * a.length ≤ 16777216) {K : PySem.W.Frag} :
    Ev (tM1 (fun x xs H Q => ∃ a p, ∃ ys : List Str, x = .str a ∧ xs = [.ref p] ∧ (SqL K H p (ys.map V.str) ∨ SqT K H p (ys.map V.str)) ∧ (ys.map (·.length)).sum + ys.length * a.length ≤ 16777216 ∧ Q (.str (Txt.join a ys)) H) to te) σ H (.str (Txt.join a ys)) := fun H1 e Q q =>
  h H1 e _ fun H2 e2 => ⟨⟨a, rfl⟩, he H2 (e.trans e2) _ fun p H3 hp e3 h3 => ⟨a, p, ys, rfl, rfl, .inl (sq_of h3), hz, q H3 (e2.trans e3)⟩⟩
abbrev rAddZ : R2 := fun x y H Q => ∃ i j : Str, x = .str i ∧ y = .str j ∧ i.length + j.length ≤ sizeLine ∧ Q (.str (i ++ j)) H
theorem rv_addZ {a b : Str} (h : a.length + b.length ≤ 200000) : RV rAddZ (.str a) (.str b) H (.str (a ++ b)) := fun H1 _ Q q => ⟨a, b, rfl, rfl, Ln_line h, q H1 (Ex.refl H1)⟩
end
section
variable {P : Program} {w : World} {K : PySem.W.Frag} {mg : Str → Option Value} {base : Heap} {C : Addr}
theorem boot_str' : bootBuiltins "str" = some (.type "str") := by decide +kernel
theorem boot_tup' : bootBuiltins "tuple" = some (.type "tuple") := by decide +kernel
theorem boot_isi' : bootBuiltins "isinstance" = some (.builtin "isinstance") := by decide +kernel
theorem s_next {σ : L2.St} {H : Hp} {D : Ends} (h : D.nx σ H) : tNext D σ H := h
theorem q_if {σ : L2.St} {H : Hp} {t : TT} {tu tw tz : TS} {D : Ends} {b : Bool} (h : EvT t σ H b) (h1 : b = true → ∀ H1, Ex H H1 → tu { D with nx := tz D } σ H1) (h2 : b = false → ∀ H1, Ex H H1 → tw { D with nx := tz D } σ H1) : tSeq (tIfS t tu tw) tz D σ H := s_if (D := { D with nx := tz D }) h h1 h2
/-- a sign of a string, as it is written -/
def ch (c : Nat) : Str := if decide (c ∈ ("'~" : Str).cps.toList) = true then ("~" : Str) ++ ⟨#[c]⟩ else ⟨#[c]⟩
theorem ch_tl (c : Nat) : TL.tl (ch c) = if c = 39 ∨ c = 126 then [126, c] else [c] := by
  unfold ch
  have e : decide (c ∈ ("'~" : Str).cps.toList) = decide (c = 39 ∨ c = 126) := by
    rw [show ("'~" : Str).cps.toList = [39, 126] by decide +kernel]
    exact decide_eq_decide.mpr (by simp)
  rw [e]
  by_cases h : c = 39 ∨ c = 126
  · rw [decide_eq_true h, if_pos rfl, if_pos h, TL.tl_append]
    rfl
  · rw [decide_eq_false h, if_neg (by decide), if_neg h]
theorem ch_len (c : Nat) : (ch c).length ≤ 2 := by
  rw [TL.len_tl, ch_tl]
  split <;> simp
theorem esc_tl (l : List Nat) : TL.tl (Txt.join ("" : Str) (l.map ch)) = escP l := by
  rw [join_tl, List.map_map]
  unfold escP
  rw [List.flatMap_def]
  congr 1
  exact List.map_congr_left fun c _ => ch_tl c
theorem str_txt (z : Str) : ("'" : Str) ++ Txt.join ("" : Str) ((TL.tl z).map ch) ++ "'" = txt (.str z) := by
  apply TL.ext_tl
  rw [TL.tl_append, TL.tl_append, esc_tl]
  unfold txt
  rw [tl_mk]
  simp only [tx]
  rw [show TL.tl ("'" : Str) = [39] by decide +kernel]
  rfl
theorem tup_txt (us : List U) : ("(" : Str) ++ Txt.join ("," : Str) (us.map txt) ++ ")" = txt (.tup us) := by
  apply TL.ext_tl
  rw [TL.tl_append, TL.tl_append, TL.join_eq, TL.tl_join]
  unfold txt
  rw [tl_mk]
  simp only [tx]
  rw [show TL.tl ("(" : Str) = [40] by decide +kernel, show TL.tl (")" : Str) = [41] by decide +kernel, show TL.tl ("," : Str) = [44] by decide +kernel, txs_map, List.map_map]
  rfl
theorem sum_ch (l : List Nat) : ((l.map ch).map (·.length)).sum ≤ 2 * l.length := by
  induction l with
  | nil => exact Nat.le_refl _
  | cons c l ih =>
    have := ch_len c
    simp only [List.map_cons, List.sum_cons, List.length_cons] at *
    omega
theorem sum_txt {us : List U} (h : plL us) : ((us.map txt).map (·.length)).sum + us.length ≤ lnL us := by
  have q := txs_len us h
  have e : (us.map txt).map (·.length) = (txs us).map (·.length) := by
    rw [txs_map, List.map_map, List.map_map]
    exact List.map_congr_left fun u _ => by
      show (txt u).length = (tx u).length
      rw [TL.len_tl]
      rfl
  have e2 : (txs us).length = us.length := by rw [txs_map, List.length_map]
  rw [e]
  omega
def spPacked (C : Addr) (n : Nat) : Sp := fun vs H Q _ => ∃ (v : V) (u : U) (w' : Addr), vs = [v] ∧ At w' C H v u ∧ pl u ∧ ln u ≤ 60000 ∧ dpt u < n ∧ ∀ H', Same H H' → Q (.str (txt u)) H'
theorem scPacked : FnScope ["thing", "one", "sign"] ["thing"] (defScope sPacked) := ⟨rfl, rfl, rfl, by decide +kernel, rfl, by decide +kernel, by decide +kernel⟩
theorem ok_packed {f : Addr} {fd : FuncData} (DP : Df K mg "_law_packed" sPacked ["thing"] f fd) (B : Bt mg) : ∀ n : Nat, FnOk P w K mg base CX0 n f fd ["thing"] (spPacked C n)
  | 0 => ⟨fun _ _ _ _ ⟨_, _, _, e, _⟩ => by rw [e]; rfl, fun _ _ _ _ _ _ _ _ _ _ _ _ _ ⟨_, _, _, _, _, _, _, h, _⟩ => absurd h (Nat.not_lt_zero _)⟩
  | n + 1 => by
    have G := ok_packed DP B n
    refine DP.F.ok scPacked (fun vs H Q E h => ?_) (fun cdv A outer s H vs Q E hr h => ?_)
    · obtain ⟨v, u, w', rfl, _⟩ := h
      rfl
    obtain ⟨v, u, w', rfl, hat, pu, lu, du, k⟩ := h
    refine ⟨_, pss_cons (ps_if (pt_cmpR op_isN1 (pv 0) pe_non (nomark _)) (pss_one (ps_ret pe_str)) pss_nil)
      (pss_cons (ps_if (pt_val (pe_callB call_isi (by rfl) B.isi boot_isi' (pa_cons (pv 0) (pa_cons (pe_bltn (by rfl) B.tup boot_tup' (show RelV (.ty "tuple") (.type "tuple") from rfl)) pa_nil))))
        (pss_one (ps_ret (pe_op op_add_str (pe_op op_add_str pe_str (pe_join pe_str (pe_lc (own := [("one", 1)]) (g := gName 1) (tt := tYes) rfl scPacked.nd (pi_tup (pv 0)) (blkOk_by (N := ["thing", "one", "sign"]) (sc := defScope sPacked) (by decide +kernel))
          (fun _ _ _ _ _ => pg_name (i := 1) scPacked.nd rfl (Or.inl rfl)) (fun _ _ _ _ _ => pts_nil) (fun _ _ _ _ _ => pe_call G hr (by rfl) DP.g DP.F.kp DP.b .nil pass0 (pa_cons (pv 1) pa_nil))))) pe_str))) pss_nil)
      (pss_cons (ps_if (pt_val (pe_callB call_isi (by rfl) B.isi boot_isi' (pa_cons (pv 0) (pa_cons (pe_bltn (by rfl) B.str boot_str' (show RelV (.ty "str") (.type "str") from rfl)) pa_nil))))
        (pss_one (ps_ret (pe_op op_add_str (pe_op op_add_str pe_str (pe_join pe_str (pe_lc (own := [("sign", 2)]) (g := gName 2) (tt := tYes) rfl scPacked.nd (pi_str (pv 0)) (blkOk_by (N := ["thing", "one", "sign"]) (sc := defScope sPacked) (by decide +kernel))
          (fun _ _ _ _ _ => pg_name (i := 2) scPacked.nd rfl (Or.inl rfl)) (fun _ _ _ _ _ => pts_nil) (fun _ _ _ _ _ => pe_ifExp (pt_cmpR op_in_sign (pv 2) pe_str (by rfl)) (pe_op op_add_str pe_str (pv 2)) (pv 2))))) pe_str))) pss_nil)
      (pss_one (ps_ret (pe_callTy call_str_int (by rfl) B.str boot_str' (pa_cons (pv 0) pa_nil)))))), ?_⟩
    refine s_if (b := decide (v = .non)) (et_test (ev_op (ev_var rfl) ev_c fun H1 _ Q q => ⟨rfl, q H1 (Ex.refl H1)⟩)) (fun q H1 e => ?_) (fun q H1 e => s_next ?_)
    · have hv := of_decide_eq_true q
      subst hv
      cases hat
      refine s_ret (ev_is (v := .str ".") ev_c (by rw [show txt .non = "." by decide +kernel])) fun H2 e2 => k H2 (e.trans e2)
    have hat1 := ex_at e hat
    refine q_if (b := isT u "tuple") (et_B (ev_isiP (ev_var rfl) hat1 pu (by decide))) (fun q2 H2 e2 => ?_) (fun q2 H2 e2 => s_next ?_)
    · obtain ⟨us, rfl⟩ : ∃ us, u = .tup us := by
        cases u with
        | tup us => exact ⟨us, rfl⟩
        | _ => simp [isT, isS, tyU] at q2
      have hat2 := ex_at e2 hat1
      cases hat2 with
      | @tup a xs _ ha na hl =>
        have pus : plL us := by simpa only [pl] using pu
        simp only [ln] at lu
        simp only [dpt] at du
        have hsum := sum_txt pus
        have hlen := lnL_len us
        have EL : EvL (tLc (iTup K (tVar 0)) (gName 1) tYes (tCall (spPacked C n) [] E0 (tCons (tVar 1) tNil)) [1]) [some (V.ref a), none, none] H2 ((us.map txt).map V.str) := by
          rw [List.map_map]
          exact el_lcT (j := 1) (vs := [1]) (g := fun u => .str (txt u)) (ev_var rfl) ha (by omega) hl (fun _ => rfl) fun x u hu hx => ev_call (ea_cons (ev_var rfl) ea_nil) fun H3 e3 Q q E => ⟨x, u, w', rfl, ex_at e3 hx, pl_mem pus hu, by have := ln_mem hu; omega, by have := dpt_mem hu; omega, q⟩
        have jl : (Txt.join ("," : Str) (us.map txt)).length ≤ 70000 := by
          have h1 := joinL_len [44] ((us.map txt).map TL.tl)
          rw [TL.len_tl, TL.join_eq, TL.tl_join, show TL.tl ("," : Str) = [44] by decide +kernel]
          have e5 : (((us.map txt).map TL.tl).map (·.length)).sum = ((us.map txt).map (·.length)).sum := by
            rw [List.map_map]
            congr 1
          rw [e5] at h1
          simp only [List.length_cons, List.length_nil, List.length_map] at h1
          omega
        have l1 : (("(" : Str)).length = 1 := by decide +kernel
        have l2 : ((")" : Str)).length = 1 := by decide +kernel
        have l3 : (("," : Str)).length = 1 := by decide +kernel
        refine s_ret (ev_is (ev_op (ev_op ev_c (ev_join (K := K) ev_c EL (by rw [List.length_map, l3]; omega)) (rv_addZ (by omega))) ev_c (rv_addZ (by
          have : (("(" : Str) ++ Txt.join ("," : Str) (us.map txt)).length = 1 + (Txt.join ("," : Str) (us.map txt)).length := by
            rw [TL.len_tl, TL.tl_append, List.length_append, ← TL.len_tl, ← TL.len_tl, l1]
          omega))) (congrArg V.str (tup_txt us))) fun H3 e3 => k H3 ((e.trans e2).trans e3)
    have hat2 := ex_at e2 hat1
    refine q_if (b := isT u "str") (et_B (ev_isiP (ev_var rfl) hat2 pu (by decide))) (fun q3 H3 e3 => ?_) (fun q3 H3 e3 => s_next ?_)
    · obtain ⟨z, rfl⟩ : ∃ z, u = .str z := by
        cases u with
        | str z => exact ⟨z, rfl⟩
        | _ => simp [isT, isS, tyU] at q3
      cases hat2
      simp only [ln] at lu
      have hz := TL.len_tl z
      have hsum := sum_ch (TL.tl z)
      have EL : EvL (tLc (iStr (tVar 0)) (gName 2) tYes (tIf (tTest (tOp (fun x y H Q => ∃ (c : Nat) (z : Str), x = .str ⟨#[c]⟩ ∧ y = .str z ∧ Q (.bl (decide (c ∈ z.cps.toList))) H) (tVar 2) (tC (.str "'~")))) (tOp rAddZ (tC (.str "~")) (tVar 2)) (tVar 2)) [2]) [some (V.str z), none, none] H3 (((TL.tl z).map ch).map V.str) := by
        rw [List.map_map]
        refine el_lcS (j := 2) (vs := [2]) (g := fun c => .str (ch c)) (ev_var rfl) (by omega) (fun _ => rfl) fun c _ => ?_
        refine ev_if (b := decide (c ∈ ("'~" : Str).cps.toList)) (et_test (ev_op (ev_var rfl) ev_c fun H4 _ Q q => ⟨c, _, rfl, rfl, q H4 (Ex.refl H4)⟩)) (fun hb => ev_is (ev_op ev_c (ev_var rfl) (rv_addZ ?_)) ?_) (fun hb => ev_is (ev_var rfl) ?_)
        · have l1 : (("~" : Str)).length = 1 := by decide +kernel
          show (("~" : Str)).length + 1 ≤ 200000
          omega
        · unfold ch
          rw [if_pos hb]
        · unfold ch
          rw [if_neg (by rw [hb]; decide)]
      have jl : (Txt.join ("" : Str) ((TL.tl z).map ch)).length ≤ 70000 := by
        rw [TL.len_tl, esc_tl]
        have := escP_len (TL.tl z)
        omega
      have l1 : (("'" : Str)).length = 1 := by decide +kernel
      have l0 : (("" : Str)).length = 0 := by decide +kernel
      refine s_ret (ev_is (ev_op (ev_op ev_c (ev_join (K := K) ev_c EL (by rw [l0]; omega)) (rv_addZ (by omega))) ev_c (rv_addZ (by
        have : (("'" : Str) ++ Txt.join ("" : Str) ((TL.tl z).map ch)).length = 1 + (Txt.join ("" : Str) ((TL.tl z).map ch)).length := by
          rw [TL.len_tl, TL.tl_append, List.length_append, ← TL.len_tl, ← TL.len_tl, l1]
        omega))) (congrArg V.str (str_txt z))) fun H4 e4 => k H4 (((e.trans e2).trans e3).trans e4)
    · cases hat2 with
      | int i =>
        have hi : i.natAbs < 10 ^ 30 := by simpa only [pl] using pu
        have es : (toString i : Str) = txt (.int i) := TL.ext_tl rfl
        have ev : Ev (tCB (fun xs H Q => ∃ i : Int, xs = [V.int i] ∧ i.natAbs.log2 < 1920 ∧ Q (.str (toString i)) H) (tCons (tVar 0) tNil)) [some (V.int i), none, none] H3 (.str (txt (.int i))) := ev_cb (ea_cons (ev_var rfl) ea_nil) fun H4 e4 Q q =>
          ⟨i, rfl, Nat.lt_of_lt_of_le (PySem.Flt.log2_lt_of (k := 100) (by decide) (Nat.lt_of_lt_of_le hi (by decide))) (by decide), by rw [es]; exact q H4 (Ex.refl H4)⟩
        exact s_ret ev fun H4 e4 => k H4 (((e.trans e2).trans e3).trans e4)
      | non => exact absurd rfl (of_decide_eq_false q)
      | tup _ _ _ => simp [isT, isS, tyU] at q2
      | str z => simp [isT, isS, tyU] at q3
      | bl b => simp only [pl] at pu
      | lst _ _ _ => simp only [pl] at pu
      | dct _ _ _ _ _ => simp only [pl] at pu
      | exc _ _ _ _ => simp only [pl] at pu
end
end Ht
/-! the program's flags of a plain thing -/
namespace Ht
open PySem PySem.Spec PyProof.Rows L2 Hu Evl
abbrev sIsInt : Stmt := topS 6
abbrev sIsSigns : Stmt := topS 7
abbrev sIsThing : Stmt := topS 15
theorem lt1 (a b : Nat) : decide (([a] : List Nat) < [b]) = decide (a < b) := by
  by_cases h : a < b
  · rw [decide_eq_true h]
    exact decide_eq_true (List.cons_lt_cons_iff.mpr (.inl h))
  · rw [decide_eq_false h]
    refine decide_eq_false fun q => ?_
    rcases List.cons_lt_cons_iff.mp q with q | ⟨_, q⟩
    · exact h q
    · exact absurd q (List.not_lt_nil _)
theorem not_lt1 (a b : Nat) : (!decide (([b] : List Nat) < [a])) = decide (a ≤ b) := by
  rw [lt1]
  by_cases h : b < a
  · rw [decide_eq_true h, decide_eq_false (by omega)]
    rfl
  · rw [decide_eq_false h, decide_eq_true (by omega)]
    rfl
section
variable {K : PySem.W.Frag} {σ : L2.St} {H : Hp} {ta tb tc te tl : TE} {r r' : R2} {x y z v : V}
theorem ev_chain {a b : Bool} (ha : Ev ta σ H x) (hb : Ev tb σ H y) (hc : Ev tc σ H z) (h1 : RV r x y H (.bl a)) (h2 : a = true → RV r' y z H (.bl b)) : Ev (tChain r r' ta tb tc) σ H (.bl (a && b)) := fun H1 e Q q =>
  ha H1 e _ fun H2 e2 => hb H2 (e.trans e2) _ fun H3 e3 => h1 H3 ((e.trans e2).trans e3) _ fun H4 e4 => ⟨a, rfl, by
    cases a with
    | false => exact q H4 ((e2.trans e3).trans e4)
    | true => exact hc H4 (((e.trans e2).trans e3).trans e4) _ fun H5 e5 => h2 rfl H5 ((((e.trans e2).trans e3).trans e4).trans e5) _ fun H6 e6 => q H6 ((((e2.trans e3).trans e4).trans e5).trans e6)⟩
abbrev rLeS : R2 := fun x y H Q => ∃ i j : Str, x = .str i ∧ y = .str j ∧ Q (.bl (!decide (j.cps.toList < i.cps.toList))) H
theorem rv_leS {a b : Nat} {H : Hp} : RV rLeS (.str ⟨#[a]⟩) (.str ⟨#[b]⟩) H (.bl (decide (a ≤ b))) := fun H1 _ Q q => ⟨_, _, rfl, rfl, by
  show Q (.bl (!decide (([b] : List Nat) < [a]))) H1
  rw [not_lt1]
  exact q H1 (Ex.refl H1)⟩
theorem ev_allL {xs : List Bool} (h : EvL te σ H (xs.map V.bl)) : Ev (tCB (rAll K) (tCons te tNil)) σ H (.bl (xs.all id)) := fun H1 e Q q =>
  h H1 e _ fun p H2 hp e2 h2 => ⟨p, xs, rfl, sq_of h2, q H2 e2⟩
end
section
variable {P : Program} {w : World} {K : PySem.W.Frag} {mg : Str → Option Value} {base : Heap} {C : Addr}
theorem boot_int' : bootBuiltins "int" = some (.type "int") := by decide +kernel
theorem boot_bool' : bootBuiltins "bool" = some (.type "bool") := by decide +kernel
theorem boot_all' : bootBuiltins "all" = some (.builtin "all") := by decide +kernel
def intU (u : U) : Bool := match u with | .int _ => true | _ => false
def spJ (C : Addr) (g : U → Bool) : Sp := fun vs H Q _ => ∃ (v : V) (u : U) (w' : Addr), vs = [v] ∧ At w' C H v u ∧ pl u ∧ ln u ≤ 50000 ∧ ∀ H', Same H H' → Q (.bl (g u)) H'
theorem scIsInt : FnScope ["thing"] ["thing"] (defScope sIsInt) := ⟨rfl, rfl, rfl, by decide +kernel, rfl, by decide +kernel, by decide +kernel⟩
theorem ok_isInt {f : Addr} {fd : FuncData} (F : Fun K "is_integer" "is_integer" sIsInt f fd) (B : Bt mg) : FnOk P w K mg base CX0 1 f fd ["thing"] (spJ C intU) := by
  refine F.ok scIsInt (fun vs H Q E h => ?_) (fun cdv A outer s H vs Q E hr h => ?_)
  · obtain ⟨v, u, w', rfl, _⟩ := h
    rfl
  obtain ⟨v, u, w', rfl, hat, pu, lu, k⟩ := h
  refine ⟨_, pss_one (ps_ret (pe_and (pe_callB call_isi (by rfl) B.isi boot_isi' (pa_cons (pv 0) (pa_cons (pe_bltn (by rfl) B.int boot_int' (show RelV (.ty "int") (.type "int") from rfl)) pa_nil)))
    (pe_one (pe_not (pe_callB call_isi (by rfl) B.isi boot_isi' (pa_cons (pv 0) (pa_cons (pe_bltn (by rfl) B.boo boot_bool' (show RelV (.ty "bool") (.type "bool") from rfl)) pa_nil))))))), ?_⟩
  refine s_ret (ev_andV (ev_isiP (ev_var rfl) hat pu (by decide)) fun _ => ev_notV (ev_isiP (ev_var rfl) hat pu (by decide))) fun H1 e => ?_
  have e2 : (isT u "int" && !isT u "bool") = intU u := by cases u <;> simp [isT, isS, tyU, intU]
  rw [e2]
  exact k H1 e
def strU (u : U) : Bool := match u with | .str _ => true | _ => false
theorem scIsSigns : FnScope ["thing", "sign"] ["thing"] (defScope sIsSigns) := ⟨rfl, rfl, rfl, by decide +kernel, rfl, by decide +kernel, by decide +kernel⟩
theorem ok_isSigns {f : Addr} {fd : FuncData} (F : Fun K "is_signs" "is_signs" sIsSigns f fd) (B : Bt mg) : FnOk P w K mg base CX0 1 f fd ["thing"] (spJ C strU) := by
  refine F.ok scIsSigns (fun vs H Q E h => ?_) (fun cdv A outer s H vs Q E hr h => ?_)
  · obtain ⟨v, u, w', rfl, _⟩ := h
    rfl
  obtain ⟨v, u, w', rfl, hat, pu, lu, k⟩ := h
  refine ⟨_, pss_one (ps_ret (pe_and (pe_callB call_isi (by rfl) B.isi boot_isi' (pa_cons (pv 0) (pa_cons (pe_bltn (by rfl) B.str boot_str' (show RelV (.ty "str") (.type "str") from rfl)) pa_nil)))
    (pe_one (pe_callB (cr_all rfl) (by rfl) B.all boot_all' (pa_cons (pe_lc (own := [("sign", 1)]) (g := gName 1) (tt := tYes) rfl scIsSigns.nd (pi_str (pv 0)) (blkOk_by (N := ["thing", "sign"]) (sc := defScope sIsSigns) (by decide +kernel))
      (fun _ _ _ _ _ => pg_name (i := 1) scIsSigns.nd rfl (Or.inl rfl)) (fun _ _ _ _ _ => pts_nil) (fun _ _ _ _ _ => pe_chain op_le_str op_le_str pe_str (pv 1) pe_str)) pa_nil))))), ?_⟩
  refine s_ret (ev_andV (b := strU u) (ev_isiP (ev_var rfl) hat pu (by decide)) fun q => ?_) fun H1 e => ?_
  · cases u with
    | str z =>
      cases hat
      simp only [ln] at lu
      have hz : (TL.tl z).all okW = true := by simpa only [pl] using pu
      have EL : EvL (tLc (iStr (tVar 0)) (gName 1) tYes (tChain rLeS rLeS (tC (.str " ")) (tVar 1) (tC (.str "~"))) [1]) [some (V.str z), none] H (((TL.tl z).map okW).map V.bl) := by
        rw [List.map_map]
        exact el_lcS (j := 1) (vs := [1]) (g := fun c => .bl (okW c)) (ev_var rfl) (by omega) (fun _ => rfl) fun c _ => ev_chain ev_c (ev_var rfl) ev_c rv_leS fun _ => rv_leS
      refine ev_is (ev_allL (K := K) EL) ?_
      congr 1
      show ((TL.tl z).map okW).all id = true
      rw [List.all_map]
      exact hz
    | _ => simp [isT, isS, tyU] at q
  · have e2 : (isT u "str" && strU u) = strU u := by cases u <;> simp [isT, isS, tyU, strU]
    rw [e2]
    exact k H1 e
/-! ### is_thing -/
def spIsThing (C : Addr) (n : Nat) : Sp := fun vs H Q _ => ∃ (v : V) (u : U) (w' : Addr), vs = [v, .int (n : Int)] ∧ At w' C H v u ∧ pl u ∧ ln u ≤ 50000 ∧ dpt u ≤ n ∧ ∀ H', Same H H' → Q (.bl true) H'
def spIsPrev (C : Addr) : Nat → Sp
  | 0 => fun _ _ _ _ => False
  | n + 1 => spIsThing C n
theorem scIsThing : FnScope ["thing", "deepest", "item"] ["thing", "deepest"] (defScope sIsThing) := ⟨rfl, rfl, rfl, by decide +kernel, rfl, by decide +kernel, by decide +kernel⟩
end
end Ht
namespace Ht
open PySem PySem.Spec PyProof.Rows L2 Hu Evl
section
variable {P : Program} {w : World} {K : PySem.W.Frag} {mg : Str → Option Value} {base : Heap} {C : Addr}
theorem all_true {us : List U} : (us.map fun _ => true).all id = true := by
  induction us with
  | nil => rfl
  | cons u us ih => rw [List.map_cons, List.all_cons, ih]; rfl
theorem ok_isThing {f f1 f2 : Addr} {fd d1 d2 : FuncData} {t : Tok} (DT : Df K mg "is_thing" sIsThing ["thing", "deepest"] f fd) (B : Bt mg) (D1 : Df K mg "is_integer" sIsInt ["thing"] f1 d1) (D2 : Df K mg "is_signs" sIsSigns ["thing"] f2 d2) (hB : mg "BOUND" = some (.int (10 ^ 30) t)) (n : Nat)
    (G : FnOk P w K mg base CX0 (1 + n) f fd ["thing", "deepest"] (spIsPrev C n)) : FnOk P w K mg base CX0 (1 + n + 1) f fd ["thing", "deepest"] (spIsThing C n) := by
  have G1 : FnOk P w K mg base CX0 1 f1 d1 ["thing"] (spJ C intU) := ok_isInt D1.F B
  have G2 : FnOk P w K mg base CX0 1 f2 d2 ["thing"] (spJ C strU) := ok_isSigns D2.F B
  refine DT.F.ok scIsThing (fun vs H Q E h => ?_) (fun cdv A outer s H vs Q E hr h => ?_)
  · obtain ⟨v, u, w', rfl, _⟩ := h
    rfl
  obtain ⟨v, u, w', rfl, hat, pu, lu, du, k⟩ := h
  have hr1 : Room 1 (A.deeper (envOfC "is_thing" (defScope sIsThing) s.heap.objs.size f cdv)) := hr.mono (by omega)
  refine ⟨_, pss_cons (ps_if (pt_val (pe_callB call_isi (by rfl) B.isi boot_isi' (pa_cons (pv 0) (pa_cons (pe_bltn (by rfl) B.tup boot_tup' (show RelV (.ty "tuple") (.type "tuple") from rfl)) pa_nil))))
      (pss_one (ps_ret (pe_and (pe_cmpR op_gt (pv 1) pe_int (nomark _)) (pe_one (pe_callB (cr_all rfl) (by rfl) B.all boot_all' (pa_cons (pe_lc (own := [("item", 2)]) (g := gName 2) (tt := tYes) rfl scIsThing.nd (pi_tup (pv 0)) (blkOk_by (N := ["thing", "deepest", "item"]) (sc := defScope sIsThing) (by decide +kernel))
        (fun _ _ _ _ _ => pg_name (i := 2) scIsThing.nd rfl (Or.inl rfl)) (fun _ _ _ _ _ => pts_nil) (fun _ _ _ _ _ => pe_call G hr (by rfl) DT.g DT.F.kp DT.b .nil pass0 (pa_cons (pv 2) (pa_cons (pe_op op_sub (pv 1) pe_int) pa_nil)))) pa_nil)))))) pss_nil)
    (pss_cons (ps_if (pt_val (pe_callB call_isi (by rfl) B.isi boot_isi' (pa_cons (pv 0) (pa_cons (pe_bltn (by rfl) B.str boot_str' (show RelV (.ty "str") (.type "str") from rfl)) pa_nil))))
      (pss_one (ps_ret (pe_call G2 hr1 (by rfl) D2.g D2.F.kp D2.b .nil pass0 (pa_cons (pv 0) pa_nil)))) pss_nil)
    (pss_one (ps_ret (pe_or (pe_cmpR op_isN1 (pv 0) pe_non (nomark _)) (pe_one (pe_and (pe_call G1 hr1 (by rfl) D1.g D1.F.kp D1.b .nil pass0 (pa_cons (pv 0) pa_nil))
      (pe_one (pe_chain op_lt op_lt (pe_un un_neg (pe_glob (v := .int (10 ^ 30)) rfl hB ⟨_, rfl⟩)) (pv 0) (pe_glob (v := .int (10 ^ 30)) rfl hB ⟨_, rfl⟩))))))))), ?_⟩
  refine s_if (b := isT u "tuple") (et_B (ev_isiP (ev_var rfl) hat pu (by decide))) (fun q2 H2 e2 => ?_) (fun q2 H2 e2 => s_next ?_)
  · obtain ⟨us, rfl⟩ : ∃ us, u = .tup us := by
      cases u with
      | tup us => exact ⟨us, rfl⟩
      | _ => simp [isT, isS, tyU] at q2
    have hat2 := ex_at e2 hat
    cases hat2 with
    | @tup a xs _ ha na hl =>
      have pus : plL us := by simpa only [pl] using pu
      simp only [ln] at lu
      simp only [dpt] at du
      obtain ⟨m, rfl⟩ : ∃ m, n = m + 1 := ⟨n - 1, by omega⟩
      have hlen := lnL_len us
      have EL : EvL (tLc (iTup K (tVar 0)) (gName 2) tYes (tCall (spIsPrev C (m + 1)) [] E0 (tCons (tVar 2) (tCons (tOp (rI0 fun i j => .int (i - j)) (tVar 1) (tC (.int 1))) tNil))) [2]) [some (V.ref a), some (.int ((m + 1 : Nat) : Int)), none] H2 ((us.map fun _ => true).map V.bl) := by
        rw [List.map_map]
        refine el_lcT (j := 2) (vs := [2]) (g := fun _ => .bl true) (ev_var rfl) ha (by omega) hl (fun _ => rfl) fun x u hu hx => ev_call (vs := [x, .int (m : Int)]) (ea_cons (ev_var rfl) (ea_cons (ev_is (ev_op (ev_var rfl) ev_c rv_I0) (by rw [show ((m + 1 : Nat) : Int) - 1 = (m : Int) by omega])) ea_nil)) fun H3 e3 Q q E => ⟨x, u, w', rfl, ex_at e3 hx, pl_mem pus hu, by have := ln_mem hu; omega, by have := dpt_mem hu; omega, q⟩
      refine s_ret (ev_is (ev_andV (a := true) (b := true) (ev_is (ev_op (ev_var rfl) ev_c rv_I0) (by rw [decide_eq_true (by omega)])) fun _ => ev_is (ev_allL (K := K) EL) (by rw [all_true])) rfl) fun H3 e3 => k H3 (e2.trans e3)
  have hat2 := ex_at e2 hat
  refine q_if (b := isT u "str") (et_B (ev_isiP (ev_var rfl) hat2 pu (by decide))) (fun q3 H3 e3 => ?_) (fun q3 H3 e3 => s_next ?_)
  · have e4 : strU u = true := by
      cases u with
      | str z => rfl
      | _ => simp [isT, isS, tyU] at q3
    exact s_ret (ev_is (ev_call (sp := spJ C strU) (ea_cons (ev_var rfl) ea_nil) fun H4 e5 Q q E => ⟨v, u, w', rfl, ex_at (e3.trans e5) hat2, pu, lu, q⟩) (congrArg V.bl e4)) fun H4 e5 => k H4 ((e2.trans e3).trans e5)
  · have hat3 := ex_at e3 hat2
    have fin : ∀ {te : TE}, Ev te [some v, some (.int (n : Int)), none] H3 (.bl true) → tRet te { nx := fun _ H' => Q .non H', rt := Q } [some v, some (.int (n : Int)), none] H3 := fun ev => s_ret ev fun H4 e4 => k H4 ((e2.trans e3).trans e4)
    dsimp only
    refine fin ?_
    refine ev_is (ev_orV (a := decide (v = .non)) (b := intU u) (ev_op (ev_var rfl) ev_c fun H1 _ Q q => ⟨rfl, q H1 (Ex.refl H1)⟩) fun q => ev_is (ev_andV (a := intU u) (b := true) (ev_call (sp := spJ C intU) (ea_cons (ev_var rfl) ea_nil) fun H4 e5 Q q E => ⟨v, u, w', rfl, ex_at e5 hat3, pu, lu, q⟩) fun qi => ?_) ?_) ?_
    · cases hat3 with
      | int i =>
        have hi : i.natAbs < 10 ^ 30 := by simpa only [pl] using pu
        refine ev_is (ev_chain (ev_un ev_c ru_neg) (ev_var rfl) ev_c rv_I0 fun _ => rv_I0) ?_
        rw [decide_eq_true (by omega), decide_eq_true (by omega)]
        rfl
      | _ => cases qi
    · rw [Bool.and_true]
    · cases hat3 with
      | int i => rfl
      | non => rfl
      | tup _ _ _ => simp [isT, isS, tyU] at q2
      | str z => simp [isT, isS, tyU] at q3
      | bl b => simp only [pl] at pu
      | lst _ _ _ => simp only [pl] at pu
      | dct _ _ _ _ _ => simp only [pl] at pu
      | exc _ _ _ _ => simp only [pl] at pu
theorem ok_isThings {f f1 f2 : Addr} {fd d1 d2 : FuncData} {t : Tok} (DT : Df K mg "is_thing" sIsThing ["thing", "deepest"] f fd) (B : Bt mg) (D1 : Df K mg "is_integer" sIsInt ["thing"] f1 d1) (D2 : Df K mg "is_signs" sIsSigns ["thing"] f2 d2) (hB : mg "BOUND" = some (.int (10 ^ 30) t)) : ∀ n : Nat, FnOk P w K mg base CX0 (1 + n + 1) f fd ["thing", "deepest"] (spIsThing C n)
  | 0 => ok_isThing DT B D1 D2 hB 0 ⟨fun _ _ _ _ h => h.elim, fun _ _ _ _ _ _ _ _ _ _ _ _ _ h => h.elim⟩
  | n + 1 => ok_isThing DT B D1 D2 hB (n + 1) (ok_isThings DT B D1 D2 hB n)
end
end Ht
/-! the two .replace of the program make the escape -/
namespace Ht
open PySem L2 PySem.StrLaws
theorem repl1 (a : Nat) (z : List Nat) : ∀ l : List Nat, replL [a] z l = l.flatMap fun c => if c = a then z else [c]
  | [] => by rw [replL_nil]; rfl
  | c :: l => by
    by_cases h : c = a
    · have e : (c :: l).take ([a] : List Nat).length = [a] := by simp [h]
      rw [replL_hit (by simp) e, List.flatMap_cons, if_pos h]
      show z ++ replL [a] z l = _
      rw [repl1 a z l]
    · have e : ¬ (c :: l).take ([a] : List Nat).length = [a] := by simp [h]
      rw [replL_miss e, List.flatMap_cons, if_neg h, repl1 a z l]
      rfl
theorem repl_esc (l : List Nat) : replL [39] [126, 39] (replL [126] [126, 126] l) = escP l := by
  rw [repl1, repl1]
  induction l with
  | nil => rfl
  | cons c l ih =>
    rw [List.flatMap_cons, List.flatMap_append, ih]
    show _ = (if c = 39 ∨ c = 126 then [126, c] else [c]) ++ escP l
    congr 1
    by_cases h : c = 126
    · subst h
      rfl
    · rw [if_neg h]
      by_cases h2 : c = 39
      · subst h2
        rfl
      · rw [if_neg (by omega)]
        simp [h2]
theorem repl_str (z : Str) : TL.tl (Txt.replace (Txt.replace z "~" "~~") "'" "~'") = escP (TL.tl z) := by
  have l1 : 1 ≤ (("'" : Str)).length := by decide +kernel
  have l2 : 1 ≤ (("~" : Str)).length := by decide +kernel
  show (Txt.replace (Txt.replace z "~" "~~") "'" "~'").cps.toList = _
  rw [replace_list l1, replace_list l2, show ("'" : Str).cps.toList = [39] by decide +kernel, show ("~'" : Str).cps.toList = [126, 39] by decide +kernel, show ("~" : Str).cps.toList = [126] by decide +kernel, show ("~~" : Str).cps.toList = [126, 126] by decide +kernel]
  exact repl_esc _
end Ht
/-! the program's _text_of, and packed -/
namespace Ht
open PySem PySem.Spec PyProof.Rows L2 Hu Evl
abbrev sPackedP : Stmt := topS 16
abbrev sTextOf : Stmt := topS 17
section
variable {σ : L2.St} {H : Hp} {te to : TE}
theorem ev_repl {x y z : Str} (h : Ev to σ H (.str x)) (hz : x.length + (x.length + 1) * z.length ≤ 16777216) : Ev (CwR.tReplC to y z) σ H (.str (Txt.replace x y z)) := fun H1 e Q q =>
  h H1 e _ fun H2 e2 => ⟨x, rfl, hz, q H2 e2⟩
end
theorem str_txtP (z : Str) : ("'" : Str) ++ Txt.replace (Txt.replace z "~" "~~") "'" "~'" ++ "'" = txt (.str z) := by
  apply TL.ext_tl
  rw [TL.tl_append, TL.tl_append, repl_str]
  unfold txt
  rw [tl_mk]
  simp only [tx]
  rw [show TL.tl ("'" : Str) = [39] by decide +kernel]
  rfl
section
variable {P : Program} {w : World} {K : PySem.W.Frag} {mg : Str → Option Value} {base : Heap} {C : Addr}
theorem scTextOf : FnScope ["thing", "item"] ["thing"] (defScope sTextOf) := ⟨rfl, rfl, rfl, by decide +kernel, rfl, by decide +kernel, by decide +kernel⟩
theorem ok_textOf {f : Addr} {fd : FuncData} (DP : Df K mg "_text_of" sTextOf ["thing"] f fd) (B : Bt mg) : ∀ n : Nat, FnOk P w K mg base CX0 n f fd ["thing"] (spPacked C n)
  | 0 => ⟨fun _ _ _ _ ⟨_, _, _, e, _⟩ => by rw [e]; rfl, fun _ _ _ _ _ _ _ _ _ _ _ _ _ ⟨_, _, _, _, _, _, _, h, _⟩ => absurd h (Nat.not_lt_zero _)⟩
  | n + 1 => by
    have G := ok_textOf DP B n
    obtain ⟨oc, od, kV, doc, pm, an, cdv, ct, osl, rfl, lk, hcd⟩ := DP.F.ex
    refine fn_ofT lk hcd scTextOf (by decide +kernel) (by decide) (fun vs H Q E h => ?_) (fun A outer s H vs Q E hr h => ?_)
    · obtain ⟨v, u, w', rfl, _⟩ := h
      rfl
    obtain ⟨v, u, w', rfl, hat, pu, lu, du, k⟩ := h
    refine ⟨_, psst_cons (CwR.pst_if (pt_cmpR op_isN1 (pv 0) pe_non (nomark _)) (CwR.psst_one (PST.of (ps_ret pe_str))) CwR.psst_nil)
      (psst_cons (CwR.pst_if (pt_val (pe_callB call_isi (by rfl) B.isi boot_isi' (pa_cons (pv 0) (pa_cons (pe_bltn (by rfl) B.str boot_str' (show RelV (.ty "str") (.type "str") from rfl)) pa_nil))))
        (CwR.psst_one (CwR.pst_ret (CwR.pet_op op_add_str (CwR.pet_op op_add_str (CwR.PET.of pe_str) (CwR.pet_replT (CwR.pet_replC (pv 0)))) (CwR.PET.of pe_str)))) CwR.psst_nil)
      (psst_cons (PST.of (ps_if (pt_val (pe_callB call_isi (by rfl) B.isi boot_isi' (pa_cons (pv 0) (pa_cons (pe_bltn (by rfl) B.tup boot_tup' (show RelV (.ty "tuple") (.type "tuple") from rfl)) pa_nil))))
        (pss_one (ps_ret (pe_op op_add_str (pe_op op_add_str pe_str (pe_join pe_str (pe_lc (own := [("item", 1)]) (g := gName 1) (tt := tYes) rfl scTextOf.nd (pi_tup (pv 0)) (blkOk_by (N := ["thing", "item"]) (sc := defScope sTextOf) (by decide +kernel))
          (fun _ _ _ _ _ => pg_name (i := 1) scTextOf.nd rfl (Or.inl rfl)) (fun _ _ _ _ _ => pts_nil) (fun _ _ _ _ _ => pe_call G hr (by rfl) DP.g DP.F.kp DP.b .nil pass0 (pa_cons (pv 1) pa_nil))))) pe_str))) pss_nil))
      (CwR.psst_one (PST.of (ps_ret (pe_callTy call_str_int (by rfl) B.str boot_str' (pa_cons (pv 0) pa_nil))))))), ?_⟩
    refine s_if (b := decide (v = .non)) (et_test (ev_op (ev_var rfl) ev_c fun H1 _ Q q => ⟨rfl, q H1 (Ex.refl H1)⟩)) (fun q H1 e => ?_) (fun q H1 e => s_next ?_)
    · have hv := of_decide_eq_true q
      subst hv
      cases hat
      refine s_ret (ev_is (v := .str ".") ev_c (by rw [show txt .non = "." by decide +kernel])) fun H2 e2 => k H2 (e.trans e2)
    have hat1 := ex_at e hat
    refine q_if (b := isT u "str") (et_B (ev_isiP (ev_var rfl) hat1 pu (by decide))) (fun q3 H3 e3 => ?_) (fun q3 H3 e3 => s_next ?_)
    · obtain ⟨z, rfl⟩ : ∃ z, u = .str z := by
        cases u with
        | str z => exact ⟨z, rfl⟩
        | _ => simp [isT, isS, tyU] at q3
      have hat2 := ex_at e3 hat1
      cases hat2
      simp only [ln] at lu
      have hz := TL.len_tl z
      have l1 : (("'" : Str)).length = 1 := by decide +kernel
      have l2 : (("~~" : Str)).length = 2 := by decide +kernel
      have l3 : (("~'" : Str)).length = 2 := by decide +kernel
      have r1 := TK.replace_len z "~" "~~"
      rw [l2] at r1
      have jl : (Txt.replace (Txt.replace z "~" "~~") "'" "~'").length ≤ 70000 := by
        rw [TL.len_tl, repl_str]
        have := escP_len (TL.tl z)
        omega
      refine s_ret (ev_is (ev_op (ev_op ev_c (ev_repl (ev_repl (ev_var rfl) (by rw [l2]; omega)) (by rw [l3]; omega)) (rv_addZ (by omega))) ev_c (rv_addZ (by
        have : (("'" : Str) ++ Txt.replace (Txt.replace z "~" "~~") "'" "~'").length = 1 + (Txt.replace (Txt.replace z "~" "~~") "'" "~'").length := by
          rw [TL.len_tl, TL.tl_append, List.length_append, ← TL.len_tl, ← TL.len_tl, l1]
        omega))) (congrArg V.str (str_txtP z))) fun H4 e4 => k H4 ((e.trans e3).trans e4)
    have hat2 := ex_at e3 hat1
    refine q_if (b := isT u "tuple") (et_B (ev_isiP (ev_var rfl) hat2 pu (by decide))) (fun q2 H2 e2 => ?_) (fun q2 H2 e2 => s_next ?_)
    · obtain ⟨us, rfl⟩ : ∃ us, u = .tup us := by
        cases u with
        | tup us => exact ⟨us, rfl⟩
        | _ => simp [isT, isS, tyU] at q2
      have hat3 := ex_at e2 hat2
      cases hat3 with
      | @tup a xs _ ha na hl =>
        have pus : plL us := by simpa only [pl] using pu
        simp only [ln] at lu
        simp only [dpt] at du
        have hsum := sum_txt pus
        have hlen := lnL_len us
        have EL : EvL (tLc (iTup K (tVar 0)) (gName 1) tYes (tCall (spPacked C n) [] E0 (tCons (tVar 1) tNil)) [1]) [some (V.ref a), none] H2 ((us.map txt).map V.str) := by
          rw [List.map_map]
          exact el_lcT (j := 1) (vs := [1]) (g := fun u => .str (txt u)) (ev_var rfl) ha (by omega) hl (fun _ => rfl) fun x u hu hx => ev_call (ea_cons (ev_var rfl) ea_nil) fun H3 e3 Q q E => ⟨x, u, w', rfl, ex_at e3 hx, pl_mem pus hu, by have := ln_mem hu; omega, by have := dpt_mem hu; omega, q⟩
        have jl : (Txt.join ("," : Str) (us.map txt)).length ≤ 70000 := by
          have h1 := joinL_len [44] ((us.map txt).map TL.tl)
          rw [TL.len_tl, TL.join_eq, TL.tl_join, show TL.tl ("," : Str) = [44] by decide +kernel]
          have e5 : (((us.map txt).map TL.tl).map (·.length)).sum = ((us.map txt).map (·.length)).sum := by
            rw [List.map_map]
            congr 1
          rw [e5] at h1
          simp only [List.length_cons, List.length_nil, List.length_map] at h1
          omega
        have l1 : (("(" : Str)).length = 1 := by decide +kernel
        have l2 : ((")" : Str)).length = 1 := by decide +kernel
        have l3 : (("," : Str)).length = 1 := by decide +kernel
        refine s_ret (ev_is (ev_op (ev_op ev_c (ev_join (K := K) ev_c EL (by rw [List.length_map, l3]; omega)) (rv_addZ (by omega))) ev_c (rv_addZ (by
          have : (("(" : Str) ++ Txt.join ("," : Str) (us.map txt)).length = 1 + (Txt.join ("," : Str) (us.map txt)).length := by
            rw [TL.len_tl, TL.tl_append, List.length_append, ← TL.len_tl, ← TL.len_tl, l1]
          omega))) (congrArg V.str (tup_txt us))) fun H5 e5 => k H5 (((e.trans e3).trans e2).trans e5)
    have hat3 := ex_at e2 hat2
    cases hat3 with
      | int i =>
        have hi : i.natAbs < 10 ^ 30 := by simpa only [pl] using pu
        have es : (toString i : Str) = txt (.int i) := TL.ext_tl rfl
        have ev : Ev (tCB (fun xs H Q => ∃ i : Int, xs = [V.int i] ∧ i.natAbs.log2 < 1920 ∧ Q (.str (toString i)) H) (tCons (tVar 0) tNil)) [some (V.int i), none] H2 (.str (txt (.int i))) := ev_cb (ea_cons (ev_var rfl) ea_nil) fun H4 e4 Q q =>
          ⟨i, rfl, Nat.lt_of_lt_of_le (PySem.Flt.log2_lt_of (k := 100) (by decide) (Nat.lt_of_lt_of_le hi (by decide))) (by decide), by rw [es]; exact q H4 (Ex.refl H4)⟩
        exact s_ret ev fun H4 e4 => k H4 (((e.trans e3).trans e2).trans e4)
      | non => exact absurd rfl (of_decide_eq_false q)
      | tup _ _ _ => simp [isT, isS, tyU] at q2
      | str z => simp [isT, isS, tyU] at q3
      | bl b => simp only [pl] at pu
      | lst _ _ _ => simp only [pl] at pu
      | dct _ _ _ _ _ => simp only [pl] at pu
      | exc _ _ _ _ => simp only [pl] at pu
end
end Ht
/-! flags of any thing: what it is, as far as the program looks -/
namespace Ht
open PySem PySem.Spec PyProof.Rows L2 Hu Evl
mutual
inductive Od (H : Hp) : V → U → Prop
  | non : Od H .non .non
  | bl (b : Bool) : Od H (.bl b) (.bl b)
  | int (i : Int) : Od H (.int i) (.int i)
  | str (z : Str) : Od H (.str z) (.str z)
  | tup {a : Addr} {xs : List V} {us : List U} : H a = some (.tup xs) → OdL H xs us → Od H (.ref a) (.tup us)
  | lst {a : Addr} {xs : List V} : H a = some (.lst xs) → Od H (.ref a) (.lst [])
  | dct {a : Addr} {kvs : List (Key × V)} : H a = some (.dK kvs) → Od H (.ref a) (.dct [])
inductive OdL (H : Hp) : List V → List U → Prop
  | nil : OdL H [] []
  | cons {v : V} {u : U} {vs : List V} {us : List U} : Od H v u → OdL H vs us → OdL H (v :: vs) (u :: us)
end
section
variable {H H' : Hp}
mutual
theorem Od.ex (k : Ex H H') : ∀ {u : U} {v : V}, Od H v u → Od H' v u
  | _, _, .non => .non
  | _, _, .bl b => .bl b
  | _, _, .int i => .int i
  | _, _, .str z => .str z
  | _, _, .tup h l => .tup (k _ _ h) (OdL.ex k l)
  | _, _, .lst h => .lst (k _ _ h)
  | _, _, .dct h => .dct (k _ _ h)
theorem OdL.ex (k : Ex H H') : ∀ {us : List U} {vs : List V}, OdL H vs us → OdL H' vs us
  | _, _, .nil => .nil
  | _, _, .cons x l => .cons (x.ex k) (OdL.ex k l)
end
theorem OdL.length : ∀ {us : List U} {vs : List V}, OdL H vs us → vs.length = us.length
  | _, _, .nil => rfl
  | _, _, .cons x l => by rw [List.length_cons, List.length_cons, OdL.length l]
theorem OdL.get : ∀ {us : List U} {vs : List V} {i : Nat} {u : U}, OdL H vs us → us[i]? = some u → ∃ v, vs[i]? = some v ∧ Od H v u
  | _, _, _, _, .nil, e => by simp at e
  | _, _, 0, _, .cons x l, e => by
    have := Option.some.inj e
    subst this
    exact ⟨_, rfl, x⟩
  | _, _, i + 1, _, .cons x l, e => OdL.get (i := i) l e
variable {w C : Addr}
mutual
theorem od_at : ∀ {u : U} {v : V}, At w C H v u → pl u → Od H v u
  | _, _, .non, _ => .non
  | _, _, .bl b, _ => .bl b
  | _, _, .int i, _ => .int i
  | _, _, .str z, _ => .str z
  | _, _, .tup h _ l, p => .tup h (odl_at l (by simpa only [pl] using p))
  | _, _, .lst _ _ _, p => by simp only [pl] at p
  | _, _, .dct _ _ _ _ _, p => by simp only [pl] at p
  | _, _, .exc _ _ _ _, p => by simp only [pl] at p
theorem odl_at : ∀ {us : List U} {vs : List V}, AtL w C H vs us → plL us → OdL H vs us
  | _, _, .nil, _ => .nil
  | _, _, .cons x l, p => .cons (od_at x p.1) (odl_at l p.2)
end
end
/-- is_thing -/
def thB : Nat → U → Bool
  | 0, .tup _ => false
  | n + 1, .tup us => us.all (thB n)
  | _, .str z => (TL.tl z).all okW
  | _, .non => true
  | _, .int i => decide (-(10 ^ 30) < i) && decide (i < 10 ^ 30)
  | _, _ => false
mutual
theorem thB_pl : ∀ {u : U} {n : Nat}, pl u → dpt u ≤ n → thB n u = true
  | .non, n, _, _ => by cases n <;> rfl
  | .int i, n, h, _ => by
    have hi : i.natAbs < 10 ^ 30 := by simpa only [pl] using h
    have e : thB n (.int i) = (decide (-(10 ^ 30) < i) && decide (i < 10 ^ 30)) := by cases n <;> rfl
    rw [e, decide_eq_true (by omega), decide_eq_true (by omega)]
    rfl
  | .str z, n, h, _ => by
    have e : thB n (.str z) = (TL.tl z).all okW := by cases n <;> rfl
    rw [e]
    simpa only [pl] using h
  | .tup us, 0, _, h => by simp only [dpt] at h; omega
  | .tup us, n + 1, p, h => by
    show us.all (thB n) = true
    exact thB_plL (by simpa only [pl] using p) (by simp only [dpt] at h; omega)
  | .bl _, _, h, _ => by simp only [pl] at h
  | .lst _, _, h, _ => by simp only [pl] at h
  | .dct _, _, h, _ => by simp only [pl] at h
  | .exc, _, h, _ => by simp only [pl] at h
theorem thB_plL : ∀ {us : List U} {n : Nat}, plL us → dptL us ≤ n → us.all (thB n) = true
  | [], _, _, _ => rfl
  | u :: us, n, p, h => by
    simp only [dptL] at h
    rw [List.all_cons, thB_pl p.1 (by omega), thB_plL p.2 (by omega)]
    rfl
end
mutual
/-- no long list in it -/
def brd : U → Prop
  | .tup us => us.length ≤ 20000 ∧ brdL us
  | .str z => z.length ≤ 20000
  | _ => True
def brdL : List U → Prop
  | [] => True
  | u :: us => brd u ∧ brdL us
end
theorem brd_mem : ∀ {us : List U} {u : U}, brdL us → u ∈ us → brd u
  | _ :: _, _, h, .head _ => h.1
  | _ :: _, _, h, .tail _ q => brd_mem h.2 q
mutual
theorem brd_ln : ∀ {u : U}, ln u ≤ 20000 → brd u
  | .tup us, h => by
    simp only [ln] at h
    have := lnL_len us
    simp only [brd]
    exact ⟨by omega, brdL_ln (by omega)⟩
  | .str z, h => by
    simp only [ln] at h
    simp only [brd]
    omega
  | .non, _ => trivial
  | .bl _, _ => trivial
  | .int _, _ => trivial
  | .lst _, _ => trivial
  | .dct _, _ => trivial
  | .exc, _ => trivial
theorem brdL_ln : ∀ {us : List U}, lnL us ≤ 20000 → brdL us
  | [], _ => trivial
  | u :: us, h => by
    simp only [lnL] at h
    exact ⟨brd_ln (by omega), brdL_ln (by omega)⟩
end
section
variable {K : PySem.W.Frag} {σ : L2.St} {H : Hp} {te tl : TE} {us : List U} {xs : List V}
theorem ev_isiO {T : String} {v : V} {u : U} (h : Ev te σ H v) (hat : Od H v u) (hT : T ∈ ["int", "bool", "str", "tuple"]) : Ev (tCB (L2.rIsi K) (tCons te (tCons (tC (.ty T)) tNil))) σ H (.bl (isT u T)) :=
  ev_cb (ea_cons h (ea_cons ev_c ea_nil)) fun H1 e Q q => by
    have hat1 := hat.ex e
    cases hat1 with
    | non => exact ⟨_, .ty T, _, .type T, _, rfl, .ty T, .base .non, kit_ty (kit_is (by simp) hT), q H1 (Ex.refl H1)⟩
    | int i => exact ⟨_, .ty T, _, .type T, _, rfl, .ty T, .base (.int i), kit_ty (kit_is (by simp) hT), q H1 (Ex.refl H1)⟩
    | bl i => exact ⟨_, .ty T, _, .type T, _, rfl, .ty T, .base (.bl i), kit_ty (kit_is (by simp) hT), q H1 (Ex.refl H1)⟩
    | str z => exact ⟨_, .ty T, _, .type T, _, rfl, .ty T, .base (.str z), kit_ty (kit_is (by simp) hT), q H1 (Ex.refl H1)⟩
    | tup h1 _ => exact ⟨_, .ty T, _, .type T, _, rfl, .ty T, .base (.tup h1), kit_ty (kit_is (by simp) hT), q H1 (Ex.refl H1)⟩
    | lst h1 => exact ⟨_, .ty T, _, .type T, _, rfl, .ty T, .base (.lst h1), kit_ty (kit_is (by simp) hT), q H1 (Ex.refl H1)⟩
    | dct h1 => exact ⟨_, .ty T, _, .type T, _, rfl, .ty T, .base (.dK h1), kit_ty (kit_is (by simp) hT), q H1 (Ex.refl H1)⟩
/-- [f(x) for x in a tuple] -/
theorem el_lcO {a : Addr} {j : Nat} {vs : List Nat} {g : U → V} (h : Ev tl σ H (.ref a)) (hx : H a = some (.tup xs)) (hz : us.length ≤ 100000) (hl : OdL H xs us) (hw : ∀ x, wipe ((wipe σ vs).set j (some x)) vs = wipe σ vs)
    (he : ∀ (x : V) (u : U), u ∈ us → Od H x u → Ev te ((wipe σ vs).set j (some x)) H (g u)) : EvL (tLc (iTup K tl) (gName j) tYes te vs) σ H (us.map g) := fun H0 e Q q => h H0 e _ fun H1 e1 => ⟨a, rfl, ⟨xs, st_of ((e.trans e1) _ _ hx)⟩, fun Dl hD =>
  lc_tup (xs := xs) (fun i H' => Ex H1 H' ∧ H' Dl = some (.lst ((us.take i).map g))) ⟨Ex.new hD, upd_same⟩ (fun i H' _ p => st_of (((e.trans e1).trans p.1) _ _ hx)) (fun i x H2 hi p => by
    obtain ⟨p1, p2⟩ := p
    have hlen := OdL.length hl
    have hu : i < us.length := by
      have := (List.getElem?_eq_some_iff.mp hi).1
      omega
    obtain ⟨x', hx', hax⟩ := OdL.get hl (List.getElem?_eq_getElem hu)
    rw [hi] at hx'
    cases hx'
    refine ⟨hw x, he x us[i] (List.getElem_mem hu) hax H2 ((e.trans e1).trans p1) _ fun H3 e3 => ⟨_, e3 _ _ p2, ?_, fun q o hq => ?_, ?_⟩⟩
    · rw [List.length_map, List.length_take]
      have := big_line
      omega
    · rw [upd_ne (ne_of_none hq hD)]
      exact e3 _ _ (p1 _ _ hq)
    · rw [upd_same, List.take_add_one, List.getElem?_eq_getElem hu, List.map_append]
      rfl) (fun H' p => q Dl H' (fresh_back e1 (by exact hD)) (e1.trans p.1) (by rw [p.2, OdL.length hl, List.take_length]))⟩
end
section
variable {P : Program} {w : World} {K : PySem.W.Frag} {mg : Str → Option Value} {base : Heap}
def spO (g : U → Bool) : Sp := fun vs H Q _ => ∃ (v : V) (u : U), vs = [v] ∧ Od H v u ∧ brd u ∧ ∀ H', Same H H' → Q (.bl (g u)) H'
def sgU (u : U) : Bool := match u with | .str z => (TL.tl z).all okW | _ => false
theorem ok_isIntO {f : Addr} {fd : FuncData} (F : Fun K "is_integer" "is_integer" sIsInt f fd) (B : Bt mg) : FnOk P w K mg base CX0 1 f fd ["thing"] (spO intU) := by
  refine F.ok scIsInt (fun vs H Q E h => ?_) (fun cdv A outer s H vs Q E hr h => ?_)
  · obtain ⟨v, u, rfl, _⟩ := h
    rfl
  obtain ⟨v, u, rfl, hat, bu, k⟩ := h
  refine ⟨_, pss_one (ps_ret (pe_and (pe_callB call_isi (by rfl) B.isi boot_isi' (pa_cons (pv 0) (pa_cons (pe_bltn (by rfl) B.int boot_int' (show RelV (.ty "int") (.type "int") from rfl)) pa_nil)))
    (pe_one (pe_not (pe_callB call_isi (by rfl) B.isi boot_isi' (pa_cons (pv 0) (pa_cons (pe_bltn (by rfl) B.boo boot_bool' (show RelV (.ty "bool") (.type "bool") from rfl)) pa_nil))))))), ?_⟩
  refine s_ret (ev_andV (ev_isiO (ev_var rfl) hat (by decide)) fun _ => ev_notV (ev_isiO (ev_var rfl) hat (by decide))) fun H1 e => ?_
  have e2 : (isT u "int" && !isT u "bool") = intU u := by cases hat <;> simp [isT, isS, tyU, intU]
  rw [e2]
  exact k H1 e
theorem ok_isSignsO {f : Addr} {fd : FuncData} (F : Fun K "is_signs" "is_signs" sIsSigns f fd) (B : Bt mg) : FnOk P w K mg base CX0 1 f fd ["thing"] (spO sgU) := by
  refine F.ok scIsSigns (fun vs H Q E h => ?_) (fun cdv A outer s H vs Q E hr h => ?_)
  · obtain ⟨v, u, rfl, _⟩ := h
    rfl
  obtain ⟨v, u, rfl, hat, bu, k⟩ := h
  refine ⟨_, pss_one (ps_ret (pe_and (pe_callB call_isi (by rfl) B.isi boot_isi' (pa_cons (pv 0) (pa_cons (pe_bltn (by rfl) B.str boot_str' (show RelV (.ty "str") (.type "str") from rfl)) pa_nil)))
    (pe_one (pe_callB (cr_all rfl) (by rfl) B.all boot_all' (pa_cons (pe_lc (own := [("sign", 1)]) (g := gName 1) (tt := tYes) rfl scIsSigns.nd (pi_str (pv 0)) (blkOk_by (N := ["thing", "sign"]) (sc := defScope sIsSigns) (by decide +kernel))
      (fun _ _ _ _ _ => pg_name (i := 1) scIsSigns.nd rfl (Or.inl rfl)) (fun _ _ _ _ _ => pts_nil) (fun _ _ _ _ _ => pe_chain op_le_str op_le_str pe_str (pv 1) pe_str)) pa_nil))))), ?_⟩
  refine s_ret (ev_andV (b := sgU u) (ev_isiO (ev_var rfl) hat (by decide)) fun q => ?_) fun H1 e => ?_
  · cases u with
    | str z =>
      cases hat
      simp only [brd] at bu
      have hlz := TL.len_tl z
      have EL : EvL (tLc (iStr (tVar 0)) (gName 1) tYes (tChain rLeS rLeS (tC (.str " ")) (tVar 1) (tC (.str "~"))) [1]) [some (V.str z), none] H (((TL.tl z).map okW).map V.bl) := by
        rw [List.map_map]
        exact el_lcS (j := 1) (vs := [1]) (g := fun c => .bl (okW c)) (ev_var rfl) (by omega) (fun _ => rfl) fun c _ => ev_chain ev_c (ev_var rfl) ev_c rv_leS fun _ => rv_leS
      refine ev_is (ev_allL (K := K) EL) ?_
      congr 1
      show ((TL.tl z).map okW).all id = (TL.tl z).all okW
      rw [List.all_map]
      rfl
    | _ => simp [isT, isS, tyU] at q
  · have e2 : (isT u "str" && sgU u) = sgU u := by cases u <;> simp [isT, isS, tyU, sgU]
    rw [e2]
    exact k H1 e
def spThO (n : Nat) : Sp := fun vs H Q _ => ∃ (v : V) (u : U), vs = [v, .int (n : Int)] ∧ Od H v u ∧ brd u ∧ ∀ H', Same H H' → Q (.bl (thB n u)) H'
def spThOP : Nat → Sp
  | 0 => fun _ _ _ _ => False
  | n + 1 => spThO n
theorem ok_thO {f f1 f2 : Addr} {fd d1 d2 : FuncData} {t : Tok} (DT : Df K mg "is_thing" sIsThing ["thing", "deepest"] f fd) (B : Bt mg) (D1 : Df K mg "is_integer" sIsInt ["thing"] f1 d1) (D2 : Df K mg "is_signs" sIsSigns ["thing"] f2 d2) (hB : mg "BOUND" = some (.int (10 ^ 30) t)) (n : Nat)
    (G : FnOk P w K mg base CX0 (1 + n) f fd ["thing", "deepest"] (spThOP n)) : FnOk P w K mg base CX0 (1 + n + 1) f fd ["thing", "deepest"] (spThO n) := by
  have G1 : FnOk P w K mg base CX0 1 f1 d1 ["thing"] (spO intU) := ok_isIntO D1.F B
  have G2 : FnOk P w K mg base CX0 1 f2 d2 ["thing"] (spO sgU) := ok_isSignsO D2.F B
  refine DT.F.ok scIsThing (fun vs H Q E h => ?_) (fun cdv A outer s H vs Q E hr h => ?_)
  · obtain ⟨v, u, rfl, _⟩ := h
    rfl
  obtain ⟨v, u, rfl, hat, bu, k⟩ := h
  have hr1 : Room 1 (A.deeper (envOfC "is_thing" (defScope sIsThing) s.heap.objs.size f cdv)) := hr.mono (by omega)
  refine ⟨_, pss_cons (ps_if (pt_val (pe_callB call_isi (by rfl) B.isi boot_isi' (pa_cons (pv 0) (pa_cons (pe_bltn (by rfl) B.tup boot_tup' (show RelV (.ty "tuple") (.type "tuple") from rfl)) pa_nil))))
      (pss_one (ps_ret (pe_and (pe_cmpR op_gt (pv 1) pe_int (nomark _)) (pe_one (pe_callB (cr_all rfl) (by rfl) B.all boot_all' (pa_cons (pe_lc (own := [("item", 2)]) (g := gName 2) (tt := tYes) rfl scIsThing.nd (pi_tup (pv 0)) (blkOk_by (N := ["thing", "deepest", "item"]) (sc := defScope sIsThing) (by decide +kernel))
        (fun _ _ _ _ _ => pg_name (i := 2) scIsThing.nd rfl (Or.inl rfl)) (fun _ _ _ _ _ => pts_nil) (fun _ _ _ _ _ => pe_call G hr (by rfl) DT.g DT.F.kp DT.b .nil pass0 (pa_cons (pv 2) (pa_cons (pe_op op_sub (pv 1) pe_int) pa_nil)))) pa_nil)))))) pss_nil)
    (pss_cons (ps_if (pt_val (pe_callB call_isi (by rfl) B.isi boot_isi' (pa_cons (pv 0) (pa_cons (pe_bltn (by rfl) B.str boot_str' (show RelV (.ty "str") (.type "str") from rfl)) pa_nil))))
      (pss_one (ps_ret (pe_call G2 hr1 (by rfl) D2.g D2.F.kp D2.b .nil pass0 (pa_cons (pv 0) pa_nil)))) pss_nil)
    (pss_one (ps_ret (pe_or (pe_cmpR op_isN1 (pv 0) pe_non (nomark _)) (pe_one (pe_and (pe_call G1 hr1 (by rfl) D1.g D1.F.kp D1.b .nil pass0 (pa_cons (pv 0) pa_nil))
      (pe_one (pe_chain op_lt op_lt (pe_un un_neg (pe_glob (v := .int (10 ^ 30)) rfl hB ⟨_, rfl⟩)) (pv 0) (pe_glob (v := .int (10 ^ 30)) rfl hB ⟨_, rfl⟩))))))))), ?_⟩
  refine s_if (b := isT u "tuple") (et_B (ev_isiO (ev_var rfl) hat (by decide))) (fun q2 H2 e2 => ?_) (fun q2 H2 e2 => s_next ?_)
  · obtain ⟨us, rfl⟩ : ∃ us, u = .tup us := by
      cases u with
      | tup us => exact ⟨us, rfl⟩
      | _ => simp [isT, isS, tyU] at q2
    have hat2 := hat.ex e2
    cases hat2 with
    | @tup a xs _ ha hl =>
      simp only [brd] at bu
      refine s_ret (ev_andV (a := decide ((0 : Int) < (n : Int))) (b := thB n (.tup us)) (ev_op (ev_var rfl) ev_c rv_I0) fun q => ?_) fun H3 e3 => ?_
      · obtain ⟨m, rfl⟩ : ∃ m, n = m + 1 := ⟨n - 1, by have := of_decide_eq_true q; omega⟩
        have EL : EvL (tLc (iTup K (tVar 0)) (gName 2) tYes (tCall (spThOP (m + 1)) [] E0 (tCons (tVar 2) (tCons (tOp (rI0 fun i j => .int (i - j)) (tVar 1) (tC (.int 1))) tNil))) [2]) [some (V.ref a), some (.int ((m + 1 : Nat) : Int)), none] H2 ((us.map (thB m)).map V.bl) := by
          rw [List.map_map]
          refine el_lcO (j := 2) (vs := [2]) (g := fun u => .bl (thB m u)) (ev_var rfl) ha (by omega) hl (fun _ => rfl) fun x u hu hx => ev_call (vs := [x, .int (m : Int)]) (ea_cons (ev_var rfl) (ea_cons (ev_is (ev_op (ev_var rfl) ev_c rv_I0) (by rw [show ((m + 1 : Nat) : Int) - 1 = (m : Int) by omega])) ea_nil)) fun H3 e3 Q q E => ⟨x, u, rfl, hx.ex e3, brd_mem bu.2 hu, q⟩
        refine ev_is (ev_allL (K := K) EL) ?_
        rw [List.all_map]
        rfl
      · have e4 : (decide ((0 : Int) < (n : Int)) && thB n (.tup us)) = thB n (.tup us) := by
          cases n with
          | zero => rfl
          | succ m => rw [decide_eq_true (by omega)]; rfl
        rw [e4]
        exact k H3 (e2.trans e3)
  have hat2 := hat.ex e2
  refine q_if (b := isT u "str") (et_B (ev_isiO (ev_var rfl) hat2 (by decide))) (fun q3 H3 e3 => ?_) (fun q3 H3 e3 => s_next ?_)
  · have e4 : sgU u = thB n u := by
      cases u with
      | str z => cases n <;> rfl
      | _ => simp [isT, isS, tyU] at q3
    exact s_ret (ev_is (ev_call (sp := spO sgU) (ea_cons (ev_var rfl) ea_nil) fun H4 e5 Q q E => ⟨v, u, rfl, hat2.ex (e3.trans e5), bu, q⟩) (congrArg V.bl e4)) fun H4 e5 => k H4 ((e2.trans e3).trans e5)
  · have hat3 := hat2.ex e3
    have fin : ∀ {te : TE}, Ev te [some v, some (.int (n : Int)), none] H3 (.bl (thB n u)) → tRet te { nx := fun _ H' => Q .non H', rt := Q } [some v, some (.int (n : Int)), none] H3 := fun ev => s_ret ev fun H4 e4 => k H4 ((e2.trans e3).trans e4)
    dsimp only
    refine fin ?_
    refine ev_is (ev_orV (a := decide (v = .non)) (b := thB n u) (ev_op (ev_var rfl) ev_c fun H1 _ Q q => ⟨rfl, q H1 (Ex.refl H1)⟩) fun q => ev_is (ev_andV (a := intU u) (b := thB n u) (ev_call (sp := spO intU) (ea_cons (ev_var rfl) ea_nil) fun H4 e5 Q q E => ⟨v, u, rfl, hat3.ex e5, bu, q⟩) fun qi => ?_) ?_) ?_
    · cases hat3 with
      | int i =>
        refine ev_is (ev_chain (ev_un ev_c ru_neg) (ev_var rfl) ev_c rv_I0 fun _ => rv_I0) ?_
        cases n <;> rfl
      | _ => cases qi
    · cases hat3 with
      | int i => rfl
      | non => exact absurd rfl (of_decide_eq_false q)
      | tup _ _ => simp [isT, isS, tyU] at q2
      | str z => simp [isT, isS, tyU] at q3
      | bl b => cases n <;> rfl
      | lst _ => cases n <;> rfl
      | dct _ => cases n <;> rfl
    · cases hat3 with
      | non => cases n <;> rfl
      | _ => rfl
theorem ok_thsO {f f1 f2 : Addr} {fd d1 d2 : FuncData} {t : Tok} (DT : Df K mg "is_thing" sIsThing ["thing", "deepest"] f fd) (B : Bt mg) (D1 : Df K mg "is_integer" sIsInt ["thing"] f1 d1) (D2 : Df K mg "is_signs" sIsSigns ["thing"] f2 d2) (hB : mg "BOUND" = some (.int (10 ^ 30) t)) : ∀ n : Nat, FnOk P w K mg base CX0 (1 + n + 1) f fd ["thing", "deepest"] (spThO n)
  | 0 => ok_thO DT B D1 D2 hB 0 ⟨fun _ _ _ _ h => h.elim, fun _ _ _ _ _ _ _ _ _ _ _ _ _ h => h.elim⟩
  | n + 1 => ok_thO DT B D1 D2 hB (n + 1) (ok_thsO DT B D1 D2 hB n)
end
end Ht
set_option maxHeartbeats 2000000
/-! a try with several clauses, the first one «as n», which catches all that the body raises -/
namespace Tr
open PySem PySem.Spec PyProof.Rows L2
section
variable {X : Cx} {n : Str} {i : Nat} {a : Addr} {pins : List (Addr × Obj)} {D : Ends} {pos' : Pos}
/-- the suite's ends, with n let go -/
def ends (D : Ends) (i : Nat) : Ends := { nx := fun σ' H' => D.nx (σ'.set i none) H', rt := D.rt, bk := fun σ' H' => D.bk (σ'.set i none) H', ct := fun σ' H' => D.ct (σ'.set i none) H' }
theorem after_suite {e : Addr × Obj} (ok : X.Ok) (nd : X.N.Nodup) (at_i : X.N[i]? = some n) (loc : X.env.kindOf n = some .local) (he : e.1 = a) {fl : Flow} {t : Shared} (h : SP (X.suite a (e :: (X.pn ++ pins))) [] (ends D i) fl t) :
    wpAny (model X.prog X.w) X.A (do bindName X.env n .none; unbindBehindTheSuite X.env n pos') (fun _ u => SP X pins D fl u) X.xe t := by
  obtain ⟨b, o⟩ := e
  cases he
  match fl, h with
  | .next, h => exact Exists.elim h fun τ h => Exists.elim h fun G h => gone_ok (h.1.unsuite ok) nd at_i loc fun u J => ⟨_, _, J, h.2⟩
  | .brk, h => exact Exists.elim h fun τ h => Exists.elim h fun G h => gone_ok (h.1.unsuite ok) nd at_i loc fun u J => ⟨_, _, J, h.2⟩
  | .cont, h => exact Exists.elim h fun τ h => Exists.elim h fun G h => gone_ok (h.1.unsuite ok) nd at_i loc fun u J => ⟨_, _, J, h.2⟩
  | .ret v, h => exact Exists.elim h fun y h => Exists.elim h fun τ h => Exists.elim h fun G h => gone_ok (h.1.unsuite ok) nd at_i loc fun u J => ⟨_, _, _, J, h.2.1, h.2.2⟩
theorem untried (ok : X.Ok) {xe : Value → Shared → Prop} {fl : Flow} {t : Shared} (h : SP (X.tr (X.pn ++ pins) xe) [] D fl t) : SP X pins D fl t := by
  match fl, h with
  | .next, ⟨τ, G, J, q⟩ => exact ⟨τ, G, J.ofTry ok, q⟩
  | .brk, ⟨τ, G, J, q⟩ => exact ⟨τ, G, J.ofTry ok, q⟩
  | .cont, ⟨τ, G, J, q⟩ => exact ⟨τ, G, J.ofTry ok, q⟩
  | .ret v, ⟨y, τ, G, J, r, q⟩ => exact ⟨y, τ, G, J.ofTry ok, r, q⟩
variable {body suite : List Stmt} {b₀ : Stmt} {np pos : Pos} {x : Str} {c : Value} {hds : List ExceptHandler} {tb : WX → TS} {ts : Addr → Value → Option Addr → TS}
/-- the exception has landed in this frame: the first clause is asked, and takes it -/
theorem first_takes (ok : X.Ok) (stk : X.stack = X.env :: X.outer) (fr : X.env.frame = some X.env.locals) (nd : X.N.Nodup) (at_i : X.N[i]? = some n) (loc : X.env.kindOf n = some .local) (nm : Names X x c)
    (hsu : ∀ (a : Addr) (oe : Obj) (cls : Value) (d : Option Addr) (pn : List (Addr × Obj)), Zc cls d oe → (∃ vs, oe.data = .fields vs) → PSs (X.suite a ((a, oe) :: pn)) (b₀ :: suite) (ts a cls d))
    {B h3 : Heap} {sI s' : Shared} {σ : L2.St} {H : Hp} {cls : Value} {d : Option Addr} (J : Inv X pins σ H sI) (up : ∀ hh, HandSPX.FlyingZ B (X.env :: X.outer) a (Zc cls d) hh → s'.heap.UpToSlots hh → Inv X pins σ H { s' with heap := hh })
    (fly : HandSPX.FlyingZ B (X.env :: X.outer) a (Zc cls d) h3) (up3 : s'.heap.UpToSlots h3) (na : H a = none) (yes : PySem.W.exmOne X.K cls c = some true) (go : ts a cls d (ends D i) (σ.set i (some (.ref a))) H) :
    wpAny (model X.prog X.w) X.A (handleBy (.ref a) X.env (.ExceptHandler (some (.Name x np)) (some n) (b₀ :: suite) pos' :: hds)) (SP X pins D) X.xe { s' with heap := h3 } := by
  have far : ∀ {hh : Heap} {o : Obj} {vs : Array Value}, hh.FunFrames B (X.env :: X.outer) → hh.get? a = some o → o.data = .fields vs → (a ≠ X.env.locals ∧ a ∉ X.fs) := by
    intro hh o vs ff e dd
    have out : a ∉ frs (X.env :: X.outer) := fun z => Exists.elim (ff.mem z).2 fun o2 z2 => z2.2 vs (by rw [← Option.some.inj (e.symm.trans z2.1)]; exact dd)
    exact ⟨fun z => out (by rw [z]; exact List.mem_filterMap.mpr ⟨X.env, .head _, fr⟩), fun z => out (Exists.elim (List.mem_filterMap.mp z) fun en q => List.mem_filterMap.mpr ⟨en, .tail _ q.1, q.2⟩)⟩
  obtain ⟨o3, v3, at3, z3, d3⟩ := fly.there
  have J3 := up h3 fly up3
  have far3 := far fly.2.2.1 at3 d3
  have I3 := J3.suite at3 d3 na far3.1 far3.2
  refine wpAny_handleBy_cons (codeAny_handlers_test ?_) (fun z => nomatch z)
  have named : ∀ {Q E : Value → Shared → Prop}, Q c { s' with heap := h3 } → wpAny (model X.prog X.w) (X.A.mark (some (.ref a))) (eval (.Name x np) X.env) Q E { s' with heap := h3 } := by
    intro Q E q
    rcases nm.2.2 with z | ⟨z, zb, zn⟩
    · exact ld_glob (X := X.suite a ((a, o3) :: (X.pn ++ pins))) I3 nm.1 z q nm.2.1
    · exact ld_blt (X := X.suite a ((a, o3) :: (X.pn ++ pins))) I3 nm.1 z zb q zn nm.2.1
  have cl : PySem.W.Looks (model X.prog X.w) h3 (typeOf (.ref a)) cls := fun A' Q' E' t k q => wpAny_typeOf_ref (k _ _ at3) (by rw [z3.1]; exact q)
  refine named ((PySem.W.exm_one (M := model X.prog X.w) J3.kIn cl yes).here (codeAny_handlers_suite_as (HandSPX.lands_againZ fly fun h4 fly4 up4 => ?_)))
  obtain ⟨o4, v4, at4, z4, d4⟩ := fly4.there
  have J4 := up h4 fly4 (up3.trans up4)
  have I4 := J4.suite at4 d4 na far3.1 far3.2
  refine store_ok (X := X.suite a ((a, o4) :: (X.pn ++ pins))) (v := .ref a) I4 nd at_i (.inl loc) rfl (fun s5 I5 => ?_) (.inr loc)
  exact wpAny_mono ((hsu a o4 cls d (X.pn ++ pins) z4 ⟨_, d4⟩).run [] s5 _ H (ends D i) I5 go) (fun fl t q => after_suite (e := (a, o4)) ok nd at_i loc rfl q) fun _ _ z => z.elim
/-- try: body, except x as n: suite, and more clauses that are never reached -/
theorem ps_try_asR (stk : X.stack = X.env :: X.outer) (fr : X.env.frame = some X.env.locals) (nd : X.N.Nodup) (at_i : X.N[i]? = some n) (loc : X.env.kindOf n = some .local) (nm : Names X x c)
    (hb : ∀ (W : WX) (pn : List (Addr × Obj)) (xe : Value → Shared → Prop), Takes (X.tr pn xe) W → PassesOwn (model X.prog X.w) X.A X.env xe → PSs (X.tr pn xe) body (tb W))
    (hsu : ∀ (a : Addr) (oe : Obj) (cls : Value) (d : Option Addr) (pn : List (Addr × Obj)), Zc cls d oe → (∃ vs, oe.data = .fields vs) → PSs (X.suite a ((a, oe) :: pn)) (b₀ :: suite) (ts a cls d)) :
    PS X (.Try body (.ExceptHandler (some (.Name x np)) (some n) (b₀ :: suite) pos' :: hds) [] [] pos) (fun D σ H => tb (fun cls d σ' H' => PySem.W.exmOne X.K cls c = some true ∧ ∀ a, H' a = none → ts a cls d (ends D i) (σ'.set i (some (.ref a))) H') D σ H) := by
  refine ⟨fun pins s σ H D I h => wpAny_Try_except (wpAny_mono ((hb _ (X.pn ++ pins) _ (fun u s' xx => ?_) PassesOwn.looking).run [] s σ H D (I.toTry _) h) (fun fl t q => ?_) fun _ _ z => z)⟩
  · obtain ⟨a, B, sI, pins', σ', H', cls, d, rfl, J', nb, up, sky, na, os, ag, yes, go⟩ := xx
    have J := J'.ofTry I.ok
    refine Sky.land Zc.steady (by rw [I.ok.frames, stk]) fr (by rw [← stk]; exact sky) fun h3 fly up3 => ?_
    exact first_takes I.ok stk fr nd at_i loc nm hsu J (fun hh fl uu => J.landed nb fl.1 (up.trans uu) os ag) fly up3 na yes (go a na)
  · match fl, untried I.ok q with
    | .next, z => exact wpAny_execs_nil z
    | .brk, z => exact z
    | .cont, z => exact z
    | .ret v, z => exact z
end
end Tr
/-! own errors; packed; _law_is_none -/
namespace Ht
open PySem PySem.Spec PyProof.Rows L2 Hu Evl
abbrev sBadInit : Stmt := match topS 4 with
  | .ClassDef _ _ _ (s :: _) _ _ _ _ _ _ _ => s
  | s => s
/-- an own error class without an __init__, over ValueError -/
structure Ec (K : PySem.W.Frag) (mg : Str → Option Value) (x : Str) (C : Addr) : Prop where
  g : mg x = some (.ref C)
  x : PySem.W.excIn K C [.type "ValueError", .type "Exception", .type "BaseException", .type "object"] "ValueError.__new__" = true
  k : PySem.W.keepIn K (.ref C) = true
  b : PySem.W.subIn K (.ref C) (.type "BaseException") = some true
  t : PySem.W.typeIn K (.ref C) = some (.type "type")
  e : PySem.W.exmOne K (.ref C) (.ref C) = some true
section
variable {X : Cx} {C : Addr} {bmB : List Value} {B newId initId : String}
/-- X() -/
theorem pmk_own0 {x : Str} {p pos : Pos} (F : ExcBaseFacts B newId initId bmB) (q : PySem.W.excIn X.K C bmB newId = true) (gC : X.mg x = some (.ref C)) (kC : PySem.W.keepIn X.K (.ref C) = true) (r : Raises X (.ref C)) (hg : Gl X x)
    (hdb : (x == ("__debug__" : Str)) = false := by decide) : PMk X (.Call (.Name x p) [] [] pos) (fun _ H Q => Q (.ref C) none H) := by
  intro pins s σ H Q I h
  refine wpAny_Call_Name_kw (ld_glob I hg gC ?_ hdb)
  refine PySem.W.callWith_K0 I.kIn kC ?_
  show wpAny _ _ (call (.ref C) []) _ _ _
  obtain ⟨bm, N, nm, qn, bs, hdct, sn, sub, ab, col, dd, k0, k1, k2, k3, k5, mN, hC, hN, hni, T⟩ := exc_obj I.kIn q
  refine wpAny_call_exc_subT F T hC hN hni (fun h' e hm => ?_) (Nat.zero_le _)
  exact mk_of I hm r h (I.hok.gone hm.new)
end

/-- an own error class with a field place, which its __init__ sets -/
structure Bx (K : PySem.W.Frag) (mg : Str → Option Value) (C fI : Addr) (dI : FuncData) : Prop where
  g : mg "BadText" = some (.ref C)
  T : OexC K C
  iC : PySem.W.findIn K (.ref C) "__init__" = some (some (.ref fI))
  tI : PySem.W.typeIn K (.ref fI) = some (.type "function")
  F : Fun K "__init__" "BadText.__init__" sBadInit fI dI
  b : Binds K dI ["self", "place"] []
  no : PySem.W.findIn K (.ref C) "place" = some none
  e : PySem.W.exmOne K (.ref C) (.ref C) = some true
  xf : XfC K C
def spBI (K : PySem.W.Frag) (C : Addr) : Sp := fun vs H Q _ => ∃ (a : Addr) (v : V), vs = [.ref a, v] ∧ H a = some (exo a C none) ∧ ∀ dx, H dx = none → dx ≠ a → Q .non (upd (upd H dx (exd dx [("place", v)])) a (exo a C (some dx)))
section
variable {P : Program} {w : World} {K : PySem.W.Frag} {mg : Str → Option Value} {base : Heap}
theorem scBI : FnScope ["self", "place"] ["self", "place"] (defScope sBadInit) := ⟨rfl, rfl, rfl, by decide +kernel, rfl, by decide +kernel, by decide +kernel⟩
theorem ok_BI {fI C : Addr} {dI : FuncData} (EB : Bx K mg C fI dI) : FnOk P w K mg base CX0 1 fI dI ["self", "place"] (spBI K C) := by
  refine EB.F.ok scBI (fun vs H Q E h => ?_) (fun cdv A outer s H vs Q E hr h => ?_)
  · obtain ⟨a, v, rfl, _⟩ := h
    rfl
  obtain ⟨a, v, rfl, ha, k⟩ := h
  refine ⟨_, pss_one (ps_ost (pv 0) (pv 1)), ?_⟩
  exact ⟨_, rfl, _, rfl, a, C, rfl, EB.T, EB.no, .inl ⟨ha, fun dx n ne => k dx n ne⟩⟩
/-- BadText(e) -/
theorem rd_bad {K : PySem.W.Frag} {C : Addr} {te : TE} {σ : L2.St} {H : Hp} {v : V} {Qx : XK} (ev : Ev te σ H v) (k : ∀ H' d, Ex H H' → H d = none → H' d = some (.xd [("place", v)]) → Qx (.ref C) (some d) H') : tMkO C (spBI K C) [] (tCons te tNil) σ H Qx :=
  ev H (Ex.refl H) _ fun H1 e1 => ⟨by show (1 : Nat) ≤ 1000; decide, fun a na => ⟨a, v, rfl, upd_same, fun dx nd ne => ⟨rfl, dx, _, upd_same, by rw [upd_ne ne, upd_same], by rw [upd_ne ne] at nd; exact nd, by
    have n1 : H1 dx = none := by rw [upd_ne ne] at nd; exact nd
    refine k _ dx (fun b o hb => ?_) (fresh_back e1 n1) upd_same
    have hb1 := e1 _ _ hb
    have nbd := ne_of_none hb1 n1
    have nba := ne_of_none hb1 na
    rw [upd_ne nbd, del_ne nba, upd_ne nba, upd_ne nbd, upd_ne nba]
    exact hb1⟩⟩⟩
/-! ### packed -/
theorem scPackedP : FnScope ["thing"] ["thing"] (defScope sPackedP) := ⟨rfl, rfl, rfl, by decide +kernel, rfl, by decide +kernel, by decide +kernel⟩
variable {C : Addr}
def spPkG (C : Addr) : Sp := fun vs H Q _ => ∃ (v : V) (u : U) (w' : Addr), vs = [v] ∧ At w' C H v u ∧ pl u ∧ ln u ≤ 20000 ∧ dpt u ≤ 30 ∧ ∀ H', Same H H' → Q (.str (txt u)) H'
theorem ok_packedG {f f1 f2 f3 f4 : Addr} {fd d1 d2 d3 d4 : FuncData} {t t2 : Tok} (F : Fun K "packed" "packed" sPackedP f fd) (B : Bt mg) (DT : Df K mg "is_thing" sIsThing ["thing", "deepest"] f1 d1) (D1 : Df K mg "is_integer" sIsInt ["thing"] f2 d2) (D2 : Df K mg "is_signs" sIsSigns ["thing"] f3 d3)
    (DX : Df K mg "_text_of" sTextOf ["thing"] f4 d4) (hB : mg "BOUND" = some (.int (10 ^ 30) t)) (hD : mg "DEEPEST" = some (.int 30 t2)) : FnOk P w K mg base CX0 33 f fd ["thing"] (spPkG C) := by
  have GT : FnOk P w K mg base CX0 32 f1 d1 ["thing", "deepest"] (spThO 30) := ok_thsO DT B D1 D2 hB 30
  have GX : FnOk P w K mg base CX0 31 f4 d4 ["thing"] (spPacked C 31) := ok_textOf DX B 31
  refine F.ok scPackedP (fun vs H Q E h => ?_) (fun cdv A outer s H vs Q E hr h => ?_)
  · obtain ⟨v, u, w', rfl, _⟩ := h
    rfl
  obtain ⟨v, u, w', rfl, hat, pu, lu, du, k⟩ := h
  refine ⟨_, pss_cons (ps_if (pt_not (pt_val (pe_call GT hr (by rfl) DT.g DT.F.kp DT.b .nil pass0 (pa_cons (pv 0) (pa_cons (pe_glob (v := .int 30) rfl hD ⟨_, rfl⟩) pa_nil))))) (pss_one ps_never) pss_nil)
    (pss_one (ps_ret (pe_call GX (hr.mono (by decide)) (by rfl) DX.g DX.F.kp DX.b .nil pass0 (pa_cons (pv 0) pa_nil)))), ?_⟩
  have hth : thB 30 u = true := thB_pl pu du
  refine q_when (b := !(thB 30 u)) (et_not (et_B (ev_call (sp := spThO 30) (vs := [v, .int 30]) (ea_cons (ev_var rfl) (ea_cons ev_c ea_nil)) fun H1 e1 Q q E => ⟨v, u, rfl, (od_at hat pu).ex e1, brd_ln lu, q⟩))) (fun q H1 e1 => by rw [hth] at q; cases q) fun q H1 e1 => ?_
  exact s_ret (ev_call (sp := spPacked C 31) (ea_cons (ev_var rfl) ea_nil) fun H2 e2 Q q E => ⟨v, u, w', rfl, ex_at (e1.trans e2) hat, pu, by omega, by omega, q⟩) fun H2 e2 => k H2 (e1.trans e2)
def spPkX (CN : Addr) : Sp := fun vs H Q E => ∃ (v : V) (u : U), vs = [v] ∧ Od H v u ∧ brd u ∧ thB 30 u = false ∧ ∀ H', Same H H' → E (.ref CN) none H'
theorem ok_packedX {f f1 f2 f3 CN : Addr} {fd d1 d2 d3 : FuncData} {t t2 : Tok} (F : Fun K "packed" "packed" sPackedP f fd) (B : Bt mg) (DT : Df K mg "is_thing" sIsThing ["thing", "deepest"] f1 d1) (D1 : Df K mg "is_integer" sIsInt ["thing"] f2 d2) (D2 : Df K mg "is_signs" sIsSigns ["thing"] f3 d3)
    (EC : Ec K mg "NoThing" CN) (hB : mg "BOUND" = some (.int (10 ^ 30) t)) (hD : mg "DEEPEST" = some (.int 30 t2)) : FnOk P w K mg base (L2.CX P w) 33 f fd ["thing"] (spPkX CN) := by
  have GT : FnOk P w K mg base CX0 32 f1 d1 ["thing", "deepest"] (spThO 30) := ok_thsO DT B D1 D2 hB 30
  refine F.okX scPackedP (fun vs H Q E h => ?_) (fun cdv A outer s H vs Q E hr h => ?_)
  · obtain ⟨v, u, rfl, _⟩ := h
    rfl
  obtain ⟨v, u, rfl, hat, bu, hth, k⟩ := h
  refine ⟨_, pss_cons (ps_if (pt_not (pt_val (pe_call GT hr (by rfl) DT.g DT.F.kp DT.b .nil pass0 (pa_cons (pv 0) (pa_cons (pe_glob (v := .int 30) rfl hD ⟨_, rfl⟩) pa_nil)))))
      (pss_one (ps_raise rfl (takes_of rfl rfl rfl rfl) (pmk_own0 PySem.F.excBase_ValueError EC.x EC.g EC.k (raises_own EC.b EC.t) rfl))) pss_nil)
    (pss_one ps_never), ?_⟩
  refine q_when (b := !(thB 30 u)) (et_not (et_B (ev_call (sp := spThO 30) (vs := [v, .int 30]) (ea_cons (ev_var rfl) (ea_cons ev_c ea_nil)) fun H1 e1 Q q E => ⟨v, u, rfl, hat.ex e1, bu, q⟩))) (fun q H1 e1 => ?_) fun q H1 e1 => by rw [hth] at q; cases q
  exact k H1 e1
end
end Ht
/-! k30: how far a reader comes, and reading back -/
namespace Ht
open PySem Hu L2
mutual
/-- made of None, integers, strings and tuples -/
def sm : U → Prop
  | .non => True
  | .int _ => True
  | .str z => (TL.tl z).all okW = true
  | .tup us => smL us
  | _ => False
def smL : List U → Prop
  | [] => True
  | u :: us => sm u ∧ smL us
end
theorem smL_append : ∀ {us us' : List U}, smL us → smL us' → smL (us ++ us')
  | [], _, _, h => h
  | _ :: _, _, h, h' => ⟨h.1, smL_append h.2 h'⟩
theorem smL_mem : ∀ {us : List U} {u : U}, smL us → u ∈ us → sm u
  | _ :: _, _, h, .head _ => h.1
  | _ :: _, _, h, .tail _ q => smL_mem h.2 q
mutual
theorem sm_pl : ∀ u : U, pl u → sm u
  | .non, _ => by simp only [sm]
  | .int _, _ => by simp only [sm]
  | .str z, h => by
    simp only [sm]
    simpa only [pl] using h
  | .tup us, h => by
    simp only [sm]
    exact smL_pl us (by simpa only [pl] using h)
  | .bl _, h => by simp only [pl] at h
  | .lst _, h => by simp only [pl] at h
  | .dct _, h => by simp only [pl] at h
  | .exc, h => by simp only [pl] at h
theorem smL_pl : ∀ us : List U, plL us → smL us
  | [], _ => trivial
  | u :: us, h => ⟨sm_pl u h.1, smL_pl us h.2⟩
end
theorem rdStr_ok {cs : List Nat} : ∀ {n p : Nat} {acc : List Nat} {u : U} {q : Nat}, rdStr cs n p acc = .ok u q → acc.all okW = true → p < q ∧ q ≤ cs.length ∧ sm u
  | 0, _, _, _, _, h, _ => by
    unfold rdStr at h
    cases h
  | n + 1, p, acc, u, q, h, ha => by
    unfold rdStr at h
    cases hc : cs[p]? with
    | none =>
      rw [hc] at h
      cases h
    | some c =>
      rw [hc] at h
      have hp := (List.getElem?_eq_some_iff.mp hc).1
      dsimp only at h
      split at h
      · cases h
        exact ⟨by omega, by omega, by simp only [sm]; exact ha⟩
      · split at h
        · cases hd : cs[p + 1]? with
          | none =>
            rw [hd] at h
            cases h
          | some d =>
            rw [hd] at h
            dsimp only at h
            split at h
            · rename_i hd2
              obtain ⟨a, b, c⟩ := rdStr_ok h (by
                rw [List.all_append, ha]
                rcases hd2 with rfl | rfl <;> rfl)
              exact ⟨by omega, b, c⟩
            · cases h
        · split at h
          · rename_i hd2
            obtain ⟨a, b, c⟩ := rdStr_ok h (by
              rw [List.all_append, ha]
              simp only [List.all_cons, List.all_nil, Bool.and_true, Bool.true_and, okW]
              rw [decide_eq_true hd2.1, decide_eq_true hd2.2]
              rfl)
            exact ⟨by omega, b, c⟩
          · cases h
theorem run_le (cs : List Nat) (p : Nat) : run cs p ≤ cs.length - p := by
  unfold run
  have := (List.takeWhile_sublist isD (l := cs.drop p)).length_le
  rw [List.length_drop] at this
  exact this
theorem begins_ge (cs : List Nat) (p : Nat) : p ≤ begins cs p ∧ begins cs p ≤ p + 1 := by
  unfold begins
  split <;> omega
theorem riP_ok {cs : List Nat} {p : Nat} {u : U} {q : Nat} (h : riP cs p = .ok u q) : p < q ∧ q ≤ cs.length ∧ sm u := by
  unfold riP at h
  dsimp only at h
  have h1 := begins_ge cs p
  have h2 := run_le cs (begins cs p)
  split at h
  · cases h
  split at h
  · split at h
    · cases h
    · cases h
      exact ⟨by omega, by omega, by simp only [sm]⟩
  split at h
  · cases h
  · cases h
    exact ⟨by omega, by omega, by simp only [sm]⟩
theorem riL_ok {cs : List Nat} {p : Nat} {u : U} {q : Nat} (h : riL cs p = .ok u q) : p < q ∧ q ≤ cs.length ∧ sm u := by
  unfold riL at h
  dsimp only at h
  have h1 := begins_ge cs p
  have h2 := run_le cs (begins cs p)
  split at h
  · cases h
  split at h
  · split at h
    · cases h
    · cases h
      exact ⟨by omega, by omega, by simp only [sm]⟩
  split at h
  · cases h
    exact ⟨by omega, by omega, by simp only [sm]⟩
  · cases h
    exact ⟨by omega, by omega, by simp only [sm]⟩
theorem rdItems_ok {cs : List Nat} {rd : Nat → R} (hr : ∀ p u q, rd p = .ok u q → p < q ∧ q ≤ cs.length ∧ sm u) : ∀ {n p : Nat} {acc : List U} {u : U} {q : Nat}, rdItems cs rd n p acc = .ok u q → smL acc → p < q ∧ q ≤ cs.length ∧ sm u
  | 0, _, _, _, _, h, _ => by
    unfold rdItems at h
    cases h
  | n + 1, p, acc, u, q, h, ha => by
    unfold rdItems at h
    cases hc : rd p with
    | bad e =>
      rw [hc] at h
      cases h
    | ok u0 q0 =>
      rw [hc] at h
      obtain ⟨a, b, c⟩ := hr p u0 q0 hc
      have hs : smL (acc ++ [u0]) := smL_append ha ⟨c, trivial⟩
      dsimp only at h
      split at h
      · rename_i h1
        cases h
        have hp := (List.getElem?_eq_some_iff.mp h1).1
        exact ⟨by omega, by omega, by simp only [sm]; exact hs⟩
      · split at h
        · obtain ⟨a', b', c'⟩ := rdItems_ok hr h hs
          exact ⟨by omega, b', c'⟩
        · cases h
theorem rdThing_ok {cs : List Nat} {ri : Nat → R} (hr : ∀ p u q, ri p = .ok u q → p < q ∧ q ≤ cs.length ∧ sm u) : ∀ (k p : Nat) (u : U) (q : Nat), rdThing cs ri k p = .ok u q → p < q ∧ q ≤ cs.length ∧ sm u := by
  intro k
  induction k with
  | zero =>
    intro p u q h
    unfold rdThing at h
    cases hc : cs[p]? with
    | none =>
      rw [hc] at h
      cases h
    | some c =>
      rw [hc] at h
      have hp := (List.getElem?_eq_some_iff.mp hc).1
      dsimp only at h
      split at h
      · cases h
        exact ⟨by omega, by omega, by simp only [sm]⟩
      split at h
      · obtain ⟨a, b, c⟩ := rdStr_ok h rfl
        exact ⟨by omega, b, c⟩
      split at h
      · cases h
      · exact hr p u q h
  | succ k ih =>
    intro p u q h
    unfold rdThing at h
    cases hc : cs[p]? with
    | none =>
      rw [hc] at h
      cases h
    | some c =>
      rw [hc] at h
      have hp := (List.getElem?_eq_some_iff.mp hc).1
      dsimp only at h
      split at h
      · cases h
        exact ⟨by omega, by omega, by simp only [sm]⟩
      split at h
      · obtain ⟨a, b, c⟩ := rdStr_ok h rfl
        exact ⟨by omega, b, c⟩
      split at h
      · split at h
        · rename_i h1
          cases h
          have hp := (List.getElem?_eq_some_iff.mp h1).1
          exact ⟨by omega, by omega, by simp only [sm, smL]⟩
        · obtain ⟨a, b, c⟩ := rdItems_ok ih h trivial
          exact ⟨by omega, b, c⟩
      · exact hr p u q h
theorem rdStr_dpt {cs : List Nat} : ∀ {n p : Nat} {acc : List Nat} {u : U} {q : Nat}, rdStr cs n p acc = .ok u q → dpt u = 0
  | 0, _, _, _, _, h => by
    unfold rdStr at h
    cases h
  | n + 1, p, acc, u, q, h => by
    unfold rdStr at h
    split at h
    · cases h
    · split at h
      · cases h
        simp only [dpt]
      · split at h
        · split at h
          · cases h
          · split at h
            · exact rdStr_dpt h
            · cases h
        · split at h
          · exact rdStr_dpt h
          · cases h
theorem rdItems_dpt {cs : List Nat} {rd : Nat → R} {k : Nat} (hr : ∀ p u q, rd p = .ok u q → dpt u ≤ k) : ∀ {n p : Nat} {acc : List U} {u : U} {q : Nat}, rdItems cs rd n p acc = .ok u q → dptL acc ≤ k → dpt u ≤ k + 1
  | 0, _, _, _, _, h, _ => by
    unfold rdItems at h
    cases h
  | n + 1, p, acc, u, q, h, ha => by
    unfold rdItems at h
    cases hc : rd p with
    | bad e =>
      rw [hc] at h
      cases h
    | ok u0 q0 =>
      rw [hc] at h
      have c := hr p u0 q0 hc
      have hs : dptL (acc ++ [u0]) ≤ k := by
        rw [dptL_append]
        simp only [dptL]
        omega
      dsimp only at h
      split at h
      · cases h
        simp only [dpt]
        omega
      · split at h
        · exact rdItems_dpt hr h hs
        · cases h
theorem rdThing_dpt {cs : List Nat} {ri : Nat → R} (hr : ∀ p u q, ri p = .ok u q → dpt u = 0) : ∀ (k p : Nat) (u : U) (q : Nat), rdThing cs ri k p = .ok u q → dpt u ≤ k := by
  intro k
  induction k with
  | zero =>
    intro p u q h
    unfold rdThing at h
    split at h
    · cases h
    split at h
    · cases h
      simp only [dpt]
      omega
    split at h
    · rw [rdStr_dpt h]
      omega
    split at h
    · cases h
    · rw [hr p u q h]
      omega
  | succ k ih =>
    intro p u q h
    unfold rdThing at h
    split at h
    · cases h
    split at h
    · cases h
      simp only [dpt]
      omega
    split at h
    · rw [rdStr_dpt h]
      omega
    split at h
    · dsimp only at h
      split at h
      · cases h
        simp only [dpt, dptL]
        omega
      · exact rdItems_dpt ih h (by simp only [dptL]; omega)
    · rw [hr p u q h]
      omega
theorem riP_dpt {cs : List Nat} {p : Nat} {u : U} {q : Nat} (h : riP cs p = .ok u q) : dpt u = 0 := by
  unfold riP at h
  dsimp only at h
  split at h
  · cases h
  split at h
  · split at h
    · cases h
    · cases h
      simp only [dpt]
  split at h
  · cases h
  · cases h
    simp only [dpt]
/-! ### reading back -/
theorem get_mid {cs pre : List Nat} {c : Nat} {r : List Nat} (h : cs = pre ++ (c :: r)) : cs[pre.length]? = some c := by
  subst h
  rw [List.getElem?_append_right (Nat.le_refl _), Nat.sub_self]
  rfl
theorem esc_cons (c : Nat) (l : List Nat) : escP (c :: l) = (if c = 39 ∨ c = 126 then [126, c] else [c]) ++ escP l := by
  unfold escP
  rw [List.flatMap_cons]
theorem rdStr_back {cs post : List Nat} : ∀ (l pre acc : List Nat) (n : Nat), (∀ c ∈ l, okW c = true) → l.length < n → cs = pre ++ (escP l ++ 39 :: post) → rdStr cs n pre.length acc = .ok (.str (mkS (acc ++ l))) (pre.length + (escP l).length + 1)
  | [], pre, acc, n, _, hn, h => by
    obtain ⟨m, rfl⟩ : ∃ m, n = m + 1 := ⟨n - 1, by simp only [List.length_nil] at hn; omega⟩
    have hc : cs[pre.length]? = some 39 := get_mid (r := post) h
    unfold rdStr
    rw [hc]
    dsimp only
    rw [if_pos rfl, List.append_nil]
    rfl
  | c :: l, pre, acc, n, hl, hn, h => by
    obtain ⟨m, rfl⟩ : ∃ m, n = m + 1 := ⟨n - 1, by simp only [List.length_cons] at hn; omega⟩
    have hl' : ∀ c ∈ l, okW c = true := fun d hd => hl d (List.mem_cons_of_mem _ hd)
    have hc0 := hl c (List.mem_cons_self ..)
    have hn' : l.length < m := by simp only [List.length_cons] at hn; omega
    by_cases hs : c = 39 ∨ c = 126
    · have h1 : cs = pre ++ (126 :: c :: (escP l ++ 39 :: post)) := by
        rw [h, esc_cons, if_pos hs]
        simp
      have h2 : cs = (pre ++ [126]) ++ (c :: (escP l ++ 39 :: post)) := by
        rw [h1]
        simp
      have h3 : cs = (pre ++ [126, c]) ++ (escP l ++ 39 :: post) := by
        rw [h1]
        simp
      have g1 := get_mid h1
      have g2 := get_mid h2
      rw [List.length_append, List.length_singleton] at g2
      have ih := rdStr_back (cs := cs) (post := post) l (pre ++ [126, c]) (acc ++ [c]) m hl' hn' h3
      rw [List.length_append] at ih
      unfold rdStr
      rw [g1]
      dsimp only
      rw [if_neg (by decide), if_pos rfl, g2]
      dsimp only
      rw [if_pos hs]
      rw [show pre.length + 2 = pre.length + [126, c].length from rfl, ih, esc_cons, if_pos hs]
      simp only [List.length_append, List.length_cons, List.length_nil, List.append_assoc, List.cons_append, List.nil_append]
      congr 1
      omega
    · have h1 : cs = pre ++ (c :: (escP l ++ 39 :: post)) := by
        rw [h, esc_cons, if_neg hs]
        simp
      have h3 : cs = (pre ++ [c]) ++ (escP l ++ 39 :: post) := by
        rw [h1]
        simp
      have g1 := get_mid h1
      have ih := rdStr_back (cs := cs) (post := post) l (pre ++ [c]) (acc ++ [c]) m hl' hn' h3
      rw [List.length_append] at ih
      unfold rdStr
      rw [g1]
      dsimp only
      unfold okW at hc0
      have hc1 := Bool.and_eq_true_iff.mp hc0
      have hc2 := of_decide_eq_true hc1.1
      have hc3 := of_decide_eq_true hc1.2
      rw [if_neg (by omega), if_neg (by omega), if_pos ⟨hc2, hc3⟩]
      rw [show pre.length + 1 = pre.length + [c].length from rfl, ih, esc_cons, if_neg hs]
      simp only [List.length_append, List.length_cons, List.length_nil, List.append_assoc, List.cons_append, List.nil_append]
      congr 1
      omega
/-- no digit stands ahead -/
def noD (l : List Nat) : Prop := ∀ c, l.head? = some c → isD c = false
theorem numL_head : ∀ n : Nat, 0 < n → ∃ c r, TL.numL n = c :: r ∧ 49 ≤ c := by
  intro n
  induction n using Nat.strongRecOn with
  | _ n ih =>
    intro hn
    by_cases h : n < 10
    · exact ⟨48 + n, [], TL.numL_lt h, by omega⟩
    · obtain ⟨c, r, e, hc⟩ := ih (n / 10) (by omega) (by omega)
      refine ⟨c, r ++ [48 + n % 10], ?_, hc⟩
      rw [TL.numL_step (by omega), e]
      rfl
theorem tx_int (i : Int) : ∃ n : Nat, n = i.natAbs ∧ ((i = (n : Int) ∧ tx (.int i) = TL.numL n) ∨ (i = -(n : Int) ∧ 0 < n ∧ tx (.int i) = 45 :: TL.numL n)) := by
  refine ⟨i.natAbs, rfl, ?_⟩
  by_cases h : 0 ≤ i
  · refine .inl ⟨by omega, ?_⟩
    have e : i = ((i.natAbs : Nat) : Int) := by omega
    simp only [tx]
    have := TL.tl_num i.natAbs
    rw [← e] at this
    exact this
  · refine .inr ⟨by omega, by omega, ?_⟩
    have e : (0 : Int) - i = ((i.natAbs : Nat) : Int) := by omega
    have q := TL.tl_num i.natAbs
    rw [← e] at q
    simp only [tx]
    show TL.tl (Str.ofString (toString i)) = _
    rw [PyProof.Rows.toString_neg (by omega), TL.tl_ofString, String.toList_append, List.map_append]
    rw [TL.tl_ofString] at q
    rw [q]
    rfl
theorem takeWhile_app {l post : List Nat} (h : ∀ c ∈ l, isD c = true) (hp : noD post) : (l ++ post).takeWhile isD = l := by
  induction l with
  | nil =>
    cases post with
    | nil => rfl
    | cons c r =>
      have := hp c rfl
      show (c :: r).takeWhile isD = []
      rw [List.takeWhile_cons, this]
      rfl
  | cons c l ih =>
    rw [List.cons_append, List.takeWhile_cons, h c (List.mem_cons_self ..)]
    show c :: _ = _
    rw [ih fun d hd => h d (List.mem_cons_of_mem _ hd)]
theorem numL_isD (n : Nat) : ∀ c ∈ TL.numL n, isD c = true := fun c hc => by
  have h := TL.numL_digits n c hc
  unfold isD
  rw [decide_eq_true h.1, decide_eq_true h.2]
  rfl
theorem run_num {cs pre post : List Nat} {n : Nat} (h : cs = pre ++ (TL.numL n ++ post)) (hp : noD post) : run cs pre.length = (TL.numL n).length ∧ (cs.drop pre.length).take (run cs pre.length) = TL.numL n := by
  have e : cs.drop pre.length = TL.numL n ++ post := by rw [h, List.drop_left]
  have r : run cs pre.length = (TL.numL n).length := by
    unfold run
    rw [e, takeWhile_app (numL_isD n) hp]
  refine ⟨r, ?_⟩
  rw [r, e, List.take_left]
theorem valD_num (n : Nat) : valD (TL.numL n) = n := TL.numL_val n
theorem riP_back {cs pre post : List Nat} {i : Int} (hi : i.natAbs < 10 ^ 30) (h : cs = pre ++ (tx (.int i) ++ post)) (hp : noD post) : riP cs pre.length = .ok (.int i) (pre.length + (tx (.int i)).length) := by
  obtain ⟨n, en, hc⟩ := tx_int i
  have ln : (TL.numL n).length ≤ 30 := TL.numL_len (by decide) (by rw [en]; exact hi)
  have ne := TL.numL_ne n
  have l0 : (TL.numL n).length ≠ 0 := fun e => ne (List.length_eq_zero_iff.mp e)
  rcases hc with ⟨ei, et⟩ | ⟨ei, n0, et⟩
  · rw [et] at h
    obtain ⟨r1, r2⟩ := run_num h hp
    have g0 : ∃ c r, TL.numL n = c :: r ∧ (c = 48 → n = 0) ∧ c ≠ 45 := by
      cases hn : TL.numL n with
      | nil => exact absurd hn ne
      | cons c r =>
        refine ⟨c, r, rfl, fun e => ?_, fun e => ?_⟩
        · by_cases z : n = 0
          · exact z
          · obtain ⟨c', r', e', h'⟩ := numL_head n (by omega)
            rw [hn] at e'
            cases e'
            omega
        · have := TL.numL_digits n c (by rw [hn]; exact List.mem_cons_self ..)
          omega
    obtain ⟨c, r, hn, h48, h45⟩ := g0
    have g1 : cs[pre.length]? = some c := get_mid (r := r ++ post) (by rw [h, hn]; rfl)
    have b1 : begins cs pre.length = pre.length := by
      unfold begins
      rw [if_neg (by rw [g1]; intro z; cases z; exact h45 rfl)]
    unfold riP
    dsimp only
    rw [b1, if_neg (by rw [r1]; exact l0)]
    by_cases z : n = 0
    · have n0 : TL.numL n = [48] := by rw [z]; exact TL.numL_lt (by decide)
      rw [n0] at hn
      cases hn
      rw [if_pos g1, if_neg (Nat.lt_irrefl _), et, n0, ei, z]
      rfl
    · rw [if_neg (by rw [g1]; intro q; cases q; exact z (h48 rfl)), if_neg (by rw [r1]; omega)]
      unfold intAt
      rw [if_neg (by rw [g1]; intro q; cases q; exact h45 rfl), b1, r2, valD_num, et, ← ei, r1]
  · rw [et] at h
    have g1 : cs[pre.length]? = some 45 := get_mid (r := TL.numL n ++ post) h
    have h2 : cs = (pre ++ [45]) ++ (TL.numL n ++ post) := by rw [h]; simp
    obtain ⟨r1, r2⟩ := run_num h2 hp
    rw [List.length_append, List.length_singleton] at r1 r2
    obtain ⟨c, r, hn, hc⟩ := numL_head n n0
    have g2 : cs[pre.length + 1]? = some c := by
      have := get_mid (cs := cs) (pre := pre ++ [45]) (c := c) (r := r ++ post) (by rw [h2, hn]; rfl)
      rw [List.length_append, List.length_singleton] at this
      exact this
    have b1 : begins cs pre.length = pre.length + 1 := by
      unfold begins
      rw [if_pos g1]
    unfold riP
    dsimp only
    rw [b1, if_neg (by rw [r1]; exact l0), if_neg (by rw [g2]; intro q; cases q; omega), if_neg (by rw [r1]; omega)]
    unfold intAt
    rw [if_pos g1, b1, r2, valD_num, et, ← ei, r1, List.length_cons]
    congr 1
    omega
theorem tx_head (u : U) (h : pl u) : ∃ c r, tx u = c :: r ∧ c ≠ 41 := by
  cases u with
  | non => exact ⟨46, [], by simp only [tx], by decide⟩
  | int i =>
    obtain ⟨n, en, hc⟩ := tx_int i
    rcases hc with ⟨ei, et⟩ | ⟨ei, n0, et⟩
    · cases hn : TL.numL n with
      | nil => exact absurd hn (TL.numL_ne n)
      | cons c r =>
        refine ⟨c, r, by rw [et, hn], fun e => ?_⟩
        have := TL.numL_digits n c (by rw [hn]; exact List.mem_cons_self ..)
        omega
    · exact ⟨45, _, et, by decide⟩
  | str z => exact ⟨39, escP (TL.tl z) ++ [39], by simp only [tx], by decide⟩
  | tup us => exact ⟨40, TL.joinL [44] (txs us) ++ [41], by simp only [tx], by decide⟩
  | bl _ => simp only [pl] at h
  | lst _ => simp only [pl] at h
  | dct _ => simp only [pl] at h
  | exc => simp only [pl] at h
theorem rdItems_back {cs : List Nat} {rd : Nat → R} : ∀ (us : List U) (u0 : U) (pre post : List Nat) (acc : List U) (n : Nat),
    (∀ u ∈ u0 :: us, ∀ pre post, cs = pre ++ (tx u ++ post) → noD post → rd pre.length = .ok u (pre.length + (tx u).length)) → us.length < n → cs = pre ++ (TL.joinL [44] (txs (u0 :: us)) ++ 41 :: post) →
    rdItems cs rd n pre.length acc = .ok (.tup (acc ++ u0 :: us)) (pre.length + (TL.joinL [44] (txs (u0 :: us))).length + 1)
  | [], u0, pre, post, acc, n, hr, hn, h => by
    obtain ⟨m, rfl⟩ : ∃ m, n = m + 1 := ⟨n - 1, by omega⟩
    have e : TL.joinL [44] (txs [u0]) = tx u0 := rfl
    rw [e] at h ⊢
    have r1 := hr u0 (List.mem_cons_self ..) pre (41 :: post) h fun c hc => by
      cases hc
      rfl
    have h2 : cs = (pre ++ tx u0) ++ (41 :: post) := by rw [h]; simp
    have g := get_mid h2
    rw [List.length_append] at g
    unfold rdItems
    rw [r1]
    dsimp only
    rw [if_pos g]
  | u1 :: us, u0, pre, post, acc, n, hr, hn, h => by
    obtain ⟨m, rfl⟩ : ∃ m, n = m + 1 := ⟨n - 1, by omega⟩
    have e : TL.joinL [44] (txs (u0 :: u1 :: us)) = tx u0 ++ (44 :: TL.joinL [44] (txs (u1 :: us))) := rfl
    rw [e] at h ⊢
    have r1 := hr u0 (List.mem_cons_self ..) pre (44 :: (TL.joinL [44] (txs (u1 :: us)) ++ 41 :: post)) (by rw [h]; simp) fun c hc => by
      cases hc
      rfl
    have h2 : cs = (pre ++ tx u0) ++ (44 :: (TL.joinL [44] (txs (u1 :: us)) ++ 41 :: post)) := by rw [h]; simp
    have g := get_mid h2
    rw [List.length_append] at g
    have h3 : cs = (pre ++ tx u0 ++ [44]) ++ (TL.joinL [44] (txs (u1 :: us)) ++ 41 :: post) := by rw [h]; simp
    have ih := rdItems_back us u1 (pre ++ tx u0 ++ [44]) post (acc ++ [u0]) m (fun u hu => hr u (List.mem_cons_of_mem _ hu)) (by simp only [List.length_cons] at hn; omega) h3
    rw [List.length_append, List.length_append, List.length_singleton] at ih
    unfold rdItems
    rw [r1]
    dsimp only
    rw [if_neg (by rw [g]; intro q; cases q), if_pos g, ih]
    simp only [List.length_append, List.length_cons, List.append_assoc, List.cons_append, List.nil_append]
    congr 1
    omega
theorem plL_all : ∀ {us : List U}, plL us → ∀ u ∈ us, pl u := fun h u hu => pl_mem h hu
theorem escP_ge (l : List Nat) : l.length ≤ (escP l).length := by
  induction l with
  | nil => exact Nat.le_refl _
  | cons c l ih =>
    rw [esc_cons, List.length_append, List.length_cons]
    split
    · simp only [List.length_cons, List.length_nil]
      omega
    · simp only [List.length_cons, List.length_nil]
      omega
theorem joinL_ge : ∀ us : List U, us.length ≤ (TL.joinL [44] (txs us)).length + 1
  | [] => Nat.zero_le _
  | [u] => by simp
  | u :: u1 :: us => by
    have ih := joinL_ge (u1 :: us)
    have e : TL.joinL [44] (txs (u :: u1 :: us)) = tx u ++ (44 :: TL.joinL [44] (txs (u1 :: us))) := rfl
    rw [e, List.length_append]
    simp only [List.length_cons] at *
    omega
theorem rdThing_back {cs : List Nat} : ∀ (k : Nat) (u : U) (pre post : List Nat), pl u → dpt u ≤ k → cs = pre ++ (tx u ++ post) → noD post → rdThing cs (riP cs) k pre.length = .ok u (pre.length + (tx u).length) := by
  intro k
  induction k with
  | zero =>
    intro u pre post hp hd h hn
    cases u with
    | non =>
      have g : cs[pre.length]? = some 46 := get_mid (r := post) (by rw [h]; simp only [tx]; rfl)
      unfold rdThing
      rw [g]
      dsimp only
      rw [if_pos rfl]
      rfl
    | int i =>
      have hi : i.natAbs < 10 ^ 30 := by simpa only [pl] using hp
      have r := riP_back hi h hn
      obtain ⟨n, en, hc⟩ := tx_int i
      obtain ⟨c, r2, e2, h46, h39, h40⟩ : ∃ c r, tx (.int i) = c :: r ∧ c ≠ 46 ∧ c ≠ 39 ∧ c ≠ 40 := by
        rcases hc with ⟨ei, et⟩ | ⟨ei, n0, et⟩
        · cases hq : TL.numL n with
          | nil => exact absurd hq (TL.numL_ne n)
          | cons c r =>
            have := TL.numL_digits n c (by rw [hq]; exact List.mem_cons_self ..)
            exact ⟨c, r, by rw [et, hq], by omega, by omega, by omega⟩
        · exact ⟨45, _, et, by decide, by decide, by decide⟩
      have g : cs[pre.length]? = some c := get_mid (r := r2 ++ post) (by rw [h, e2]; rfl)
      unfold rdThing
      rw [g]
      dsimp only
      rw [if_neg h46, if_neg h39, if_neg h40, r]
    | str z =>
      have hz : (TL.tl z).all okW = true := by simpa only [pl] using hp
      have e : tx (.str z) = 39 :: (escP (TL.tl z) ++ [39]) := by simp only [tx]
      have h1 : cs = pre ++ (39 :: (escP (TL.tl z) ++ 39 :: post)) := by rw [h, e]; simp
      have g := get_mid h1
      have h2 : cs = (pre ++ [39]) ++ (escP (TL.tl z) ++ 39 :: post) := by rw [h1]; simp
      have lz : (TL.tl z).length < cs.length := by
        have := escP_ge (TL.tl z)
        rw [h2]
        simp only [List.length_append, List.length_cons, List.length_nil]
        omega
      have r := rdStr_back (cs := cs) (post := post) (TL.tl z) (pre ++ [39]) [] cs.length (List.all_eq_true.mp hz) lz h2
      rw [List.length_append, List.length_singleton, List.nil_append] at r
      unfold rdThing
      rw [g]
      dsimp only
      rw [if_neg (by decide), if_pos rfl, r, e]
      rw [show mkS (TL.tl z) = z from TL.ext_tl rfl]
      simp only [List.length_append, List.length_cons, List.length_nil]
      congr 1
      omega
    | tup us =>
      simp only [dpt] at hd
      omega
    | bl _ => simp only [pl] at hp
    | lst _ => simp only [pl] at hp
    | dct _ => simp only [pl] at hp
    | exc => simp only [pl] at hp
  | succ k ih =>
    intro u pre post hp hd h hn
    cases u with
    | non =>
      have g : cs[pre.length]? = some 46 := get_mid (r := post) (by rw [h]; simp only [tx]; rfl)
      unfold rdThing
      rw [g]
      dsimp only
      rw [if_pos rfl]
      rfl
    | int i =>
      have hi : i.natAbs < 10 ^ 30 := by simpa only [pl] using hp
      have r := riP_back hi h hn
      obtain ⟨n, en, hc⟩ := tx_int i
      obtain ⟨c, r2, e2, h46, h39, h40⟩ : ∃ c r, tx (.int i) = c :: r ∧ c ≠ 46 ∧ c ≠ 39 ∧ c ≠ 40 := by
        rcases hc with ⟨ei, et⟩ | ⟨ei, n0, et⟩
        · cases hq : TL.numL n with
          | nil => exact absurd hq (TL.numL_ne n)
          | cons c r =>
            have := TL.numL_digits n c (by rw [hq]; exact List.mem_cons_self ..)
            exact ⟨c, r, by rw [et, hq], by omega, by omega, by omega⟩
        · exact ⟨45, _, et, by decide, by decide, by decide⟩
      have g : cs[pre.length]? = some c := get_mid (r := r2 ++ post) (by rw [h, e2]; rfl)
      unfold rdThing
      rw [g]
      dsimp only
      rw [if_neg h46, if_neg h39, if_neg h40, r]
    | str z =>
      have hz : (TL.tl z).all okW = true := by simpa only [pl] using hp
      have e : tx (.str z) = 39 :: (escP (TL.tl z) ++ [39]) := by simp only [tx]
      have h1 : cs = pre ++ (39 :: (escP (TL.tl z) ++ 39 :: post)) := by rw [h, e]; simp
      have g := get_mid h1
      have h2 : cs = (pre ++ [39]) ++ (escP (TL.tl z) ++ 39 :: post) := by rw [h1]; simp
      have lz : (TL.tl z).length < cs.length := by
        have := escP_ge (TL.tl z)
        rw [h2]
        simp only [List.length_append, List.length_cons, List.length_nil]
        omega
      have r := rdStr_back (cs := cs) (post := post) (TL.tl z) (pre ++ [39]) [] cs.length (List.all_eq_true.mp hz) lz h2
      rw [List.length_append, List.length_singleton, List.nil_append] at r
      unfold rdThing
      rw [g]
      dsimp only
      rw [if_neg (by decide), if_pos rfl, r, e]
      rw [show mkS (TL.tl z) = z from TL.ext_tl rfl]
      simp only [List.length_append, List.length_cons, List.length_nil]
      congr 1
      omega
    | tup us =>
      have e : tx (.tup us) = 40 :: (TL.joinL [44] (txs us) ++ [41]) := by simp only [tx]
      have hpl : plL us := by simpa only [pl] using hp
      simp only [dpt] at hd
      have h1 : cs = pre ++ (40 :: (TL.joinL [44] (txs us) ++ 41 :: post)) := by rw [h, e]; simp
      have g := get_mid h1
      have h2 : cs = (pre ++ [40]) ++ (TL.joinL [44] (txs us) ++ 41 :: post) := by rw [h1]; simp
      unfold rdThing
      rw [g]
      dsimp only
      rw [if_neg (by decide), if_neg (by decide), if_pos rfl]
      cases us with
      | nil =>
        have g2 : cs[pre.length + 1]? = some 41 := by
          have := get_mid (cs := cs) (pre := pre ++ [40]) (c := 41) (r := post) h2
          rw [List.length_append, List.length_singleton] at this
          exact this
        rw [if_pos g2, e]
        rfl
      | cons u0 us =>
        obtain ⟨c, r, ec, hc⟩ := tx_head u0 hpl.1
        have g2 : cs[pre.length + 1]? = some c := by
          obtain ⟨r', er⟩ : ∃ r', TL.joinL [44] (txs (u0 :: us)) ++ 41 :: post = c :: r' := by
            cases us with
            | nil => exact ⟨r ++ 41 :: post, by show tx u0 ++ 41 :: post = _; rw [ec]; rfl⟩
            | cons u1 us => exact ⟨_, by show (tx u0 ++ (44 :: TL.joinL [44] (txs (u1 :: us)))) ++ 41 :: post = _; rw [ec]; rfl⟩
          have := get_mid (cs := cs) (pre := pre ++ [40]) (c := c) (r := r') (by rw [h2, er])
          rw [List.length_append, List.length_singleton] at this
          exact this
        have lu : us.length < cs.length := by
          have := joinL_ge (u0 :: us)
          rw [h2]
          simp only [List.length_append, List.length_cons, List.length_nil] at *
          omega
        have r := rdItems_back (cs := cs) (rd := rdThing cs (riP cs) k) us u0 (pre ++ [40]) post [] cs.length
          (fun u hu pre' post' h' hn' => ih u pre' post' (pl_mem hpl hu) (by have := dpt_mem hu; omega) h' hn') lu h2
        rw [List.length_append, List.length_singleton, List.nil_append] at r
        rw [if_neg (by rw [g2]; intro q; cases q; exact hc rfl), r, e]
        simp only [List.length_append, List.length_cons, List.length_nil]
        congr 1
        omega
    | bl _ => simp only [pl] at hp
    | lst _ => simp only [pl] at hp
    | dct _ => simp only [pl] at hp
    | exc => simp only [pl] at hp
/-- a whole text read back -/
theorem whole_back {u : U} (hp : pl u) (hd : dpt u ≤ 30) : whole (tx u) (rdThing (tx u) (riP (tx u)) 30 0) = .inl u := by
  have r := rdThing_back (cs := tx u) 30 u [] [] hp hd (by simp) (fun c hc => by cases hc)
  rw [show ([] : List Nat).length = 0 from rfl] at r
  rw [r]
  unfold whole
  dsimp only
  rw [if_pos (Nat.zero_add _)]
end Ht
/-! the program's readers: a string, an integer -/
namespace Ht
open PySem PySem.Spec PyProof.Rows L2 Hu Evl
abbrev sUnpacked : Stmt := topS 18
abbrev sReadThing : Stmt := topS 19
abbrev sReadTuple : Stmt := topS 20
abbrev sReadStr : Stmt := topS 21
abbrev sReadInt : Stmt := topS 22
def sg (c : Nat) : Str := ⟨#[c]⟩
/-- what a reader of the program's tells -/
def Told (CB : Addr) (r : R) (H : Hp) (Q : VK) (E : XK) : Prop := match r with
  | .ok u q => ∀ (v : V) (t : Addr) (H' : Hp), Same H H' → Od H' v u → H' t = some (.tup [v, .int (q : Int)]) → Q (.ref t) H'
  | .bad e => ∀ (d : Addr) (H' : Hp), Same H H' → H' d = some (.xd [("place", .int (e : Int))]) → E (.ref CB) (some d) H'
theorem Told.ok {CB : Addr} {r : R} {u : U} {q : Nat} {H : Hp} {Q : VK} {E : XK} (k : Told CB r H Q E) (e : r = .ok u q) : ∀ (v : V) (t : Addr) (H' : Hp), Same H H' → Od H' v u → H' t = some (.tup [v, .int (q : Int)]) → Q (.ref t) H' := by
  subst e
  exact k
theorem Told.bad {CB : Addr} {r : R} {q : Nat} {H : Hp} {Q : VK} {E : XK} (k : Told CB r H Q E) (e : r = .bad q) : ∀ (d : Addr) (H' : Hp), Same H H' → H' d = some (.xd [("place", .int (q : Int))]) → E (.ref CB) (some d) H' := by
  subst e
  exact k
theorem dI (a b : Nat) : decide (V.int (a : Int) = V.int (b : Int)) = decide (a = b) := decide_eq_decide.mpr ⟨fun h => by injection h; omega, fun h => by rw [h]⟩
theorem dL (a b : Nat) : decide ((a : Int) < (b : Int)) = decide (a < b) := decide_eq_decide.mpr (by omega)
theorem dS {w : Str} {k : Nat} (c : Nat) (hw : w = sg k) : decide (V.str ⟨#[c]⟩ = V.str w) = decide (c = k) := by
  subst hw
  exact decide_eq_decide.mpr ⟨fun h => by injection h with h; injection h with h; injection h with h; injection h, fun h => by rw [h]; rfl⟩
theorem ge_len {cs : List Nat} {p : Nat} (h : cs[p]? = none) : cs.length ≤ p := List.getElem?_eq_none_iff.mp h
section
variable {σ : L2.St} {H : Hp} {te to ti : TE} {K : PySem.W.Frag}
abbrev tLen (te : TE) : TE := tCB (fun xs H Q => ∃ z, xs = [V.str z] ∧ z.length ≤ sizeLine ∧ Q (.int z.length) H) (tCons te tNil)
theorem ev_lenS {z : Str} (h : Ev te σ H (.str z)) (hz : z.length ≤ 100000) : Ev (tLen te) σ H (.int (z.length : Int)) := ev_cb (ea_cons h ea_nil) fun H1 _ Q q => ⟨z, rfl, sz_of hz, q H1 (Ex.refl H1)⟩
abbrev tIxS (to ti : TE) : TE := tOp rIxS to ti
theorem ev_ixS {z : Str} {p c : Nat} (h : Ev to σ H (.str z)) (hi : Ev ti σ H (.int (p : Int))) (hz : z.length ≤ 100000) (hc : (TL.tl z)[p]? = some c) : Ev (tIxS to ti) σ H (.str ⟨#[c]⟩) := ev_op h hi (rv_ixS hz (atI_nat hc))
/-- text[place] == one sign -/
theorem et_sign {z w : Str} {p c k : Nat} (h : Ev to σ H (.str z)) (hi : Ev ti σ H (.int (p : Int))) (hz : z.length ≤ 100000) (hc : (TL.tl z)[p]? = some c) (hw : w = sg k) : EvT (tTest (tOp rEq (tIxS to ti) (tC (.str w)))) σ H (decide (c = k)) :=
  et_is (et_test (ev_op (ev_ixS h hi hz hc) ev_c (rv_eq rfl))) (dS c hw)
theorem et_nsign {z w : Str} {p c k : Nat} (h : Ev to σ H (.str z)) (hi : Ev ti σ H (.int (p : Int))) (hz : z.length ≤ 100000) (hc : (TL.tl z)[p]? = some c) (hw : w = sg k) : EvT (tTest (tOp rNe (tIxS to ti) (tC (.str w)))) σ H (!decide (c = k)) :=
  et_is (et_test (ev_op (ev_ixS h hi hz hc) ev_c (rv_ne rfl))) (by rw [dS c hw])
theorem et_end {z : Str} {p : Nat} (h : Ev to σ H (.str z)) (hi : Ev ti σ H (.int (p : Int))) (hz : z.length ≤ 100000) : EvT (tTest (tOp rEq ti (tLen to))) σ H (decide (p = z.length)) :=
  et_is (et_test (ev_op hi (ev_lenS h hz) (rv_eq rfl))) (dI p z.length)
theorem et_lt {z : Str} {p : Nat} (h : Ev to σ H (.str z)) (hi : Ev ti σ H (.int (p : Int))) (hz : z.length ≤ 100000) : EvT (tTest (tOp (rI0 fun i j => .bl (decide (i < j))) ti (tLen to))) σ H (decide (p < z.length)) :=
  et_is (et_test (ev_op hi (ev_lenS h hz) rv_I0)) (dL p z.length)
abbrev rInS : R2 := fun x y H Q => ∃ (c : Nat) (z : Str), x = .str ⟨#[c]⟩ ∧ y = .str z ∧ Q (.bl (decide (c ∈ z.cps.toList))) H
abbrev rNiS : R2 := fun x y H Q => ∃ (c : Nat) (z : Str), x = .str ⟨#[c]⟩ ∧ y = .str z ∧ Q (.bl (!decide (c ∈ z.cps.toList))) H
theorem et_in {z w : Str} {p c : Nat} (h : Ev to σ H (.str z)) (hi : Ev ti σ H (.int (p : Int))) (hz : z.length ≤ 100000) (hc : (TL.tl z)[p]? = some c) : EvT (tTest (tOp rInS (tIxS to ti) (tC (.str w)))) σ H (decide (c ∈ TL.tl w)) :=
  et_test (ev_op (ev_ixS h hi hz hc) ev_c fun H1 _ Q q => ⟨c, w, rfl, rfl, q H1 (Ex.refl H1)⟩)
theorem et_ni {z w : Str} {p c : Nat} (h : Ev to σ H (.str z)) (hi : Ev ti σ H (.int (p : Int))) (hz : z.length ≤ 100000) (hc : (TL.tl z)[p]? = some c) : EvT (tTest (tOp rNiS (tIxS to ti) (tC (.str w)))) σ H (!decide (c ∈ TL.tl w)) :=
  et_test (ev_op (ev_ixS h hi hz hc) ev_c fun H1 _ Q q => ⟨c, w, rfl, rfl, q H1 (Ex.refl H1)⟩)
theorem ev_joinV {a : Str} {p : Addr} {ys : List Str} (h : Ev to σ H (.str a)) (he : Ev te σ H (.ref p)) (hp : H p = some (.lst (ys.map V.str))) (hz : (ys.map (·.length)).sum + ys.length * a.length ≤ 16777216) :
    Ev (tM1 (fun x xs H Q => ∃ a p, ∃ ys : List Str, x = .str a ∧ xs = [.ref p] ∧ (SqL K H p (ys.map V.str) ∨ SqT K H p (ys.map V.str)) ∧ (ys.map (·.length)).sum + ys.length * a.length ≤ 16777216 ∧ Q (.str (Txt.join a ys)) H) to te) σ H (.str (Txt.join a ys)) := fun H1 e Q q =>
  h H1 e _ fun H2 e2 => ⟨⟨a, rfl⟩, he H2 (e.trans e2) _ fun H3 e3 => ⟨a, p, ys, rfl, rfl, .inl (sq_of (((e.trans e2).trans e3) _ _ hp)), hz, q H3 (e2.trans e3)⟩⟩
end
theorem q_tl : TL.tl ("'~" : Str) = [39, 126] := by decide +kernel
theorem s39 : ("'" : Str) = sg 39 := by decide +kernel
theorem s126 : ("~" : Str) = sg 126 := by decide +kernel
section
variable {P : Program} {w : World} {K : PySem.W.Frag} {mg : Str → Option Value} {base : Heap}
def spRS (CB : Addr) : Sp := fun vs H Q E => ∃ (z : Str) (p : Nat), vs = [.str z, .int (p : Int)] ∧ z.length ≤ 20000 ∧ 1 ≤ p ∧ p ≤ z.length ∧ Told CB (rdStr (TL.tl z) (TL.tl z).length p []) H Q E
theorem scRS : FnScope ["text", "place", "signs"] ["text", "place"] (defScope sReadStr) := ⟨rfl, rfl, rfl, by decide +kernel, rfl, by decide +kernel, by decide +kernel⟩
theorem ok_RS {f f2 fI CB : Addr} {fd d2 dI : FuncData} (F : Fun K "_read_string" "_read_string" sReadStr f fd) (B : Bt mg) (D2 : Df K mg "is_signs" sIsSigns ["thing"] f2 d2) (EB : Bx K mg CB fI dI) : FnOk P w K mg base (L2.CX P w) 3 f fd ["text", "place"] (spRS CB) := by
  have GI : FnOk P w K mg base CX0 1 fI dI ["self", "place"] (spBI K CB) := ok_BI EB
  have G2 : FnOk P w K mg base CX0 1 f2 d2 ["thing"] (spO sgU) := ok_isSignsO D2.F B
  refine F.okX scRS (fun vs H Q E h => ?_) (fun cdv A outer s H vs Q E hr h => ?_)
  · obtain ⟨z, p, rfl, _⟩ := h
    rfl
  obtain ⟨z, p0, rfl, hz, hp1, hp2, k⟩ := h
  refine ⟨_, pss_cons (ps_set (i := 2) scRS.nd rfl (.inl rfl) (pe_lst pa_nil))
    (pss_cons (ps_while (passes_of rfl) (PW.pt (pw_and (pt_cmpR op_lt (pv 1) (pe_callB call_len_str (by rfl) B.len PySem.boot_len (pa_cons (pv 0) pa_nil)) (nomark _)) (pw_and1 (pt_cmpR op_ne (pe_ix ix_str (pv 0) (pv 1) (fun _ _ => rfl)) pe_str (nomark _)))))
      (pss_cons (ps_if (pt_cmpR op_eq (pe_ix ix_str (pv 0) (pv 1) (fun _ _ => rfl)) pe_str (nomark _))
          (pss_cons (ps_aug (i := 1) scRS.nd rfl (.inl rfl) pe_int ip_add)
          (pss_one (ps_if (PW.pt (pw_or (pt_cmpR op_eq (pv 1) (pe_callB call_len_str (by rfl) B.len PySem.boot_len (pa_cons (pv 0) pa_nil)) (nomark _)) (pw_or1 (pt_cmpR op_notIn_sign (pe_ix ix_str (pv 0) (pv 1) (fun _ _ => rfl)) pe_str (by rfl)))))
            (pss_one (ps_raise rfl (takes_of rfl rfl rfl rfl) (pmk_oex EB.T EB.iC EB.tI GI hr EB.b .nil pass0 (by rfl) EB.g (pa_cons (pv 1) pa_nil)))) pss_nil)))
          (pss_one (ps_if (pt_not (pt_val (pe_call G2 (hr.mono (by decide)) (by rfl) D2.g D2.F.kp D2.b .nil pass0 (pa_cons (pe_ix ix_str (pv 0) (pv 1) (fun _ _ => rfl)) pa_nil))))
            (pss_one (ps_raise rfl (takes_of rfl rfl rfl rfl) (pmk_oex EB.T EB.iC EB.tI GI hr EB.b .nil pass0 (by rfl) EB.g (pa_cons (pv 1) pa_nil)))) pss_nil)))
      (pss_cons (ps_expr (pe_bm PySem.F.plainAttrs_list PySem.F.slot_list_append PySem.F.type_list_append mt_append (pv 2) (pa_cons (pe_ix ix_str (pv 0) (pv 1) (fun _ _ => rfl)) pa_nil)))
      (pss_one (ps_aug (i := 1) scRS.nd rfl (.inl rfl) pe_int ip_add)))))
    (pss_cons (ps_if (pt_cmpR op_eq (pv 1) (pe_callB call_len_str (by rfl) B.len PySem.boot_len (pa_cons (pv 0) pa_nil)) (nomark _))
      (pss_one (ps_raise rfl (takes_of rfl rfl rfl rfl) (pmk_oex EB.T EB.iC EB.tI GI hr EB.b .nil pass0 (by rfl) EB.g (pa_cons (pv 1) pa_nil)))) pss_nil)
    (pss_one (ps_ret (pe_tup (pa_cons (pe_join pe_str (pv 2)) (pa_cons (pe_op op_add (pv 1) pe_int) pa_nil))))))), ?_⟩
  have hz1 : z.length ≤ 100000 := by omega
  have hlz := TL.len_tl z
  generalize hcs : TL.tl z = cs at k hlz
  generalize hR : rdStr cs cs.length p0 [] = R0 at k
  refine q_asgL (el_lst ea_nil (by show (0 : Nat) ≤ 100000; decide)) fun D H1 hD e1 h1 => ?_
  refine q_while (fun m σ' H' => ∃ (p : Nat) (acc : List Nat), σ' = [some (.str z), some (.int (p : Int)), some (.ref D)] ∧ Ex H H' ∧ H' D = some (.lst (acc.map fun c => V.str (sg c))) ∧ p ≤ cs.length ∧ cs.length + 1 ≤ p + m ∧ acc.length ≤ p ∧ rdStr cs m p acc = R0) cs.length
    ⟨p0, [], rfl, e1, h1, by omega, by omega, by simp, hR⟩ ?_
  rintro m σ' H' ⟨p, acc, rfl, ex, hl, hp, hm, ha, hr0⟩
  refine ⟨decide (p < z.length) && (match cs[p]? with | some c => !decide (c = 39) | none => true), et_and (et_lt (ev_var rfl) (ev_var rfl) hz1) (fun q => ?_), fun q H2 e2 => ?_, fun q H2 e2 => ?_⟩
  · have q1 := of_decide_eq_true q
    cases hc : cs[p]? with
    | none => exact absurd (ge_len hc) (by omega)
    | some c => exact et_nsign (ev_var rfl) (ev_var rfl) hz1 (by rw [hcs]; exact hc) s39
  · obtain ⟨q1, q2⟩ := Bool.and_eq_true_iff.mp q
    have q1 := of_decide_eq_true q1
    cases hc : cs[p]? with
    | none => exact absurd (ge_len hc) (by omega)
    | some c =>
      rw [hc] at q2
      have n39 : c ≠ 39 := fun e => by rw [e] at q2; cases q2
      obtain ⟨m', rfl⟩ : ∃ m', m = m' + 1 := ⟨m - 1, by omega⟩
      unfold rdStr at hr0
      rw [hc] at hr0
      dsimp only at hr0
      rw [if_neg n39] at hr0
      have hcz : (TL.tl z)[p]? = some c := by rw [hcs]; exact hc
      refine ⟨_, fun σ2 H3 hN => ⟨m', by omega, hN⟩, ?_⟩
      refine q_if (b := decide (c = 126)) (et_sign (ev_var rfl) (ev_var rfl) hz1 hcz s126) (fun q3 H3 e3 => ?_) (fun q3 H3 e3 => ?_)
      · have q3 := of_decide_eq_true q3
        rw [if_pos q3] at hr0
        refine q_aug (f := fun i j => i + j) (a := (p : Int)) (b := 1) rfl ev_c fun H4 e4 => ?_
        have ep : ((p : Int) + 1) = ((p + 1 : Nat) : Int) := by omega
        show tIfS _ _ _ _ [some (.str z), some (.int ((p : Int) + 1)), some (.ref D)] H4
        rw [ep]
        have E4 : Ex H H4 := ((ex.trans e2).trans e3).trans e4
        have hl4 : H4 D = some (.lst (acc.map fun c => V.str (sg c))) := e4 _ _ (e3 _ _ (e2 _ _ hl))
        cases hd : cs[p + 1]? with
        | none =>
          rw [hd] at hr0
          have hlen := ge_len hd
          refine s_if (b := true) (et_or (a := true) (b := true) (et_is (et_end (ev_var rfl) (ev_var rfl) hz1) (decide_eq_true (by omega))) (fun q => by cases q)) (fun _ H5 e5 => ?_) (fun q => by cases q)
          exact rd_bad (ev_var rfl) fun H6 d e6 _ h6 => k.bad hr0.symm d H6 ((E4.trans e5).trans e6) h6
        | some d =>
          rw [hd] at hr0
          dsimp only at hr0
          have hlen := (List.getElem?_eq_some_iff.mp hd).1
          have hdz : (TL.tl z)[p + 1]? = some d := by rw [hcs]; exact hd
          refine s_if (b := false || !decide (d ∈ TL.tl ("'~" : Str))) (et_or (a := false) (et_is (et_end (ev_var rfl) (ev_var rfl) hz1) (decide_eq_false (by omega))) (fun _ => et_ni (ev_var rfl) (ev_var rfl) hz1 hdz)) (fun q5 H5 e5 => ?_) (fun q5 H5 e5 => ?_)
          · rw [q_tl, Bool.false_or] at q5
            have nd : ¬ (d = 39 ∨ d = 126) := fun z => by
              have : d ∈ [39, 126] := by simpa using z
              rw [decide_eq_true this] at q5
              cases q5
            rw [if_neg nd] at hr0
            exact rd_bad (ev_var rfl) fun H6 d e6 _ h6 => k.bad hr0.symm d H6 ((E4.trans e5).trans e6) h6
          · rw [q_tl, Bool.false_or] at q5
            have yd : d = 39 ∨ d = 126 := by
              by_cases z : d ∈ [39, 126]
              · simpa using z
              · rw [decide_eq_false z] at q5
                cases q5
            rw [if_pos yd] at hr0
            refine q_app (K := K) (e5 _ _ hl4) (ev_var rfl) (ev_ixS (ev_var rfl) (ev_var rfl) hz1 hdz) (by rw [List.length_map]; omega) fun H6 e6 => ?_
            refine s_aug (f := fun i j => i + j) (a := ((p + 1 : Nat) : Int)) (b := 1) rfl ev_c fun H7 e7 => ?_
            refine ⟨p + 2, acc ++ [d], ?_, fun a o ha => e7 _ _ (by rw [upd_ne (ne_of_none ha hD)]; exact e6 _ _ (e5 _ _ (E4 _ _ ha))), ?_, by omega, by omega, by rw [List.length_append, List.length_singleton]; omega, hr0⟩
            · show [some (V.str z), some (.int (((p + 1 : Nat) : Int) + 1)), some (.ref D)] = _
              rw [show (((p + 1 : Nat) : Int) + 1) = ((p + 2 : Nat) : Int) by omega]
            · rw [List.map_append]
              exact e7 _ _ upd_same
      · have q3 := of_decide_eq_false q3
        rw [if_neg q3] at hr0
        have E3 : Ex H H3 := (ex.trans e2).trans e3
        have hl3 : H3 D = some (.lst (acc.map fun c => V.str (sg c))) := e3 _ _ (e2 _ _ hl)
        have ok1 : sgU (.str ⟨#[c]⟩) = okW c := by
          show ([c] : List Nat).all okW = okW c
          simp
        refine s_if (b := !(sgU (.str ⟨#[c]⟩))) (et_not (et_B (ev_call (sp := spO sgU) (ea_cons (ev_ixS (ev_var rfl) (ev_var rfl) hz1 hcz) ea_nil) fun H4 e4 Q q E => ⟨_, .str ⟨#[c]⟩, rfl, .str _, by simp only [brd]; show (1 : Nat) ≤ 20000; decide, q⟩))) (fun q5 H5 e5 => ?_) (fun q5 H5 e5 => ?_)
        · rw [ok1] at q5
          have nw : ¬ (32 ≤ c ∧ c ≤ 126) := fun z => by
            unfold okW at q5
            rw [decide_eq_true z.1, decide_eq_true z.2] at q5
            cases q5
          rw [if_neg nw] at hr0
          exact rd_bad (ev_var rfl) fun H6 d e6 _ h6 => k.bad hr0.symm d H6 ((E3.trans e5).trans e6) h6
        · rw [ok1] at q5
          have yw : 32 ≤ c ∧ c ≤ 126 := by
            unfold okW at q5
            have q6 : (decide (32 ≤ c) && decide (c ≤ 126)) = true := by
              cases hh : (decide (32 ≤ c) && decide (c ≤ 126)) with
              | true => rfl
              | false => rw [hh] at q5; cases q5
            obtain ⟨a, b⟩ := Bool.and_eq_true_iff.mp q6
            exact ⟨of_decide_eq_true a, of_decide_eq_true b⟩
          rw [if_pos yw] at hr0
          refine q_app (K := K) (e5 _ _ hl3) (ev_var rfl) (ev_ixS (ev_var rfl) (ev_var rfl) hz1 hcz) (by rw [List.length_map]; omega) fun H6 e6 => ?_
          refine s_aug (f := fun i j => i + j) (a := (p : Int)) (b := 1) rfl ev_c fun H7 e7 => ?_
          refine ⟨p + 1, acc ++ [c], rfl, fun a o ha => e7 _ _ (by rw [upd_ne (ne_of_none ha hD)]; exact e6 _ _ (e5 _ _ (E3 _ _ ha))), ?_, by omega, by omega, by rw [List.length_append, List.length_singleton]; omega, hr0⟩
          rw [List.map_append]
          exact e7 _ _ upd_same
  · have E2 : Ex H H2 := ex.trans e2
    have hl2 : H2 D = some (.lst (acc.map fun c => V.str (sg c))) := e2 _ _ hl
    obtain ⟨m', rfl⟩ : ∃ m', m = m' + 1 := ⟨m - 1, by omega⟩
    unfold rdStr at hr0
    cases hc : cs[p]? with
    | none =>
      rw [hc] at hr0
      have hlen := ge_len hc
      refine q_when (b := true) (et_is (et_end (ev_var rfl) (ev_var rfl) hz1) (decide_eq_true (by omega))) (fun _ H5 e5 => ?_) (fun q => by cases q)
      exact rd_bad (ev_var rfl) fun H6 d e6 _ h6 => k.bad hr0.symm d H6 ((E2.trans e5).trans e6) h6
    | some c =>
      rw [hc] at hr0 q
      dsimp only at hr0 q
      have hlen := (List.getElem?_eq_some_iff.mp hc).1
      rw [decide_eq_true (show p < z.length by omega), Bool.true_and] at q
      have y39 : c = 39 := by
        by_cases z : c = 39
        · exact z
        · rw [decide_eq_false z] at q
          cases q
      rw [if_pos y39] at hr0
      refine q_when (b := false) (et_is (et_end (ev_var rfl) (ev_var rfl) hz1) (decide_eq_false (by omega))) (fun q => by cases q) (fun _ H5 e5 => ?_)
      obtain ⟨s1, s2⟩ := join_signs acc
      have hj : Txt.join ("" : Str) (acc.map sg) = mkS acc := TL.ext_tl (by rw [join_tl]; exact s2)
      refine s_retU (eu_tup (ea_cons (ev_is (ev_joinV (K := K) (ys := acc.map sg) ev_c (ev_var rfl) (by rw [e5 _ _ hl2, List.map_map]; rfl) (by
        have s3 : ((acc.map sg).map (·.length)).sum = acc.length := s1
        rw [s3, show (("" : Str)).length = 0 by decide +kernel]
        omega)) (congrArg V.str hj)) (ea_cons (ev_op (ev_var rfl) ev_c rv_I0) ea_nil)) (by show (2 : Nat) ≤ 100000; decide)) fun t H6 ht e6 h6 => ?_
      refine k.ok hr0.symm (.str (mkS acc)) t H6 ((E2.trans e5).trans e6) (.str _) ?_
      rw [h6, show ((p + 1 : Nat) : Int) = (p : Int) + 1 by omega]
end
end Ht
/-! the program's reader of integers -/
namespace Ht
open PySem PySem.Spec PyProof.Rows L2 Hu Evl
theorem tw_stop : ∀ (l : List Nat) (c : Nat), l[(l.takeWhile isD).length]? = some c → isD c = false
  | [], c, h => by simp at h
  | d :: l, c, h => by
    cases hd : isD d with
    | true =>
      rw [List.takeWhile_cons, hd] at h
      exact tw_stop l c h
    | false =>
      rw [List.takeWhile_cons, hd] at h
      have e : d = c := Option.some.inj h
      rw [← e]
      exact hd
theorem run_stop {cs : List Nat} {f c : Nat} (h : cs[f + run cs f]? = some c) : isD c = false := by
  refine tw_stop (cs.drop f) c ?_
  rw [List.getElem?_drop]
  exact h
theorem run_next {cs : List Nat} {f n c : Nat} (h : n ≤ run cs f) (hc : cs[f + n]? = some c) (hd : isD c = true) : n + 1 ≤ run cs f := by
  by_cases e : n = run cs f
  · rw [e] at hc
    rw [run_stop hc] at hd
    cases hd
  · omega
theorem run_end {cs : List Nat} {f n : Nat} (h : n ≤ run cs f) (he : cs[f + n]? = none ∨ ∃ c, cs[f + n]? = some c ∧ isD c = false) : n = run cs f := by
  by_cases e : n = run cs f
  · exact e
  · obtain ⟨c, h1, h2⟩ := run_digit (cs := cs) (f := f) (n := n) (by omega)
    rcases he with z | ⟨c', z, z2⟩
    · rw [h1] at z
      cases z
    · rw [h1] at z
      cases z
      rw [h2] at z2
      cases z2
theorem run_all {cs : List Nat} {f n : Nat} (h : n ≤ run cs f) : PySem.NumText.AllDigits ((cs.drop f).take n) := fun c hc => by
  obtain ⟨i, hi, e⟩ := List.getElem_of_mem hc
  have hi' : i < n := by
    rw [List.length_take] at hi
    omega
  obtain ⟨c', h1, h2⟩ := run_digit (cs := cs) (f := f) (n := i) (by omega)
  have e2 : ((cs.drop f).take n)[i]? = some c := by
    rw [List.getElem?_eq_getElem hi, e]
  rw [List.getElem?_take_of_lt hi', List.getElem?_drop, h1] at e2
  cases e2
  unfold isD at h2
  obtain ⟨a, b⟩ := Bool.and_eq_true_iff.mp h2
  exact ⟨of_decide_eq_true a, of_decide_eq_true b⟩
theorem digs_tl : TL.tl ("0123456789" : Str) = [48, 49, 50, 51, 52, 53, 54, 55, 56, 57] := by decide +kernel
theorem in_digs (c : Nat) : decide (c ∈ TL.tl ("0123456789" : Str)) = isD c := by
  rw [digs_tl]
  unfold isD
  by_cases h : 48 ≤ c ∧ c ≤ 57
  · rw [decide_eq_true h.1, decide_eq_true h.2]
    refine decide_eq_true ?_
    simp only [List.mem_cons, List.not_mem_nil, or_false]
    omega
  · have : ¬ (c ∈ [48, 49, 50, 51, 52, 53, 54, 55, 56, 57]) := by
      simp only [List.mem_cons, List.not_mem_nil, or_false]
      omega
    rw [decide_eq_false this]
    by_cases h1 : 48 ≤ c
    · rw [decide_eq_true h1, decide_eq_false (fun z => h ⟨h1, z⟩)]
      rfl
    · rw [decide_eq_false h1]
      rfl
theorem cut_tl {z : Str} {a b : Nat} (hb : b ≤ z.length) : TL.tl (cutS z (some (a : Int)) (some (b : Int))) = ((TL.tl z).drop a).take (b - a) := by
  have hl := TL.len_tl z
  show ((z.cps.toList.drop (HT.sIx z.length 0 (some (a : Int)))).take (HT.sIx z.length z.length (some (b : Int)) - HT.sIx z.length 0 (some (a : Int)))) = _
  rw [HT.sIx_nat, HT.sIx_nat, Nat.min_eq_left hb]
  by_cases h : a ≤ z.length
  · rw [Nat.min_eq_left h]
  · rw [Nat.min_eq_right (by omega)]
    have e1 : z.cps.toList.drop z.length = [] := List.drop_eq_nil_of_le (by show (TL.tl z).length ≤ _; omega)
    have e2 : (TL.tl z).drop a = [] := List.drop_eq_nil_of_le (by omega)
    rw [e1, e2]
    simp
theorem run_len {cs : List Nat} {f : Nat} (h : f ≤ cs.length) : f + run cs f ≤ cs.length := by
  have := run_le cs f
  omega
theorem int_cut {z : Str} {cs : List Nat} (hcs : TL.tl z = cs) {p n : Nat} (h1 : 1 ≤ n) (h2 : n ≤ run cs (begins cs p)) (h3 : n ≤ 600) :
    PySem.intText? (cutS z (some (p : Int)) (some ((begins cs p + n : Nat) : Int))) = some (intAt cs p n) ∧ (cutS z (some (p : Int)) (some ((begins cs p + n : Nat) : Int))).length ≤ 640 := by
  have hl := TL.len_tl z
  rw [hcs] at hl
  have hr := run_le cs (begins cs p)
  have hg := begins_ge cs p
  have hb : begins cs p + n ≤ z.length := by omega
  have hne : ((cs.drop (begins cs p)).take n) ≠ [] := fun e => by
    have := congrArg List.length e
    rw [List.length_take, List.length_drop] at this
    simp only [List.length_nil] at this
    omega
  have hd := run_all h2
  have ht := cut_tl (z := z) (a := p) hb
  rw [hcs] at ht
  have hlen : (cutS z (some (p : Int)) (some ((begins cs p + n : Nat) : Int))).length ≤ 640 := by
    rw [TL.len_tl, ht, List.length_take]
    omega
  refine ⟨?_, hlen⟩
  unfold intAt
  by_cases hm : cs[p]? = some 45
  · rw [if_pos hm]
    have hbg : begins cs p = p + 1 := by
      unfold begins
      rw [if_pos hm]
    rw [hbg] at ht hne hd hlen ⊢
    have hp := (List.getElem?_eq_some_iff.mp hm).1
    have e : (cs.drop p).take (p + 1 + n - p) = 45 :: ((cs.drop (p + 1)).take n) := by
      rw [show p + 1 + n - p = n + 1 by omega, List.drop_eq_getElem_cons hp, List.take_succ_cons]
      congr 1
      have := (List.getElem?_eq_some_iff.mp hm).2
      exact this
    rw [e] at ht
    exact PySem.intText_neg ht hd hne (by omega)
  · rw [if_neg hm]
    have hbg : begins cs p = p := by
      unfold begins
      rw [if_neg hm]
    rw [hbg] at ht hne hd hlen ⊢
    rw [show p + n - p = n by omega] at ht
    have q := PySem.intText_digits (x := cutS z (some (p : Int)) (some ((p + n : Nat) : Int))) (by rw [show (cutS z (some (p : Int)) (some ((p + n : Nat) : Int))).cps.toList = _ from ht]; exact hd)
      (by rw [show (cutS z (some (p : Int)) (some ((p + n : Nat) : Int))).cps.toList = _ from ht]; exact hne) (by omega)
    rw [show (cutS z (some (p : Int)) (some ((p + n : Nat) : Int))).cps.toList = _ from ht] at q
    exact q
theorem s45 : ("-" : Str) = sg 45 := by decide +kernel
theorem s48 : ("0" : Str) = sg 48 := by decide +kernel
section
variable {σ : L2.St} {H : Hp} {te to ti : TE} {tl th : TO} {K : PySem.W.Frag}
theorem ev_slS {z : Str} {lo hi : Option Int} (h : Ev te σ H (.str z)) (h1 : EvO tl σ H lo) (h2 : EvO th σ H hi) (hz : z.length ≤ 100000) : Ev (tSl rSlS te tl th) σ H (.str (cutS z lo hi)) := fun H1 e _ q =>
  h H1 e _ fun H2 e2 => h1 H2 (e.trans e2) _ fun H3 e3 => h2 H3 ((e.trans e2).trans e3) _ fun H4 e4 => ⟨z, rfl, sz_of hz, q H4 ((e2.trans e3).trans e4)⟩
abbrev tInt (te : TE) : TE := tCB (fun xs H Q => ∃ a n, xs = [V.str a] ∧ PySem.intText? a = some n ∧ a.length ≤ 640 ∧ Q (.int n) H) (tCons te tNil)
theorem ev_int {a : Str} {n : Int} (h : Ev te σ H (.str a)) (hn : PySem.intText? a = some n) (hl : a.length ≤ 640) : Ev (tInt te) σ H (.int n) := ev_cb (ea_cons h ea_nil) fun H1 _ Q q => ⟨a, n, rfl, hn, hl, q H1 (Ex.refl H1)⟩
end
/-- the readers' constants -/
structure Cn (mg : Str → Option Value) : Prop where
  dg : ∃ t, mg "DIGITS" = some (.str "0123456789" t)
  md : ∃ t, mg "MOST_DIGITS" = some (.int 30 t)
  dp : ∃ t, mg "DEEPEST" = some (.int 30 t)
  bd : ∃ t, mg "BOUND" = some (.int (10 ^ 30) t)
section
variable {P : Program} {w : World} {K : PySem.W.Frag} {mg : Str → Option Value} {base : Heap}
def spRI (CB : Addr) : Sp := fun vs H Q E => ∃ (z : Str) (p : Nat), vs = [.str z, .int (p : Int)] ∧ z.length ≤ 20000 ∧ p < z.length ∧ Told CB (riP (TL.tl z) p) H Q E
theorem scRI : FnScope ["text", "place", "first", "behind"] ["text", "place"] (defScope sReadInt) := ⟨rfl, rfl, rfl, by decide +kernel, rfl, by decide +kernel, by decide +kernel⟩
theorem ok_RI {f fI CB : Addr} {fd dI : FuncData} (F : Fun K "_read_integer" "_read_integer" sReadInt f fd) (B : Bt mg) (N : Cn mg) (EB : Bx K mg CB fI dI) : FnOk P w K mg base (L2.CX P w) 3 f fd ["text", "place"] (spRI CB) := by
  have GI : FnOk P w K mg base CX0 1 fI dI ["self", "place"] (spBI K CB) := ok_BI EB
  obtain ⟨t1, hDG⟩ := N.dg
  obtain ⟨t2, hMD⟩ := N.md
  refine F.okX scRI (fun vs H Q E h => ?_) (fun cdv A outer s H vs Q E hr h => ?_)
  · obtain ⟨z, p, rfl, _⟩ := h
    rfl
  obtain ⟨z, p, rfl, hz, hp, k⟩ := h
  refine ⟨_, pss_cons (ps_set (i := 2) scRI.nd rfl (.inl rfl) (pe_ifExp (pt_cmpR op_eq (pe_ix ix_str (pv 0) (pv 1) (fun _ _ => rfl)) pe_str (nomark _)) (pe_op op_add (pv 1) pe_int) (pv 1)))
    (pss_cons (ps_set (i := 3) scRI.nd rfl (.inl rfl) (pv 2))
    (pss_cons (ps_while (passes_of rfl) (PW.pt (pw_and (pt_cmpR op_lt (pv 3) (pe_callB call_len_str (by rfl) B.len PySem.boot_len (pa_cons (pv 0) pa_nil)) (nomark _)) (pw_and1 (pt_cmpR op_in_sign (pe_ix ix_str (pv 0) (pv 3) (fun _ _ => rfl)) (pe_glob (v := .str "0123456789") rfl hDG ⟨_, rfl⟩) (by rfl)))))
      (pss_one (ps_aug (i := 3) scRI.nd rfl (.inl rfl) pe_int ip_add)))
    (pss_cons (ps_if (pt_cmpR op_eq (pv 3) (pv 2) (nomark _))
      (pss_one (ps_raise rfl (takes_of rfl rfl rfl rfl) (pmk_oex EB.T EB.iC EB.tI GI hr EB.b .nil pass0 (by rfl) EB.g (pa_cons (pv 2) pa_nil)))) pss_nil)
    (pss_cons (ps_if (pt_cmpR op_eq (pe_ix ix_str (pv 0) (pv 2) (fun _ _ => rfl)) pe_str (nomark _))
      (pss_cons (ps_if (pt_cmpR op_gt (pv 2) (pv 1) (nomark _))
        (pss_one (ps_raise rfl (takes_of rfl rfl rfl rfl) (pmk_oex EB.T EB.iC EB.tI GI hr EB.b .nil pass0 (by rfl) EB.g (pa_cons (pv 2) pa_nil)))) pss_nil)
      (pss_one (ps_ret (pe_tup (pa_cons pe_int (pa_cons (pe_op op_add (pv 2) pe_int) pa_nil)))))) pss_nil)
    (pss_cons (ps_if (pt_cmpR op_gt (pe_op op_sub (pv 3) (pv 2)) (pe_glob (v := .int 30) rfl hMD ⟨_, rfl⟩) (nomark _))
      (pss_one (ps_raise rfl (takes_of rfl rfl rfl rfl) (pmk_oex EB.T EB.iC EB.tI GI hr EB.b .nil pass0 (by rfl) EB.g (pa_cons (pe_op op_add (pv 2) (pe_glob (v := .int 30) rfl hMD ⟨_, rfl⟩)) pa_nil)))) pss_nil)
    (pss_one (ps_ret (pe_tup (pa_cons (pe_callTy call_int_str (by rfl) B.int boot_int (pa_cons (pe_slice sl_str (pv 0) (po_some (pv 1)) (po_some (pv 3))) pa_nil)) (pa_cons (pv 3) pa_nil)))))))))), ?_⟩
  have hz1 : z.length ≤ 100000 := by omega
  have hlz := TL.len_tl z
  obtain ⟨c0, hc0⟩ : ∃ c, (TL.tl z)[p]? = some c := ⟨_, List.getElem?_eq_getElem (by omega)⟩
  obtain ⟨cs, hcs⟩ : ∃ cs, TL.tl z = cs := ⟨_, rfl⟩
  have hc0s : cs[p]? = some c0 := by rw [← hcs]; exact hc0
  have hk : Told CB (riP cs p) H Q E := by rw [← hcs]; exact k
  clear k
  have hlen : cs.length = z.length := by rw [← hcs]; omega
  have hbg := begins_ge cs p
  have hbe : ((begins cs p : Nat) : Int) = if c0 = 45 then (p : Int) + 1 else (p : Int) := by
    unfold begins
    rw [hc0s]
    by_cases h : c0 = 45
    · rw [if_pos h, if_pos (by rw [h])]
      omega
    · rw [if_neg h, if_neg (by intro q; cases q; exact h rfl)]
  have hrl := run_le cs (begins cs p)
  refine q_asg (v := .int ((begins cs p : Nat) : Int)) (ev_if (b := decide (c0 = 45)) (et_sign (ev_var rfl) (ev_var rfl) hz1 hc0 s45) (fun q => ev_is (ev_op (ev_var rfl) ev_c rv_I0) (by rw [hbe, if_pos (of_decide_eq_true q)])) (fun q => ev_is (ev_var rfl) (by rw [hbe, if_neg (of_decide_eq_false q)]))) fun H1 e1 => ?_
  unfold riP at hk
  dsimp only at hk
  generalize hf : begins cs p = f at hk hbg hrl hbe
  refine q_asg (v := .int (f : Int)) (ev_var rfl) fun H2 e2 => ?_
  have E2 := e1.trans e2
  refine q_while (fun m σ' H' => ∃ n : Nat, σ' = [some (.str z), some (.int (p : Int)), some (.int (f : Int)), some (.int ((f + n : Nat) : Int))] ∧ Ex H H' ∧ n ≤ run cs f ∧ m = cs.length + 1 - n) (cs.length + 1) ⟨0, rfl, E2, by omega, by omega⟩ ?_
  rintro m σ' H' ⟨n, rfl, ex, hn, rfl⟩
  refine ⟨decide (f + n < z.length) && (match cs[f + n]? with | some c => isD c | none => true), et_and (et_lt (ev_var rfl) (ev_var rfl) hz1) (fun q => ?_), fun q H3 e3 => ?_, fun q H3 e3 => ?_⟩
  · have q1 := of_decide_eq_true q
    cases hc : cs[f + n]? with
    | none => exact absurd (ge_len hc) (by omega)
    | some c => exact et_is (et_in (w := "0123456789") (ev_var rfl) (ev_var rfl) hz1 (by rw [hcs]; exact hc)) (in_digs c)
  · obtain ⟨q1, q2⟩ := Bool.and_eq_true_iff.mp q
    have q1 := of_decide_eq_true q1
    obtain ⟨c, hc⟩ : ∃ c, cs[f + n]? = some c := ⟨_, List.getElem?_eq_getElem (by omega)⟩
    rw [hc] at q2
    have hn1 := run_next hn hc q2
    refine ⟨_, fun σ2 H4 hN => ⟨cs.length + 1 - (n + 1), by omega, hN⟩, ?_⟩
    refine s_aug (f := fun i j => i + j) (a := ((f + n : Nat) : Int)) (b := 1) rfl ev_c fun H4 e4 => ⟨n + 1, ?_, (ex.trans e3).trans e4, hn1, rfl⟩
    show [some (V.str z), some (.int (p : Int)), some (.int (f : Int)), some (.int (((f + n : Nat) : Int) + 1))] = _
    rw [show (((f + n : Nat) : Int) + 1) = ((f + (n + 1) : Nat) : Int) by omega]
  · have hn2 : n = run cs f := by
      refine run_end hn ?_
      cases hc : cs[f + n]? with
      | none => exact .inl rfl
      | some c =>
        have hl := (List.getElem?_eq_some_iff.mp hc).1
        rw [hc, decide_eq_true (show f + n < z.length by omega)] at q
        exact .inr ⟨c, rfl, q⟩
    have E3 := ex.trans e3
    rw [← hn2] at hk
    refine q_when (b := decide (f + n = f)) (et_is (et_test (ev_op (ev_var rfl) (ev_var rfl) (rv_eq rfl))) (Ht.dI _ _)) (fun q2 H4 e4 => ?_) (fun q2 H4 e4 => ?_)
    · have q2 := of_decide_eq_true q2
      rw [if_pos (by omega)] at hk
      exact rd_bad (ev_var rfl) fun H6 d e6 _ h6 => hk.bad rfl d H6 ((E3.trans e4).trans e6) h6
    have q2 := of_decide_eq_false q2
    have E4 := E3.trans e4
    rw [if_neg (by omega)] at hk
    obtain ⟨c, hc⟩ : ∃ c, cs[f]? = some c := ⟨_, List.getElem?_eq_getElem (by omega)⟩
    have hcz : (TL.tl z)[f]? = some c := by rw [hcs]; exact hc
    rw [hc] at hk
    refine q_when (b := decide (c = 48)) (et_sign (ev_var rfl) (ev_var rfl) hz1 hcz s48) (fun q3 H5 e5 => ?_) (fun q3 H5 e5 => ?_)
    · have q3 := of_decide_eq_true q3
      rw [q3, if_pos rfl] at hk
      refine q_when (b := decide (p < f)) (et_is (et_test (ev_op (ev_var rfl) (ev_var rfl) rv_I0)) (by
        refine decide_eq_decide.mpr ?_
        omega)) (fun q4 H6 e6 => ?_) (fun q4 H6 e6 => ?_)
      · rw [if_pos (of_decide_eq_true q4)] at hk
        exact rd_bad (ev_var rfl) fun H7 d e7 _ h7 => hk.bad rfl d H7 (((E4.trans e5).trans e6).trans e7) h7
      · rw [if_neg (of_decide_eq_false q4)] at hk
        refine s_retU (eu_tup (ea_cons ev_c (ea_cons (ev_op (ev_var rfl) ev_c rv_I0) ea_nil)) (by show (2 : Nat) ≤ 100000; decide)) fun t H7 ht e7 h7 => ?_
        refine hk.ok rfl (.int 0) t H7 (((E4.trans e5).trans e6).trans e7) (.int 0) ?_
        rw [h7, show ((f + 1 : Nat) : Int) = (f : Int) + 1 by omega]
    · have q3 := of_decide_eq_false q3
      rw [if_neg (by intro z; cases z; exact q3 rfl)] at hk
      have E5 := E4.trans e5
      refine q_when (b := decide (30 < n)) (et_is (et_test (ev_op (ev_op (ev_var rfl) (ev_var rfl) rv_I0) ev_c rv_I0)) (by
        refine decide_eq_decide.mpr ?_
        omega)) (fun q4 H6 e6 => ?_) (fun q4 H6 e6 => ?_)
      · rw [if_pos (of_decide_eq_true q4)] at hk
        exact rd_bad (ev_op (ev_var rfl) ev_c rv_I0) fun H7 d e7 _ h7 => hk.bad rfl d H7 ((E5.trans e6).trans e7) (by rw [h7, show ((f + 30 : Nat) : Int) = (f : Int) + 30 by omega])
      · have q4 := of_decide_eq_false q4
        rw [if_neg q4] at hk
        obtain ⟨i1, i2⟩ := int_cut (z := z) hcs (p := p) (n := n) (by omega) (by rw [hf]; omega) (by omega)
        rw [hf] at i1 i2
        refine s_retU (eu_tup (ea_cons (ev_int (ev_slS (ev_var rfl) (eo_some (ev_var rfl)) (eo_some (ev_var rfl)) hz1) i1 i2) (ea_cons (ev_var rfl) ea_nil)) (by show (2 : Nat) ≤ 100000; decide)) fun t H7 ht e7 h7 => ?_
        exact hk.ok rfl (.int (intAt cs p n)) t H7 ((E5.trans e6).trans e7) (.int _) h7
end
end Ht
/-! the program's readers: things and tuples; unpacked -/
namespace Ht
open PySem PySem.Spec PyProof.Rows L2 Hu Evl
theorem Told.ex {CB : Addr} {r : R} {H H1 : Hp} {Q : VK} {E : XK} (k : Told CB r H Q E) (e : Ex H H1) : Told CB r H1 Q E := by
  cases r with
  | ok u q => exact fun v t H' s o h => k v t H' (e.trans s) o h
  | bad q => exact fun d H' s h => k d H' (e.trans s) h
section
variable {H H' : Hp}
mutual
theorem Od.tups (k : ∀ a xs, H a = some (.tup xs) → H' a = some (.tup xs)) : ∀ {u : U} {v : V}, Od H v u → sm u → Od H' v u
  | _, _, .non, _ => .non
  | _, _, .bl b, _ => .bl b
  | _, _, .int i, _ => .int i
  | _, _, .str z, _ => .str z
  | _, _, .tup h l, s => .tup (k _ _ h) (OdL.tups k l (by simpa only [sm] using s))
  | _, _, .lst h, s => by simp only [sm] at s
  | _, _, .dct h, s => by simp only [sm] at s
theorem OdL.tups (k : ∀ a xs, H a = some (.tup xs) → H' a = some (.tup xs)) : ∀ {us : List U} {vs : List V}, OdL H vs us → smL us → OdL H' vs us
  | _, _, .nil, _ => .nil
  | _, _, .cons x l, s => .cons (Od.tups k x s.1) (OdL.tups k l s.2)
end
theorem OdL.append : ∀ {us us' : List U} {vs vs' : List V}, OdL H vs us → OdL H vs' us' → OdL H (vs ++ vs') (us ++ us')
  | _, _, _, _, .nil, h => h
  | _, _, _, _, .cons x l, h => .cons x (OdL.append l h)
theorem tups_upd {D : Addr} {o : HO} {xs : List V} (h : H D = some (.lst xs)) : ∀ a ys, H a = some (.tup ys) → upd H D o a = some (.tup ys) := fun a ys e => by
  rw [upd_ne (fun z => by rw [z, h] at e; cases e)]
  exact e
end
section
variable {σ : L2.St} {H : Hp} {te to ti : TE} {ta : TA} {K : PySem.W.Frag} {D : Ends} {g : TG} {sp : Sp} {E : L2.St → XK} {vs : List V}
theorem s_retPair {xs : List V} {i : Int} (h : EvU te σ H xs) (hi : ∀ H1, Ex H H1 → Ev ti σ H1 (.int i)) (k : ∀ p t H1, Ex H H1 → H1 p = some (.tup xs) → H1 t = some (.tup [.ref p, .int i]) → D.rt (.ref t) H1) : tRet (tTup (tCons te (tCons ti tNil))) D σ H :=
  h H (Ex.refl H) _ fun p H1 hp e h1 => hi H1 e H1 (Ex.refl H1) _ fun H2 e2 => ⟨sz_of (show (2 : Nat) ≤ 100000 by decide), fun t ht => k p t _ ((e.trans e2).trans (Ex.new ht)) (by rw [upd_ne (ne_of_none (e2 _ _ h1) ht)]; exact e2 _ _ h1) upd_same⟩
abbrev tTupOf (K : PySem.W.Frag) (te : TE) : TE := tCB (fun xs H Q => ∃ p ys, xs = [V.ref p] ∧ ((SqL K H p ys ∧ ∀ l, H l = none → Q (.ref l) (upd H l (.tup ys))) ∨ (SqT K H p ys ∧ Q (.ref p) H))) (tCons te tNil)
theorem eu_tupOf {p : Addr} {ys : List V} (h : Ev te σ H (.ref p)) (hp : H p = some (.lst ys)) : EvU (tTupOf K te) σ H ys := fun H1 e Q q =>
  h H1 e _ fun H2 e2 => ⟨p, ys, rfl, .inl ⟨sq_of ((e.trans e2) _ _ hp), fun l hl => q l _ (fresh_back e2 hl) (e2.trans (Ex.new hl)) upd_same⟩⟩
theorem s_retCall (h : EvA ta σ H vs) (k : ∀ H1, Ex H H1 → sp vs H1 D.rt (E σ)) : tRet (tCallS sp E ta) D σ H := h H (Ex.refl H) _ fun H1 e => k H1 e
theorem q_asgCall {tz : TS} (h : EvA ta σ H vs) (k : ∀ H1, Ex H H1 → sp vs H1 (fun x H2 => g x σ H2 (tz D)) (E σ)) : tSeq (tAsg (tCallS sp E ta) g) tz D σ H := h H (Ex.refl H) _ fun H1 e => k H1 e
end
theorem s46 : ("." : Str) = sg 46 := by decide +kernel
theorem s40 : ("(" : Str) = sg 40 := by decide +kernel
theorem s41 : (")" : Str) = sg 41 := by decide +kernel
theorem c_tl : TL.tl (",)" : Str) = [44, 41] := by decide +kernel
/-- what _read_tuple tells -/
def rdTup (cs : List Nat) (k p : Nat) : R := if cs[p]? = some 41 then .ok (.tup []) (p + 1) else rdItems cs (rdThing cs (riP cs) k) cs.length p []
section
variable {P : Program} {w : World} {K : PySem.W.Frag} {mg : Str → Option Value} {base : Heap}
def spRT (CB : Addr) (k : Nat) : Sp := fun vs H Q E => ∃ (z : Str) (p d : Nat), vs = [.str z, .int (p : Int), .int (d : Int)] ∧ d + k = 30 ∧ z.length ≤ 20000 ∧ p ≤ z.length ∧ Told CB (rdThing (TL.tl z) (riP (TL.tl z)) k p) H Q E
def spRTu (CB : Addr) (k : Nat) : Sp := fun vs H Q E => ∃ (z : Str) (p d : Nat), vs = [.str z, .int (p : Int), .int (d : Int)] ∧ d + k = 30 ∧ z.length ≤ 20000 ∧ 1 ≤ p ∧ p ≤ z.length ∧ Told CB (rdTup (TL.tl z) k p) H Q E
def spRTuP (CB : Addr) : Nat → Sp
  | 0 => fun _ _ _ _ => False
  | k + 1 => spRTu CB k
theorem scRT : FnScope ["text", "place", "depth"] ["text", "place", "depth"] (defScope sReadThing) := ⟨rfl, rfl, rfl, by decide +kernel, rfl, by decide +kernel, by decide +kernel⟩
theorem scRTu : FnScope ["text", "place", "depth", "thing", "things"] ["text", "place", "depth"] (defScope sReadTuple) := ⟨rfl, rfl, rfl, by decide +kernel, rfl, by decide +kernel, by decide +kernel⟩
theorem ok_RT {f fT fS fN f2 fI CB : Addr} {fd dT dS dN d2 dI : FuncData} (F : Fun K "_read_thing" "_read_thing" sReadThing f fd) (B : Bt mg) (N : Cn mg) (EB : Bx K mg CB fI dI) (DT : Df K mg "_read_tuple" sReadTuple ["text", "place", "depth"] fT dT) (DS : Df K mg "_read_string" sReadStr ["text", "place"] fS dS)
    (DN : Df K mg "_read_integer" sReadInt ["text", "place"] fN dN) (D2 : Df K mg "is_signs" sIsSigns ["thing"] f2 d2) (k : Nat) (G : FnOk P w K mg base (L2.CX P w) (3 + 2 * k) fT dT ["text", "place", "depth"] (spRTuP CB k)) : FnOk P w K mg base (L2.CX P w) (3 + 2 * k + 1) f fd ["text", "place", "depth"] (spRT CB k) := by
  have GI : FnOk P w K mg base CX0 1 fI dI ["self", "place"] (spBI K CB) := ok_BI EB
  have GS : FnOk P w K mg base (L2.CX P w) 3 fS dS ["text", "place"] (spRS CB) := ok_RS DS.F B D2 EB
  have GN : FnOk P w K mg base (L2.CX P w) 3 fN dN ["text", "place"] (spRI CB) := ok_RI DN.F B N EB
  obtain ⟨t1, hDP⟩ := N.dp
  refine F.okX scRT (fun vs H Q E h => ?_) (fun cdv A outer s H vs Q E hr h => ?_)
  · obtain ⟨z, p, d, rfl, _⟩ := h
    rfl
  obtain ⟨z, p, d, rfl, hdk, hz, hp, hk⟩ := h
  have hr3 : Room 3 (A.deeper (envOfC "_read_thing" (defScope sReadThing) s.heap.objs.size f cdv)) := hr.mono (by omega)
  refine ⟨_, pss_cons (ps_if (pt_cmpR op_eq (pv 1) (pe_callB call_len_str (by rfl) B.len PySem.boot_len (pa_cons (pv 0) pa_nil)) (nomark _))
      (pss_one (ps_raise rfl (takes_of rfl rfl rfl rfl) (pmk_oex EB.T EB.iC EB.tI GI (hr3.mono (by decide)) EB.b .nil pass0 (by rfl) EB.g (pa_cons (pv 1) pa_nil)))) pss_nil)
    (pss_cons (ps_if (pt_cmpR op_eq (pe_ix ix_str (pv 0) (pv 1) (fun _ _ => rfl)) pe_str (nomark _)) (pss_one (ps_ret (pe_tup (pa_cons pe_non (pa_cons (pe_op op_add (pv 1) pe_int) pa_nil))))) pss_nil)
    (pss_cons (ps_if (pt_cmpR op_eq (pe_ix ix_str (pv 0) (pv 1) (fun _ _ => rfl)) pe_str (nomark _))
      (pss_one (ps_ret (pe_callS GS hr3 rfl DS.g DS.F.kp DS.b (fun σ => passAt (takes_of rfl rfl rfl rfl) σ) (pa_cons (pv 0) (pa_cons (pe_op op_add (pv 1) pe_int) pa_nil))))) pss_nil)
    (pss_cons (ps_if (pt_cmpR op_ne (pe_ix ix_str (pv 0) (pv 1) (fun _ _ => rfl)) pe_str (nomark _))
      (pss_one (ps_ret (pe_callS GN hr3 rfl DN.g DN.F.kp DN.b (fun σ => passAt (takes_of rfl rfl rfl rfl) σ) (pa_cons (pv 0) (pa_cons (pv 1) pa_nil))))) pss_nil)
    (pss_cons (ps_if (pt_cmpR op_eq (pv 2) (pe_glob (v := .int 30) rfl hDP ⟨_, rfl⟩) (nomark _))
      (pss_one (ps_raise rfl (takes_of rfl rfl rfl rfl) (pmk_oex EB.T EB.iC EB.tI GI (hr3.mono (by decide)) EB.b .nil pass0 (by rfl) EB.g (pa_cons (pv 1) pa_nil)))) pss_nil)
    (pss_one (ps_ret (pe_callS G hr rfl DT.g DT.F.kp DT.b (fun σ => passAt (takes_of rfl rfl rfl rfl) σ) (pa_cons (pv 0) (pa_cons (pe_op op_add (pv 1) pe_int) (pa_cons (pe_op op_add (pv 2) pe_int) pa_nil)))))))))), ?_⟩
  have hz1 : z.length ≤ 100000 := by omega
  have hlz := TL.len_tl z
  refine q_when (b := decide (p = z.length)) (et_end (ev_var rfl) (ev_var rfl) hz1) (fun q H1 e1 => ?_) (fun q H1 e1 => ?_)
  · have q := of_decide_eq_true q
    have hc : (TL.tl z)[p]? = none := List.getElem?_eq_none_iff.mpr (by omega)
    have e : rdThing (TL.tl z) (riP (TL.tl z)) k p = .bad p := by
      unfold rdThing
      rw [hc]
    exact rd_bad (ev_var rfl) fun H6 d e6 _ h6 => hk.bad e d H6 (e1.trans e6) h6
  have q := of_decide_eq_false q
  obtain ⟨c, hc⟩ : ∃ c, (TL.tl z)[p]? = some c := ⟨_, List.getElem?_eq_getElem (by omega)⟩
  refine q_when (b := decide (c = 46)) (et_sign (ev_var rfl) (ev_var rfl) hz1 hc s46) (fun q2 H2 e2 => ?_) (fun q2 H2 e2 => ?_)
  · have q2 := of_decide_eq_true q2
    have e : rdThing (TL.tl z) (riP (TL.tl z)) k p = .ok .non (p + 1) := by
      unfold rdThing
      rw [hc]
      dsimp only
      rw [if_pos q2]
    refine s_retU (eu_tup (ea_cons ev_c (ea_cons (ev_op (ev_var rfl) ev_c rv_I0) ea_nil)) (by show (2 : Nat) ≤ 100000; decide)) fun t H7 ht e7 h7 => ?_
    refine hk.ok e .non t H7 ((e1.trans e2).trans e7) .non ?_
    rw [h7, show ((p + 1 : Nat) : Int) = (p : Int) + 1 by omega]
  have q2 := of_decide_eq_false q2
  refine q_when (b := decide (c = 39)) (et_sign (ev_var rfl) (ev_var rfl) hz1 hc s39) (fun q3 H3 e3 => ?_) (fun q3 H3 e3 => ?_)
  · have q3 := of_decide_eq_true q3
    have e : rdThing (TL.tl z) (riP (TL.tl z)) k p = rdStr (TL.tl z) (TL.tl z).length (p + 1) [] := by
      unfold rdThing
      rw [hc]
      dsimp only
      rw [if_neg q2, if_pos q3]
    rw [e] at hk
    refine s_retCall (sp := spRS CB) (vs := [.str z, .int ((p + 1 : Nat) : Int)]) (ea_cons (ev_var rfl) (ea_cons (ev_is (ev_op (ev_var rfl) ev_c rv_I0) (by rw [show ((p + 1 : Nat) : Int) = (p : Int) + 1 by omega])) ea_nil)) fun H4 e4 => ?_
    exact ⟨z, p + 1, rfl, hz, by omega, by omega, hk.ex (((e1.trans e2).trans e3).trans e4)⟩
  have q3 := of_decide_eq_false q3
  refine q_when (b := !decide (c = 40)) (et_nsign (ev_var rfl) (ev_var rfl) hz1 hc s40) (fun q4 H4 e4 => ?_) (fun q4 H4 e4 => ?_)
  · have n4 : ¬ c = 40 := fun z => by rw [decide_eq_true z] at q4; cases q4
    have e : rdThing (TL.tl z) (riP (TL.tl z)) k p = riP (TL.tl z) p := by
      unfold rdThing
      rw [hc]
      dsimp only
      rw [if_neg q2, if_neg q3, if_neg n4]
    rw [e] at hk
    refine s_retCall (sp := spRI CB) (vs := [.str z, .int (p : Int)]) (ea_cons (ev_var rfl) (ea_cons (ev_var rfl) ea_nil)) fun H5 e5 => ?_
    exact ⟨z, p, rfl, hz, by omega, hk.ex ((((e1.trans e2).trans e3).trans e4).trans e5)⟩
  have y4 : c = 40 := by
    by_cases z : c = 40
    · exact z
    · rw [decide_eq_false z] at q4
      cases q4
  refine q_when (b := decide (d = 30)) (et_is (et_test (ev_op (ev_var rfl) ev_c (rv_eq rfl))) (Ht.dI d 30)) (fun q5 H5 e5 => ?_) (fun q5 H5 e5 => ?_)
  · have q5 := of_decide_eq_true q5
    have hk0 : k = 0 := by omega
    subst hk0
    have e : rdThing (TL.tl z) (riP (TL.tl z)) 0 p = .bad p := by
      unfold rdThing
      rw [hc]
      dsimp only
      rw [if_neg q2, if_neg q3, if_pos y4]
    exact rd_bad (ev_var rfl) fun H6 d e6 _ h6 => hk.bad e d H6 (((((e1.trans e2).trans e3).trans e4).trans e5).trans e6) h6
  · have q5 := of_decide_eq_false q5
    obtain ⟨k', rfl⟩ : ∃ k', k = k' + 1 := ⟨k - 1, by omega⟩
    have e : rdThing (TL.tl z) (riP (TL.tl z)) (k' + 1) p = rdTup (TL.tl z) k' (p + 1) := by
      unfold rdThing
      rw [hc]
      dsimp only
      rw [if_neg q2, if_neg q3, if_pos y4]
      rfl
    rw [e] at hk
    refine s_retCall (sp := spRTu CB k') (vs := [.str z, .int ((p + 1 : Nat) : Int), .int ((d + 1 : Nat) : Int)]) (ea_cons (ev_var rfl) (ea_cons (ev_is (ev_op (ev_var rfl) ev_c rv_I0) (by rw [show ((p + 1 : Nat) : Int) = (p : Int) + 1 by omega])) (ea_cons (ev_is (ev_op (ev_var rfl) ev_c rv_I0) (by rw [show ((d + 1 : Nat) : Int) = (d : Int) + 1 by omega])) ea_nil))) fun H6 e6 => ?_
    exact ⟨z, p + 1, d + 1, rfl, by omega, hz, by omega, by omega, hk.ex (((((e1.trans e2).trans e3).trans e4).trans e5).trans e6)⟩
theorem ok_RTu {f fT fI CB : Addr} {fd dT dI : FuncData} (F : Fun K "_read_tuple" "_read_tuple" sReadTuple f fd) (B : Bt mg) (EB : Bx K mg CB fI dI) (DT : Df K mg "_read_thing" sReadThing ["text", "place", "depth"] fT dT) (k : Nat) (G : FnOk P w K mg base (L2.CX P w) (3 + 2 * k + 1) fT dT ["text", "place", "depth"] (spRT CB k)) :
    FnOk P w K mg base (L2.CX P w) (3 + 2 * k + 1 + 1) f fd ["text", "place", "depth"] (spRTu CB k) := by
  have GI : FnOk P w K mg base CX0 1 fI dI ["self", "place"] (spBI K CB) := ok_BI EB
  refine F.okX scRTu (fun vs H Q E h => ?_) (fun cdv A outer s H vs Q E hr h => ?_)
  · obtain ⟨z, p, d, rfl, _⟩ := h
    rfl
  obtain ⟨z, p0, d, rfl, hdk, hz, hp1, hp2, hk⟩ := h
  have hr2 : Room 2 (A.deeper (envOfC "_read_tuple" (defScope sReadTuple) s.heap.objs.size f cdv)) := hr.mono (by omega)
  refine ⟨_, pss_cons (ps_if (PW.pt (pw_and (pt_cmpR op_lt (pv 1) (pe_callB call_len_str (by rfl) B.len PySem.boot_len (pa_cons (pv 0) pa_nil)) (nomark _)) (pw_and1 (pt_cmpR op_eq (pe_ix ix_str (pv 0) (pv 1) (fun _ _ => rfl)) pe_str (nomark _)))))
      (pss_one (ps_ret (pe_tup (pa_cons (pe_tup pa_nil) (pa_cons (pe_op op_add (pv 1) pe_int) pa_nil))))) pss_nil)
    (pss_cons (ps_set (i := 4) scRTu.nd rfl (.inl rfl) (pe_lst pa_nil))
    (pss_one (ps_while (passes_of rfl) (pt_val pe_bl)
      (pss_cons (ps_asg (pe_callS G hr rfl DT.g DT.F.kp DT.b (fun σ => passAt (takes_of rfl rfl rfl rfl) σ) (pa_cons (pv 0) (pa_cons (pv 1) (pa_cons (pv 2) pa_nil)))) (pg_tup rfl (pgs_cons (pg_name (i := 3) scRTu.nd rfl (.inl rfl)) (pgs_cons (pg_name (i := 1) scRTu.nd rfl (.inl rfl)) pgs_nil))))
      (pss_cons (ps_expr (pe_bm PySem.F.plainAttrs_list PySem.F.slot_list_append PySem.F.type_list_append mt_append (pv 4) (pa_cons (pv 3) pa_nil)))
      (pss_cons (ps_if (PW.pt (pw_or (pt_cmpR op_eq (pv 1) (pe_callB call_len_str (by rfl) B.len PySem.boot_len (pa_cons (pv 0) pa_nil)) (nomark _)) (pw_or1 (pt_cmpR op_notIn_sign (pe_ix ix_str (pv 0) (pv 1) (fun _ _ => rfl)) pe_str (by rfl)))))
        (pss_one (ps_raise rfl (takes_of rfl rfl rfl rfl) (pmk_oex EB.T EB.iC EB.tI GI hr2 EB.b .nil pass0 (by rfl) EB.g (pa_cons (pv 1) pa_nil)))) pss_nil)
      (pss_cons (ps_if (pt_cmpR op_eq (pe_ix ix_str (pv 0) (pv 1) (fun _ _ => rfl)) pe_str (nomark _))
        (pss_one (ps_ret (pe_tup (pa_cons (pe_callTy call_tuple_of (by rfl) B.tup (by decide +kernel) (pa_cons (pv 4) pa_nil)) (pa_cons (pe_op op_add (pv 1) pe_int) pa_nil))))) pss_nil)
      (pss_one (ps_aug (i := 1) scRTu.nd rfl (.inl rfl) pe_int ip_add))))))))), ?_⟩
  have hz1 : z.length ≤ 100000 := by omega
  have hlz := TL.len_tl z
  obtain ⟨cs, hcs⟩ : ∃ cs, TL.tl z = cs := ⟨_, rfl⟩
  rw [hcs] at hk hlz
  refine q_when (b := decide (p0 < z.length) && (match cs[p0]? with | some c => decide (c = 41) | none => true)) (et_and (et_lt (ev_var rfl) (ev_var rfl) hz1) (fun q => ?_)) (fun q H1 e1 => ?_) (fun q H1 e1 => ?_)
  · have q1 := of_decide_eq_true q
    cases hc : cs[p0]? with
    | none => exact absurd (ge_len hc) (by omega)
    | some c => exact et_sign (ev_var rfl) (ev_var rfl) hz1 (by rw [hcs]; exact hc) s41
  · obtain ⟨q1, q2⟩ := Bool.and_eq_true_iff.mp q
    have q1 := of_decide_eq_true q1
    obtain ⟨c, hc⟩ : ∃ c, cs[p0]? = some c := ⟨_, List.getElem?_eq_getElem (by omega)⟩
    rw [hc] at q2
    have q2 := of_decide_eq_true q2
    have e : rdTup cs k p0 = .ok (.tup []) (p0 + 1) := by
      unfold rdTup
      rw [if_pos (by rw [hc, q2])]
    refine s_retPair (eu_tup ea_nil (by show (0 : Nat) ≤ 100000; decide)) (fun H2 e2 => ev_op (ev_var rfl) ev_c rv_I0) fun p t H2 e2 h2 h3 => ?_
    refine hk.ok e (.ref p) t H2 (e1.trans e2) (.tup h2 .nil) ?_
    rw [h3, show ((p0 + 1 : Nat) : Int) = (p0 : Int) + 1 by omega]
  have hR : rdTup cs k p0 = rdItems cs (rdThing cs (riP cs) k) cs.length p0 [] := by
    unfold rdTup
    refine if_neg fun z => ?_
    have := (List.getElem?_eq_some_iff.mp z).1
    rw [z, decide_eq_true (by omega)] at q
    cases q
  rw [hR] at hk
  clear hR q
  generalize hR : rdItems cs (rdThing cs (riP cs) k) cs.length p0 [] = R0 at hk
  refine q_asgL (el_lst ea_nil (by show (0 : Nat) ≤ 100000; decide)) fun D H2 hD e2 h2 => ?_
  have hD0 : H D = none := fresh_back e1 hD
  refine s_while (fun m σ' H' => ∃ (p : Nat) (vs : List V) (us : List U) (x3 : Option V), σ' = [some (.str z), some (.int (p : Int)), some (.int (d : Int)), x3, some (.ref D)] ∧ Ex H H' ∧ H' D = some (.lst vs) ∧ OdL H' vs us ∧ smL us ∧ p ≤ cs.length ∧ cs.length + 1 ≤ p + m ∧ us.length ≤ p ∧ rdItems cs (rdThing cs (riP cs) k) m p us = R0) cs.length
    ⟨p0, [], [], none, rfl, e1.trans e2, h2, .nil, trivial, by omega, by omega, by simp, hR⟩ ?_
  rintro m σ' H' ⟨p, vs, us, x3, rfl, ex, hl, hod, hsm, hp, hm, hu, hr0⟩
  refine ⟨true, et_B ev_c, fun _ H3 e3 => ?_, fun q => by cases q⟩
  obtain ⟨m', rfl⟩ : ∃ m', m = m' + 1 := ⟨m - 1, by omega⟩
  unfold rdItems at hr0
  refine ⟨_, fun σ2 H4 hN => ⟨m', by omega, hN⟩, ?_⟩
  refine q_asgCall (sp := spRT CB k) (vs := [.str z, .int (p : Int), .int (d : Int)]) (ea_cons (ev_var rfl) (ea_cons (ev_var rfl) (ea_cons (ev_var rfl) ea_nil))) fun H4 e4 => ?_
  refine ⟨z, p, d, rfl, hdk, hz, by omega, ?_⟩
  rw [hcs]
  have E4 := (ex.trans e3).trans e4
  cases hrd : rdThing cs (riP cs) k p with
  | bad e =>
    rw [hrd] at hr0
    exact fun d H5 s5 h5 => hk.bad hr0.symm d H5 (E4.trans s5) h5
  | ok u q =>
    rw [hrd] at hr0
    dsimp only at hr0
    obtain ⟨b1, b2, b3⟩ := rdThing_ok (cs := cs) (ri := riP cs) (fun p u q h => riP_ok h) k p u q hrd
    intro v t H5 s5 o5 h5
    refine ⟨t, _, rfl, st_of h5, rfl, v, _, rfl, .int (q : Int), [], rfl, rfl, ?_⟩
    have hl5 : H5 D = some (.lst vs) := s5 _ _ (e4 _ _ (e3 _ _ hl))
    have hlen := OdL.length hod
    refine q_app (K := K) hl5 (ev_var rfl) (ev_var rfl) (by omega) fun H6 e6 => ?_
    have hl6 := e6 _ _ hl5
    have od6 : OdL H6 (vs ++ [v]) (us ++ [u]) := OdL.append (hod.ex (((e3.trans e4).trans s5).trans e6)) (.cons (o5.ex e6) .nil)
    have sm6 : smL (us ++ [u]) := smL_append hsm ⟨b3, trivial⟩
    have od7 : OdL (upd H6 D (.lst (vs ++ [v]))) (vs ++ [v]) (us ++ [u]) := OdL.tups (tups_upd hl6) od6 sm6
    have E7 : Ex H (upd H6 D (.lst (vs ++ [v]))) := Ex.mut ((E4.trans s5).trans e6) hD0
    have hl7 : upd H6 D (.lst (vs ++ [v])) D = some (.lst (vs ++ [v])) := upd_same
    generalize upd H6 D (.lst (vs ++ [v])) = H7 at od7 E7 hl7
    show tSeq _ _ _ [some (.str z), some (.int (q : Int)), some (.int (d : Int)), some v, some (.ref D)] H7
    cases hc : cs[q]? with
    | none =>
      have hlen := ge_len hc
      rw [hc, if_neg (by intro z; cases z), if_neg (by intro z; cases z)] at hr0
      refine q_when (b := true) (et_or (a := true) (b := true) (et_is (et_end (ev_var rfl) (ev_var rfl) hz1) (decide_eq_true (by omega))) (fun q => by cases q)) (fun _ H8 e8 => ?_) (fun q => by cases q)
      exact rd_bad (ev_var rfl) fun H9 d e9 _ h9 => hk.bad hr0.symm d H9 ((E7.trans e8).trans e9) h9
    | some c =>
      have hlq := (List.getElem?_eq_some_iff.mp hc).1
      have hcz : (TL.tl z)[q]? = some c := by rw [hcs]; exact hc
      rw [hc] at hr0
      refine q_when (b := false || !decide (c ∈ TL.tl (",)" : Str))) (et_or (a := false) (et_is (et_end (ev_var rfl) (ev_var rfl) hz1) (decide_eq_false (by omega))) (fun _ => et_ni (ev_var rfl) (ev_var rfl) hz1 hcz)) (fun q5 H8 e8 => ?_) (fun q5 H8 e8 => ?_)
      · rw [c_tl, Bool.false_or] at q5
        have n1 : ¬ (c = 44 ∨ c = 41) := fun z => by
          have : c ∈ [44, 41] := by simpa using z
          rw [decide_eq_true this] at q5
          cases q5
        rw [if_neg (fun z => n1 (.inr (Option.some.inj z))), if_neg (fun z => n1 (.inl (Option.some.inj z)))] at hr0
        exact rd_bad (ev_var rfl) fun H9 d e9 _ h9 => hk.bad hr0.symm d H9 ((E7.trans e8).trans e9) h9
      · rw [c_tl, Bool.false_or] at q5
        have y1 : c = 44 ∨ c = 41 := by
          by_cases z : c ∈ [44, 41]
          · simpa using z
          · rw [decide_eq_false z] at q5
            cases q5
        have E8 := E7.trans e8
        refine q_when (b := decide (c = 41)) (et_sign (ev_var rfl) (ev_var rfl) hz1 hcz s41) (fun q6 H9 e9 => ?_) (fun q6 H9 e9 => ?_)
        · have q6 := of_decide_eq_true q6
          rw [if_pos (by rw [q6])] at hr0
          refine s_retPair (eu_tupOf (K := K) (ev_var rfl) (e9 _ _ (e8 _ _ hl7))) (fun H2 e2 => ev_op (ev_var rfl) ev_c rv_I0) fun a t H10 e10 h10 h11 => ?_
          refine hk.ok hr0.symm (.ref a) t H10 ((E8.trans e9).trans e10) (.tup h10 (od7.ex ((e8.trans e9).trans e10))) ?_
          rw [h11, show ((q + 1 : Nat) : Int) = (q : Int) + 1 by omega]
        · have q6 := of_decide_eq_false q6
          have y44 : c = 44 := by omega
          rw [if_neg (fun z => q6 (Option.some.inj z)), if_pos (by rw [y44])] at hr0
          refine s_aug (f := fun i j => i + j) (a := (q : Int)) (b := 1) rfl ev_c fun H10 e10 => ?_
          have e11 := (e8.trans e9).trans e10
          exact ⟨q + 1, vs ++ [v], us ++ [u], some v, rfl, E7.trans e11, e11 _ _ hl7, od7.ex e11, sm6, by omega, by omega, by rw [List.length_append, List.length_singleton]; omega, hr0⟩
end
end Ht
/-! unpacked, _law_told -/
namespace Ht
open PySem PySem.Spec PyProof.Rows L2 Hu Evl

/-- what unpacked tells of any value -/
def unU : U → U ⊕ Int
  | .str z => match whole (TL.tl z) (rdThing (TL.tl z) (riP (TL.tl z)) 30 0) with
    | .inl u => .inl u
    | .inr e => .inr (e : Int)
  | _ => .inr (-1)
/-- the pair that the law makes of it -/
def toU : U ⊕ Int → U
  | .inl u => .tup [.str "thing", u]
  | .inr e => .tup [.str "wrong", .int e]
def ToldW (CB : Addr) (r : U ⊕ Int) (H : Hp) (Q : VK) (E : XK) : Prop := match r with
  | .inl u => ∀ (v : V) (H' : Hp), Same H H' → Od H' v u → Q v H'
  | .inr e => ∀ (d : Addr) (H' : Hp), Same H H' → H' d = some (.xd [("place", .int e)]) → E (.ref CB) (some d) H'
section
variable {P : Program} {w : World} {K : PySem.W.Frag} {mg : Str → Option Value} {base : Heap}
/-- where the program's readers stand -/
structure Rd (K : PySem.W.Frag) (mg : Str → Option Value) (CB : Addr) : Prop where
  B : Bt mg
  N : Cn mg
  E : ∃ fI dI, Bx K mg CB fI dI
  T : ∃ f d, Df K mg "_read_thing" sReadThing ["text", "place", "depth"] f d
  U : ∃ f d, Df K mg "_read_tuple" sReadTuple ["text", "place", "depth"] f d
  S : ∃ f d, Df K mg "_read_string" sReadStr ["text", "place"] f d
  I : ∃ f d, Df K mg "_read_integer" sReadInt ["text", "place"] f d
  G : ∃ f d, Df K mg "is_signs" sIsSigns ["thing"] f d
theorem ok_RTs {f fT fS fN f2 fI CB : Addr} {fd dT dS dN d2 dI : FuncData} (D : Df K mg "_read_thing" sReadThing ["text", "place", "depth"] f fd) (B : Bt mg) (N : Cn mg) (EB : Bx K mg CB fI dI) (DT : Df K mg "_read_tuple" sReadTuple ["text", "place", "depth"] fT dT) (DS : Df K mg "_read_string" sReadStr ["text", "place"] fS dS)
    (DN : Df K mg "_read_integer" sReadInt ["text", "place"] fN dN) (D2 : Df K mg "is_signs" sIsSigns ["thing"] f2 d2) : ∀ k : Nat, FnOk P w K mg base (L2.CX P w) (3 + 2 * k + 1) f fd ["text", "place", "depth"] (spRT CB k)
  | 0 => ok_RT D.F B N EB DT DS DN D2 0 ⟨fun _ _ _ _ h => h.elim, fun _ _ _ _ _ _ _ _ _ _ _ _ _ h => h.elim⟩
  | k + 1 => ok_RT D.F B N EB DT DS DN D2 (k + 1) (by
      have h := ok_RTu (P := P) (w := w) (base := base) DT.F B EB D k (ok_RTs D B N EB DT DS DN D2 k)
      exact h)
def spUn (CB : Addr) : Sp := fun vs H Q E => ∃ (v : V) (u : U), vs = [v] ∧ Od H v u ∧ brd u ∧ ToldW CB (unU u) H Q E
theorem scUn : FnScope ["text", "thing", "place"] ["text"] (defScope sUnpacked) := ⟨rfl, rfl, rfl, by decide +kernel, rfl, by decide +kernel, by decide +kernel⟩
theorem ok_unpacked {f CB : Addr} {fd : FuncData} (F : Fun K "unpacked" "unpacked" sUnpacked f fd) (R : Rd K mg CB) : FnOk P w K mg base (L2.CX P w) 65 f fd ["text"] (spUn CB) := by
  obtain ⟨B, N, ⟨fI, dI', EB⟩, ⟨fT, dT, DT⟩, ⟨fU, dU, DU⟩, ⟨fS, dS', DS⟩, ⟨fN, dN, DN⟩, ⟨f2, d2, D2⟩⟩ := R
  have GI : FnOk P w K mg base CX0 1 fI dI' ["self", "place"] (spBI K CB) := ok_BI EB
  have GT : FnOk P w K mg base (L2.CX P w) 64 fT dT ["text", "place", "depth"] (spRT CB 30) := ok_RTs DT B N EB DU DS DN D2 30
  refine F.okX scUn (fun vs H Q E h => ?_) (fun cdv A outer s H vs Q E hr h => ?_)
  · obtain ⟨v, u, rfl, _⟩ := h
    rfl
  obtain ⟨v, u, rfl, hat, bu, hk⟩ := h
  refine ⟨_, pss_cons (ps_if (pt_not (pt_val (pe_callB call_isi (by rfl) B.isi boot_isi' (pa_cons (pv 0) (pa_cons (pe_bltn (by rfl) B.str boot_str' (show RelV (.ty "str") (.type "str") from rfl)) pa_nil)))))
      (pss_one (ps_raise rfl (takes_of rfl rfl rfl rfl) (pmk_oex EB.T EB.iC EB.tI GI (hr.mono (by decide)) EB.b .nil pass0 (by rfl) EB.g (pa_cons (pe_un un_neg pe_int) pa_nil)))) pss_nil)
    (pss_cons (ps_asg (pe_callS GT hr rfl DT.g DT.F.kp DT.b (fun σ => passAt (takes_of rfl rfl rfl rfl) σ) (pa_cons (pv 0) (pa_cons pe_int (pa_cons pe_int pa_nil)))) (pg_tup rfl (pgs_cons (pg_name (i := 1) scUn.nd rfl (.inl rfl)) (pgs_cons (pg_name (i := 2) scUn.nd rfl (.inl rfl)) pgs_nil))))
    (pss_cons (ps_if (pt_cmpR op_lt (pv 2) (pe_callB call_len_str (by rfl) B.len PySem.boot_len (pa_cons (pv 0) pa_nil)) (nomark _))
      (pss_one (ps_raise rfl (takes_of rfl rfl rfl rfl) (pmk_oex EB.T EB.iC EB.tI GI (hr.mono (by decide)) EB.b .nil pass0 (by rfl) EB.g (pa_cons (pv 2) pa_nil)))) pss_nil)
    (pss_one (ps_ret (pv 1))))), ?_⟩
  refine q_when (b := !(isT u "str")) (et_not (et_B (ev_isiO (ev_var rfl) hat (by decide)))) (fun q H1 e1 => ?_) (fun q H1 e1 => ?_)
  · have e : unU u = .inr (-1) := by
      cases u with
      | str z => simp [isT, isS, tyU] at q
      | _ => rfl
    rw [e] at hk
    exact rd_bad (ev_un ev_c ru_neg) fun H6 d e6 _ h6 => hk d H6 (e1.trans e6) h6
  obtain ⟨z, rfl⟩ : ∃ z, u = .str z := by
    cases u with
    | str z => exact ⟨z, rfl⟩
    | _ => simp [isT, isS, tyU] at q
  cases hat
  have hz : z.length ≤ 20000 := by simpa only [brd] using bu
  have hz1 : z.length ≤ 100000 := by omega
  have hlz := TL.len_tl z
  have hk : ToldW CB (match whole (TL.tl z) (rdThing (TL.tl z) (riP (TL.tl z)) 30 0) with | .inl u => .inl u | .inr e => .inr (e : Int)) H Q E := hk
  refine q_asgCall (sp := spRT CB 30) (vs := [.str z, .int ((0 : Nat) : Int), .int ((0 : Nat) : Int)]) (ea_cons (ev_var rfl) (ea_cons ev_c (ea_cons ev_c ea_nil))) fun H2 e2 => ?_
  refine ⟨z, 0, 0, rfl, rfl, hz, by omega, ?_⟩
  have E2 := e1.trans e2
  cases hrd : rdThing (TL.tl z) (riP (TL.tl z)) 30 0 with
  | bad e =>
    rw [hrd] at hk
    exact fun d H5 s5 h5 => hk d H5 (E2.trans s5) h5
  | ok u q =>
    rw [hrd] at hk
    obtain ⟨b1, b2, b3⟩ := rdThing_ok (cs := TL.tl z) (ri := riP (TL.tl z)) (fun p u q h => riP_ok h) 30 0 u q hrd
    intro v t H5 s5 o5 h5
    refine ⟨t, _, rfl, st_of h5, rfl, v, _, rfl, .int (q : Int), [], rfl, rfl, ?_⟩
    show tSeq _ _ _ [some (.str z), some v, some (.int (q : Int))] H5
    have E5 := E2.trans s5
    unfold whole at hk
    dsimp only at hk
    refine q_when (b := decide (q < z.length)) (et_lt (ev_var rfl) (ev_var rfl) hz1) (fun q2 H6 e6 => ?_) (fun q2 H6 e6 => ?_)
    · have q2 := of_decide_eq_true q2
      rw [if_neg (by omega)] at hk
      exact rd_bad (ev_var rfl) fun H7 d e7 _ h7 => hk d H7 ((E5.trans e6).trans e7) h7
    · have q2 := of_decide_eq_false q2
      rw [if_pos (by omega)] at hk
      exact s_ret (ev_var rfl) fun H7 e7 => hk v H7 ((E5.trans e6).trans e7) (o5.ex (e6.trans e7))
end
end Ht
/-! the law's readers -/
namespace Ht
open PySem PySem.Spec PyProof.Rows L2 Hu Evl
abbrev lFirst : Stmt := topS 36
abbrev lReadStr : Stmt := topS 37
abbrev lReadInt : Stmt := topS 38
abbrev lReadTup : Stmt := topS 39
abbrev lUnpacked : Stmt := topS 40
/-- what a reader of the law's tells -/
def ToldL (r : R) (H : Hp) (Q : VK) : Prop := match r with
  | .ok u q => ∀ (v : V) (t : Addr) (H' : Hp), Same H H' → Od H' v u → H' t = some (.tup [v, .int (q : Int), .bl false]) → Q (.ref t) H'
  | .bad e => ∀ (t : Addr) (H' : Hp), Same H H' → H' t = some (.tup [.non, .int (e : Int), .bl true]) → Q (.ref t) H'
theorem ToldL.ok {r : R} {u : U} {q : Nat} {H : Hp} {Q : VK} (k : ToldL r H Q) (e : r = .ok u q) : ∀ (v : V) (t : Addr) (H' : Hp), Same H H' → Od H' v u → H' t = some (.tup [v, .int (q : Int), .bl false]) → Q (.ref t) H' := by
  subst e
  exact k
theorem ToldL.bad {r : R} {q : Nat} {H : Hp} {Q : VK} (k : ToldL r H Q) (e : r = .bad q) : ∀ (t : Addr) (H' : Hp), Same H H' → H' t = some (.tup [.non, .int (q : Int), .bl true]) → Q (.ref t) H' := by
  subst e
  exact k
theorem ToldL.ex {r : R} {H H1 : Hp} {Q : VK} (k : ToldL r H Q) (e : Ex H H1) : ToldL r H1 Q := by
  cases r with
  | ok u q => exact fun v t H' s o h => k v t H' (e.trans s) o h
  | bad q => exact fun t H' s h => k t H' (e.trans s) h
theorem wrong_ret {σ : L2.St} {H H0 : Hp} {ti : TE} {D : Ends} {q : Nat} {r : R} (k : ToldL r H0 D.rt) (e : r = .bad q) (e0 : Ex H0 H) (h : Ev ti σ H (.int (q : Int))) : tRet (tTup (tCons (tC .non) (tCons ti (tCons (tC (.bl true)) tNil)))) D σ H :=
  s_retU (eu_tup (ea_cons ev_c (ea_cons h (ea_cons ev_c ea_nil))) (by show (3 : Nat) ≤ 100000; decide)) fun t H1 ht e1 h1 => k.bad e t H1 (e0.trans e1) h1
theorem right_ret {σ : L2.St} {H H0 : Hp} {te ti : TE} {D : Ends} {q : Nat} {r : R} {u : U} {v : V} (k : ToldL r H0 D.rt) (e : r = .ok u q) (e0 : Ex H0 H) (hv : Ev te σ H v) (ho : Od H v u) (h : Ev ti σ H (.int (q : Int))) : tRet (tTup (tCons te (tCons ti (tCons (tC (.bl false)) tNil)))) D σ H :=
  s_retU (eu_tup (ea_cons hv (ea_cons h (ea_cons ev_c ea_nil))) (by show (3 : Nat) ≤ 100000; decide)) fun t H1 ht e1 h1 => k.ok e v t H1 (e0.trans e1) (ho.ex e1) h1
theorem s_retIf {σ : L2.St} {H : Hp} {t : TT} {ta tb : TE} {D : Ends} {b : Bool} (h : EvT t σ H b) (h1 : b = true → ∀ H1, Ex H H1 → tRet ta D σ H1) (h2 : b = false → ∀ H1, Ex H H1 → tRet tb D σ H1) : tRet (tIf t ta tb) D σ H := h H (Ex.refl H) _ fun H1 e => by
  cases b with
  | true =>
    show ta σ H1 D.rt
    exact h1 rfl H1 e
  | false =>
    show tb σ H1 D.rt
    exact h2 rfl H1 e
theorem mk_snoc (acc : List Nat) (c : Nat) : mkS acc ++ (⟨#[c]⟩ : Str) = mkS (acc ++ [c]) := TL.ext_tl (by rw [TL.tl_append]; rfl)
theorem mk_len (acc : List Nat) : (mkS acc).length = acc.length := by rw [TL.len_tl]; rfl
section
variable {P : Program} {w : World} {K : PySem.W.Frag} {mg : Str → Option Value} {base : Heap}
def spLS : Sp := fun vs H Q _ => ∃ (z : Str) (p : Nat), vs = [.str z, .int (p : Int)] ∧ z.length ≤ 20000 ∧ 1 ≤ p ∧ p ≤ z.length ∧ ToldL (rdStr (TL.tl z) (TL.tl z).length p []) H Q
theorem scLS : FnScope ["text", "at", "found", "sign"] ["text", "at"] (defScope lReadStr) := ⟨rfl, rfl, rfl, by decide +kernel, rfl, by decide +kernel, by decide +kernel⟩
theorem ok_LS {f : Addr} {fd : FuncData} (F : Fun K "_law_read_string" "_law_read_string" lReadStr f fd) (B : Bt mg) : FnOk P w K mg base CX0 1 f fd ["text", "at"] spLS := by
  refine F.ok scLS (fun vs H Q E h => ?_) (fun cdv A outer s H vs Q E hr h => ?_)
  · obtain ⟨z, p, rfl, _⟩ := h
    rfl
  obtain ⟨z, p0, rfl, hz, hp1, hp2, k⟩ := h
  refine ⟨_, pss_cons (ps_set (i := 2) scLS.nd rfl (.inl rfl) pe_str)
    (pss_cons (ps_while PassesOwn.never (pt_cmpR op_lt (pv 1) (pe_callB call_len_str (by rfl) B.len PySem.boot_len (pa_cons (pv 0) pa_nil)) (nomark _))
      (pss_cons (ps_set (i := 3) scLS.nd rfl (.inl rfl) (pe_ix ix_str (pv 0) (pv 1) (fun _ _ => rfl)))
      (pss_cons (ps_if (pt_cmpR op_eq (pv 3) pe_str (nomark _)) (pss_one (ps_ret (pe_tup (pa_cons (pv 2) (pa_cons (pe_op op_add (pv 1) pe_int) (pa_cons pe_bl pa_nil)))))) pss_nil)
      (pss_cons (ps_if (pt_not (pt_chain op_le_str op_le_str pe_str (pv 3) pe_str)) (pss_one (ps_ret (pe_tup (pa_cons pe_non (pa_cons (pv 1) (pa_cons pe_bl pa_nil)))))) pss_nil)
      (pss_cons (ps_if (pt_cmpR op_eq (pv 3) pe_str (nomark _))
        (pss_cons (ps_set (i := 1) scLS.nd rfl (.inl rfl) (pe_op op_add (pv 1) pe_int))
        (pss_cons (ps_if (PW.pt (pw_or (pt_cmpR op_eq (pv 1) (pe_callB call_len_str (by rfl) B.len PySem.boot_len (pa_cons (pv 0) pa_nil)) (nomark _)) (pw_or1 (pt_cmpR op_notIn_sign (pe_ix ix_str (pv 0) (pv 1) (fun _ _ => rfl)) pe_str (by rfl)))))
          (pss_one (ps_ret (pe_tup (pa_cons pe_non (pa_cons (pv 1) (pa_cons pe_bl pa_nil)))))) pss_nil)
        (pss_one (ps_set (i := 3) scLS.nd rfl (.inl rfl) (pe_ix ix_str (pv 0) (pv 1) (fun _ _ => rfl)))))) pss_nil)
      (pss_cons (ps_set (i := 2) scLS.nd rfl (.inl rfl) (pe_op op_add_str (pv 2) (pv 3)))
      (pss_one (ps_set (i := 1) scLS.nd rfl (.inl rfl) (pe_op op_add (pv 1) pe_int)))))))))
    (pss_one (ps_ret (pe_tup (pa_cons pe_non (pa_cons (pv 1) (pa_cons pe_bl pa_nil))))))), ?_⟩
  have hz1 : z.length ≤ 100000 := by omega
  have hlz := TL.len_tl z
  generalize hcs : TL.tl z = cs at k hlz
  generalize hR : rdStr cs cs.length p0 [] = R0 at k
  refine q_asg (v := .str (mkS [])) (ev_is ev_c (by congr 1)) fun H1 e1 => ?_
  refine q_while (fun m σ' H' => ∃ (p : Nat) (acc : List Nat) (x3 : Option V), σ' = [some (.str z), some (.int (p : Int)), some (.str (mkS acc)), x3] ∧ Ex H H' ∧ p ≤ cs.length ∧ cs.length + 1 ≤ p + m ∧ acc.length ≤ p ∧ rdStr cs m p acc = R0) cs.length
    ⟨p0, [], none, rfl, e1, by omega, by omega, by simp, hR⟩ ?_
  rintro m σ' H' ⟨p, acc, x3, rfl, ex, hp, hm, ha, hr0⟩
  obtain ⟨m', rfl⟩ : ∃ m', m = m' + 1 := ⟨m - 1, by omega⟩
  unfold rdStr at hr0
  refine ⟨decide (p < z.length), et_lt (ev_var rfl) (ev_var rfl) hz1, fun q H2 e2 => ?_, fun q H2 e2 => ?_⟩
  · have q1 := of_decide_eq_true q
    obtain ⟨c, hc⟩ : ∃ c, cs[p]? = some c := ⟨_, List.getElem?_eq_getElem (by omega)⟩
    have hcz : (TL.tl z)[p]? = some c := by rw [hcs]; exact hc
    rw [hc] at hr0
    dsimp only at hr0
    have E2 := ex.trans e2
    refine ⟨_, fun σ2 H3 hN => ⟨m', by omega, hN⟩, ?_⟩
    refine q_asg (v := .str ⟨#[c]⟩) (ev_ixS (ev_var rfl) (ev_var rfl) hz1 hcz) fun H3 e3 => ?_
    refine q_when (b := decide (c = 39)) (et_is (et_test (ev_op (ev_var rfl) ev_c (rv_eq rfl))) (dS c s39)) (fun q2 H4 e4 => ?_) (fun q2 H4 e4 => ?_)
    · rw [if_pos (of_decide_eq_true q2)] at hr0
      exact right_ret k hr0.symm ((E2.trans e3).trans e4) (ev_var rfl) (.str _) (ev_is (ev_op (ev_var rfl) ev_c rv_I0) (by rw [show ((p + 1 : Nat) : Int) = (p : Int) + 1 by omega]))
    have n39 := of_decide_eq_false q2
    rw [if_neg n39] at hr0
    refine q_when (b := !(decide (32 ≤ c) && decide (c ≤ 126))) (et_not (et_test (ev_chain ev_c (ev_var rfl) ev_c rv_leS fun _ => rv_leS))) (fun q3 H5 e5 => ?_) (fun q3 H5 e5 => ?_)
    · have nw : ¬ (32 ≤ c ∧ c ≤ 126) := fun z => by
        rw [decide_eq_true z.1, decide_eq_true z.2] at q3
        cases q3
      rw [if_neg (by omega), if_neg nw] at hr0
      exact wrong_ret k hr0.symm (((E2.trans e3).trans e4).trans e5) (ev_var rfl)
    have yw : 32 ≤ c ∧ c ≤ 126 := by
      have q6 : (decide (32 ≤ c) && decide (c ≤ 126)) = true := by
        cases hh : (decide (32 ≤ c) && decide (c ≤ 126)) with
        | true => rfl
        | false => rw [hh] at q3; cases q3
      obtain ⟨a, b⟩ := Bool.and_eq_true_iff.mp q6
      exact ⟨of_decide_eq_true a, of_decide_eq_true b⟩
    refine q_if (b := decide (c = 126)) (et_is (et_test (ev_op (ev_var rfl) ev_c (rv_eq rfl))) (dS c s126)) (fun q4 H6 e6 => ?_) (fun q4 H6 e6 => ?_)
    · rw [if_pos (of_decide_eq_true q4)] at hr0
      have E6 := (((E2.trans e3).trans e4).trans e5).trans e6
      refine q_asg (v := .int ((p + 1 : Nat) : Int)) (ev_is (ev_op (ev_var rfl) ev_c rv_I0) (by rw [show ((p + 1 : Nat) : Int) = (p : Int) + 1 by omega])) fun H7 e7 => ?_
      cases hd : cs[p + 1]? with
      | none =>
        rw [hd] at hr0
        have hlen := ge_len hd
        refine q_when (b := true) (et_or (a := true) (b := true) (et_is (et_end (ev_var rfl) (ev_var rfl) hz1) (decide_eq_true (by omega))) (fun q => by cases q)) (fun _ H8 e8 => ?_) (fun q => by cases q)
        exact wrong_ret k hr0.symm ((E6.trans e7).trans e8) (ev_var rfl)
      | some d =>
        rw [hd] at hr0
        dsimp only at hr0
        have hlen := (List.getElem?_eq_some_iff.mp hd).1
        have hdz : (TL.tl z)[p + 1]? = some d := by rw [hcs]; exact hd
        refine q_when (b := false || !decide (d ∈ TL.tl ("'~" : Str))) (et_or (a := false) (et_is (et_end (ev_var rfl) (ev_var rfl) hz1) (decide_eq_false (by omega))) (fun _ => et_ni (ev_var rfl) (ev_var rfl) hz1 hdz)) (fun q5 H8 e8 => ?_) (fun q5 H8 e8 => ?_)
        · rw [q_tl, Bool.false_or] at q5
          have nd : ¬ (d = 39 ∨ d = 126) := fun z => by
            have : d ∈ [39, 126] := by simpa using z
            rw [decide_eq_true this] at q5
            cases q5
          rw [if_neg nd] at hr0
          exact wrong_ret k hr0.symm ((E6.trans e7).trans e8) (ev_var rfl)
        · rw [q_tl, Bool.false_or] at q5
          have yd : d = 39 ∨ d = 126 := by
            by_cases z : d ∈ [39, 126]
            · simpa using z
            · rw [decide_eq_false z] at q5
              cases q5
          rw [if_pos yd] at hr0
          refine s_asg (v := .str ⟨#[d]⟩) (ev_ixS (ev_var rfl) (ev_var rfl) hz1 hdz) fun H9 e9 => ?_
          refine q_asg (v := .str (mkS (acc ++ [d]))) (ev_is (ev_op (ev_var rfl) (ev_var rfl) (rv_addZ (by rw [mk_len]; show acc.length + 1 ≤ 200000; omega))) (by rw [mk_snoc])) fun H10 e10 => ?_
          refine s_asg (v := .int ((p + 2 : Nat) : Int)) (ev_is (ev_op (ev_var rfl) ev_c rv_I0) (by rw [show ((p + 2 : Nat) : Int) = ((p + 1 : Nat) : Int) + 1 by omega])) fun H11 e11 => ?_
          exact ⟨p + 2, acc ++ [d], some (.str ⟨#[d]⟩), rfl, ((((E6.trans e7).trans e8).trans e9).trans e10).trans e11, by omega, by omega, by rw [List.length_append, List.length_singleton]; omega, hr0⟩
    · rw [if_neg (of_decide_eq_false q4), if_pos yw] at hr0
      have E6 := (((E2.trans e3).trans e4).trans e5).trans e6
      refine s_next ?_
      refine q_asg (v := .str (mkS (acc ++ [c]))) (ev_is (ev_op (ev_var rfl) (ev_var rfl) (rv_addZ (by rw [mk_len]; show acc.length + 1 ≤ 200000; omega))) (by rw [mk_snoc])) fun H10 e10 => ?_
      refine s_asg (v := .int ((p + 1 : Nat) : Int)) (ev_is (ev_op (ev_var rfl) ev_c rv_I0) (by rw [show ((p + 1 : Nat) : Int) = (p : Int) + 1 by omega])) fun H11 e11 => ?_
      exact ⟨p + 1, acc ++ [c], some (.str ⟨#[c]⟩), rfl, (E6.trans e10).trans e11, by omega, by omega, by rw [List.length_append, List.length_singleton]; omega, hr0⟩
  · have q1 := of_decide_eq_false q
    have hc : cs[p]? = none := List.getElem?_eq_none_iff.mpr (by omega)
    rw [hc] at hr0
    exact wrong_ret k hr0.symm (ex.trans e2) (ev_var rfl)
end
end Ht
/-! the law's reader of integers -/
namespace Ht
open PySem PySem.Spec PyProof.Rows L2 Hu Evl
theorem dI1 (a b : Nat) : decide (V.int (a : Int) = V.int ((b : Int) + 1)) = decide (a = b + 1) := by
  have := Ht.dI a (b + 1)
  rw [show ((b + 1 : Nat) : Int) = (b : Int) + 1 by omega] at this
  exact this
theorem one0 {cs : List Nat} {p : Nat} (h : cs[begins cs p]? = some 48) (hb : begins cs p = p) : intAt cs p 1 = 0 := by
  unfold intAt
  rw [hb] at h ⊢
  have hp := (List.getElem?_eq_some_iff.mp h).1
  have e : (cs.drop p).take 1 = [48] := by
    rw [List.drop_eq_getElem_cons hp, List.take_succ_cons, List.take_zero, (List.getElem?_eq_some_iff.mp h).2]
  rw [if_neg (by rw [h]; intro z; cases z), e]
  rfl
section
variable {P : Program} {w : World} {K : PySem.W.Frag} {mg : Str → Option Value} {base : Heap}
def spLI : Sp := fun vs H Q _ => ∃ (z : Str) (p : Nat), vs = [.str z, .int (p : Int)] ∧ z.length ≤ 20000 ∧ p < z.length ∧ ToldL (riL (TL.tl z) p) H Q
theorem scLI : FnScope ["text", "at", "begin", "first"] ["text", "at"] (defScope lReadInt) := ⟨rfl, rfl, rfl, by decide +kernel, rfl, by decide +kernel, by decide +kernel⟩
theorem ok_LI {f : Addr} {fd : FuncData} (F : Fun K "_law_read_integer" "_law_read_integer" lReadInt f fd) (B : Bt mg) : FnOk P w K mg base CX0 1 f fd ["text", "at"] spLI := by
  refine F.ok scLI (fun vs H Q E h => ?_) (fun cdv A outer s H vs Q E hr h => ?_)
  · obtain ⟨z, p, rfl, _⟩ := h
    rfl
  obtain ⟨z, p, rfl, hz, hp, k⟩ := h
  refine ⟨_, pss_cons (ps_set (i := 2) scLI.nd rfl (.inl rfl) (pv 1))
    (Evl.pss_cut (ps_if (pt_cmpR op_eq (pe_ix ix_str (pv 0) (pv 1) (fun _ _ => rfl)) pe_str (nomark _)) (pss_one (ps_set (i := 1) scLI.nd rfl (.inl rfl) (pe_op op_add (pv 1) pe_int))) pss_nil)
    (pss_cons (ps_set (i := 3) scLI.nd rfl (.inl rfl) (pv 1))
    (pss_cons (ps_while PassesOwn.never (PW.pt (pw_and (pt_cmpR op_lt (pv 1) (pe_callB call_len_str (by rfl) B.len PySem.boot_len (pa_cons (pv 0) pa_nil)) (nomark _)) (pw_and (pt_cmpR op_in_sign (pe_ix ix_str (pv 0) (pv 1) (fun _ _ => rfl)) pe_str (by rfl)) (pw_and1 (pt_cmpR op_lt (pe_op op_sub (pv 1) (pv 3)) pe_int (nomark _))))))
      (pss_cons (ps_if (PW.pt (pw_and (pt_cmpR op_eq (pv 1) (pe_op op_add (pv 3) pe_int) (nomark _)) (pw_and1 (pt_cmpR op_eq (pe_ix ix_str (pv 0) (pv 3) (fun _ _ => rfl)) pe_str (nomark _)))))
        (pss_one (ps_ret (pe_tup (pa_cons (pe_callTy call_int_str (by rfl) B.int boot_int (pa_cons (pe_slice sl_str (pv 0) (po_some (pv 2)) (po_some (pv 1))) pa_nil)) (pa_cons (pv 1) (pa_cons pe_bl pa_nil)))))) pss_nil)
      (pss_cons (ps_if (PW.pt (pw_and (pt_cmpR op_eq (pv 1) (pv 3) (nomark _)) (pw_and (pt_cmpR op_eq (pe_ix ix_str (pv 0) (pv 1) (fun _ _ => rfl)) pe_str (nomark _)) (pw_and1 (pt_cmpR op_lt (pv 2) (pv 3) (nomark _))))))
        (pss_one (ps_ret (pe_tup (pa_cons pe_non (pa_cons (pv 1) (pa_cons pe_bl pa_nil)))))) pss_nil)
      (pss_one (ps_set (i := 1) scLI.nd rfl (.inl rfl) (pe_op op_add (pv 1) pe_int))))))
    (pss_cons (ps_if (pt_cmpR op_eq (pv 1) (pv 3) (nomark _)) (pss_one (ps_ret (pe_tup (pa_cons pe_non (pa_cons (pv 1) (pa_cons pe_bl pa_nil)))))) pss_nil)
    (pss_one (ps_ret (pe_tup (pa_cons (pe_callTy call_int_str (by rfl) B.int boot_int (pa_cons (pe_slice sl_str (pv 0) (po_some (pv 2)) (po_some (pv 1))) pa_nil)) (pa_cons (pv 1) (pa_cons pe_bl pa_nil)))))))))), ?_⟩
  have hz1 : z.length ≤ 100000 := by omega
  have hlz := TL.len_tl z
  obtain ⟨c0, hc0⟩ : ∃ c, (TL.tl z)[p]? = some c := ⟨_, List.getElem?_eq_getElem (by omega)⟩
  obtain ⟨cs, hcs⟩ : ∃ cs, TL.tl z = cs := ⟨_, rfl⟩
  have hc0s : cs[p]? = some c0 := by rw [← hcs]; exact hc0
  have hk : ToldL (riL cs p) H Q := by rw [← hcs]; exact k
  clear k
  have hlen : cs.length = z.length := by rw [← hcs]; omega
  have hbg := begins_ge cs p
  have hrl := run_le cs (begins cs p)
  have hbe : begins cs p = if c0 = 45 then p + 1 else p := by
    unfold begins
    rw [hc0s]
    by_cases h : c0 = 45
    · rw [if_pos h, if_pos (by rw [h])]
    · rw [if_neg h, if_neg (by intro q; cases q; exact h rfl)]
  refine q_asg (v := .int (p : Int)) (ev_var rfl) fun H1 e1 => ?_
  refine q_cut (M := fun σ' H' => σ' = [some (.str z), some (.int ((begins cs p : Nat) : Int)), some (.int (p : Int)), none] ∧ Ex H H') ?_ ?_
  · refine s_when (b := decide (c0 = 45)) (et_sign (ev_var rfl) (ev_var rfl) hz1 hc0 s45) (fun q H2 e2 => ?_) (fun q H2 e2 => ?_)
    · have q := of_decide_eq_true q
      refine s_asg (v := .int ((begins cs p : Nat) : Int)) (ev_is (ev_op (ev_var rfl) ev_c rv_I0) ?_) fun H3 e3 => ⟨rfl, (e1.trans e2).trans e3⟩
      rw [hbe, if_pos q, show ((p + 1 : Nat) : Int) = (p : Int) + 1 by omega]
    · have q := of_decide_eq_false q
      refine ⟨?_, e1.trans e2⟩
      rw [hbe, if_neg q]
      rfl
  rintro σ1 H1 ⟨rfl, E1⟩
  clear e1
  unfold riL at hk
  dsimp only at hk
  generalize hf : begins cs p = f at hk hbg hrl hbe
  refine q_asg (v := .int (f : Int)) (ev_var rfl) fun H2 e2 => ?_
  have E2 := E1.trans e2
  refine q_while (fun m σ' H' => ∃ n : Nat, σ' = [some (.str z), some (.int ((f + n : Nat) : Int)), some (.int (p : Int)), some (.int (f : Int))] ∧ Ex H H' ∧ n ≤ run cs f ∧ n ≤ 30 ∧ (1 ≤ n → cs[f]? = some 48 → ¬ p < f) ∧ (2 ≤ n → cs[f]? ≠ some 48) ∧ m = 31 - n) 31 ⟨0, rfl, E2, by omega, by omega, by omega, by omega, by omega⟩ ?_
  rintro m σ' H' ⟨n, rfl, ex, hn, hn30, i1, i2, rfl⟩
  refine ⟨decide (f + n < z.length) && ((match cs[f + n]? with | some c => isD c | none => true) && decide (n < 30)), et_and (et_lt (ev_var rfl) (ev_var rfl) hz1) (fun q => et_and ?_ fun _ => ?_), fun q H3 e3 => ?_, fun q H3 e3 => ?_⟩
  · have q1 := of_decide_eq_true q
    cases hc : cs[f + n]? with
    | none => exact absurd (ge_len hc) (by omega)
    | some c => exact et_is (et_in (w := "0123456789") (ev_var rfl) (ev_var rfl) hz1 (by rw [hcs]; exact hc)) (in_digs c)
  · exact et_is (et_test (ev_op (ev_op (ev_var rfl) (ev_var rfl) rv_I0) ev_c rv_I0)) (by
      refine decide_eq_decide.mpr ?_
      omega)
  · obtain ⟨q1, q2⟩ := Bool.and_eq_true_iff.mp q
    obtain ⟨q2, q3⟩ := Bool.and_eq_true_iff.mp q2
    have q1 := of_decide_eq_true q1
    have q3 := of_decide_eq_true q3
    obtain ⟨c, hc⟩ : ∃ c, cs[f + n]? = some c := ⟨_, List.getElem?_eq_getElem (by omega)⟩
    rw [hc] at q2
    have hn1 := run_next hn hc q2
    have hcz : (TL.tl z)[f + n]? = some c := by rw [hcs]; exact hc
    obtain ⟨cf, hcf⟩ : ∃ c, cs[f]? = some c := ⟨_, List.getElem?_eq_getElem (by omega)⟩
    have hcfz : (TL.tl z)[f]? = some cf := by rw [hcs]; exact hcf
    have E3 := ex.trans e3
    refine ⟨_, fun σ2 H4 hN => ⟨31 - (n + 1), by omega, hN⟩, ?_⟩
    refine q_when (b := decide (f + n = f + 1) && decide (cf = 48)) (et_and (et_is (et_test (ev_op (ev_var rfl) (ev_op (ev_var rfl) ev_c rv_I0) (rv_eq rfl))) (dI1 _ _)) fun _ => et_sign (ev_var rfl) (ev_var rfl) hz1 hcfz s48) (fun q4 H4 e4 => ?_) (fun q4 H4 e4 => ?_)
    · obtain ⟨q4, q5⟩ := Bool.and_eq_true_iff.mp q4
      have q4 := of_decide_eq_true q4
      have q5 := of_decide_eq_true q5
      have hn1' : n = 1 := by omega
      subst hn1'
      have h48 : cs[f]? = some 48 := by rw [hcf, q5]
      have npf := i1 (by omega) h48
      rw [if_neg (by omega), if_pos h48, if_neg npf] at hk
      obtain ⟨j1, j2⟩ := int_cut (z := z) hcs (p := p) (n := 1) (by omega) (by rw [hf]; omega) (by omega)
      rw [hf, one0 (by rw [hf]; exact h48) (by omega)] at j1
      rw [hf] at j2
      exact right_ret hk rfl (E3.trans e4) (ev_int (ev_slS (ev_var rfl) (eo_some (ev_var rfl)) (eo_some (ev_var rfl)) hz1) j1 j2) (.int 0) (ev_var rfl)
    have k4 : n = 1 → cs[f]? ≠ some 48 := fun e z => by
      rw [hcf] at z
      cases z
      rw [decide_eq_true (by omega), decide_eq_true rfl] at q4
      cases q4
    refine q_when (b := decide (f + n = f) && (decide (c = 48) && decide (p < f))) (et_and (et_is (et_test (ev_op (ev_var rfl) (ev_var rfl) (rv_eq rfl))) (Ht.dI _ _)) fun _ => et_and (et_sign (ev_var rfl) (ev_var rfl) hz1 hcz s48) fun _ => et_is (et_test (ev_op (ev_var rfl) (ev_var rfl) rv_I0)) (dL p f)) (fun q5 H5 e5 => ?_) (fun q5 H5 e5 => ?_)
    · obtain ⟨a1, a2⟩ := Bool.and_eq_true_iff.mp q5
      obtain ⟨a2, a3⟩ := Bool.and_eq_true_iff.mp a2
      have a1 := of_decide_eq_true a1
      have a2 := of_decide_eq_true a2
      have a3 := of_decide_eq_true a3
      have hn0 : n = 0 := by omega
      subst hn0
      have h48 : cs[f]? = some 48 := by rw [← a2]; exact hc
      rw [if_neg (by omega), if_pos h48, if_pos a3] at hk
      exact wrong_ret hk rfl ((E3.trans e4).trans e5) (ev_var rfl)
    refine s_asg (v := .int ((f + (n + 1) : Nat) : Int)) (ev_is (ev_op (ev_var rfl) ev_c rv_I0) (by rw [show ((f + (n + 1) : Nat) : Int) = ((f + n : Nat) : Int) + 1 by omega])) fun H6 e6 => ?_
    refine ⟨n + 1, rfl, ((E3.trans e4).trans e5).trans e6, hn1, by omega, fun _ h48 hpf => ?_, fun h2 h48 => ?_, rfl⟩
    · by_cases h0 : n = 0
      · subst h0
        have : c = 48 := by
          have z : cs[f]? = some c := hc
          rw [h48] at z
          exact (Option.some.inj z).symm
        rw [decide_eq_true (by omega), decide_eq_true this, decide_eq_true hpf] at q5
        cases q5
      · exact i1 (by omega) h48 hpf
    · by_cases h1 : n = 1
      · exact k4 h1 h48
      · exact i2 (by omega) h48
  · have E3 := ex.trans e3
    have hend : n = run cs f ∨ n = 30 := by
      by_cases h30 : n = 30
      · exact .inr h30
      · left
        refine run_end hn ?_
        cases hc : cs[f + n]? with
        | none => exact .inl rfl
        | some c =>
          have hl := (List.getElem?_eq_some_iff.mp hc).1
          rw [hc, decide_eq_true (show f + n < z.length by omega), decide_eq_true (show n < 30 by omega), Bool.and_true, Bool.true_and] at q
          exact .inr ⟨c, rfl, q⟩
    refine q_when (b := decide (f + n = f)) (et_is (et_test (ev_op (ev_var rfl) (ev_var rfl) (rv_eq rfl))) (Ht.dI _ _)) (fun q2 H4 e4 => ?_) (fun q2 H4 e4 => ?_)
    · have q2 := of_decide_eq_true q2
      rw [if_pos (by omega)] at hk
      exact wrong_ret hk (by congr 1; omega) (E3.trans e4) (ev_var rfl)
    have q2 := of_decide_eq_false q2
    rw [if_neg (by omega)] at hk
    obtain ⟨j1, j2⟩ := int_cut (z := z) hcs (p := p) (n := n) (by omega) (by rw [hf]; omega) (by omega)
    rw [hf] at j1 j2
    have hev : ∀ {H5 : Hp}, Ev (tInt (tSl rSlS (tVar 0) (tPart (tVar 2)) (tPart (tVar 1)))) [some (V.str z), some (.int ((f + n : Nat) : Int)), some (.int (p : Int)), some (.int (f : Int))] H5 (.int (intAt cs p n)) :=
      ev_int (ev_slS (ev_var rfl) (eo_some (ev_var rfl)) (eo_some (ev_var rfl)) hz1) j1 j2
    by_cases h48 : cs[f]? = some 48
    · have hn1 : n = 1 := by
        by_cases h2 : 2 ≤ n
        · exact absurd h48 (i2 h2)
        · omega
      have npf := i1 (by omega) h48
      rw [if_pos h48, if_neg npf] at hk
      subst hn1
      refine right_ret hk rfl (E3.trans e4) hev ?_ (ev_var rfl)
      rw [one0 (by rw [hf]; exact h48) (by omega)]
      exact .int 0
    · rw [if_neg h48] at hk
      by_cases hgt : 30 < run cs f
      · rw [if_pos hgt] at hk
        have h30 : n = 30 := by omega
        subst h30
        exact right_ret hk rfl (E3.trans e4) hev (.int _) (ev_var rfl)
      · rw [if_neg hgt] at hk
        have hr : n = run cs f := by omega
        rw [← hr] at hk
        exact right_ret hk rfl (E3.trans e4) hev (.int _) (ev_var rfl)
end
end Ht
/-! the law's readers of things and tuples; _law_unpacked -/
namespace Ht
open PySem PySem.Spec PyProof.Rows L2 Hu Evl
def rdTupL (cs : List Nat) (k p : Nat) : R := if cs[p]? = some 41 then .ok (.tup []) (p + 1) else rdItems cs (rdThing cs (riL cs) k) cs.length p []
theorem s44 : ("," : Str) = sg 44 := by decide +kernel
section
variable {σ : L2.St} {H : Hp} {te to ti : TE} {ta : TA} {K : PySem.W.Frag} {D : Ends} {g : TG} {sp : Sp} {dvs vs : List V} {E : XK}
theorem s_retC (h : EvA ta σ H vs) (k : ∀ H1, Ex H H1 → sp (vs ++ dvs) H1 D.rt E) : tRet (tCall sp dvs E ta) D σ H := h H (Ex.refl H) _ fun H1 e => k H1 e
theorem q_asgC {tz : TS} (h : EvA ta σ H vs) (k : ∀ H1, Ex H H1 → sp (vs ++ dvs) H1 (fun x H2 => g x σ H2 (tz D)) E) : tSeq (tAsg (tCall sp dvs E ta) g) tz D σ H := h H (Ex.refl H) _ fun H1 e => k H1 e
theorem s_retTrip {xs : List V} {i : Int} {b : Bool} (h : EvU te σ H xs) (hi : ∀ H1, Ex H H1 → Ev ti σ H1 (.int i)) (k : ∀ p t H1, Ex H H1 → H1 p = some (.tup xs) → H1 t = some (.tup [.ref p, .int i, .bl b]) → D.rt (.ref t) H1) : tRet (tTup (tCons te (tCons ti (tCons (tC (.bl b)) tNil)))) D σ H :=
  h H (Ex.refl H) _ fun p H1 hp e h1 => hi H1 e H1 (Ex.refl H1) _ fun H2 e2 => ⟨sz_of (show (3 : Nat) ≤ 100000 by decide), fun t ht => k p t _ ((e.trans e2).trans (Ex.new ht)) (by rw [upd_ne (ne_of_none (e2 _ _ h1) ht)]; exact e2 _ _ h1) upd_same⟩
theorem q_asgAny {tz : TS} {i : Nat} {te : TE} (h : te σ H fun x H2 => tz D (σ.set i (some x)) H2) : tSeq (tAsg te (gName i)) tz D σ H := h
end
section
variable {P : Program} {w : World} {K : PySem.W.Frag} {mg : Str → Option Value} {base : Heap}
def spLT (k : Nat) : Sp := fun vs H Q _ => ∃ (z : Str) (p d : Nat), vs = [.str z, .int (p : Int), .int (d : Int)] ∧ d + k = 30 ∧ z.length ≤ 20000 ∧ p ≤ z.length ∧ ToldL (rdThing (TL.tl z) (riL (TL.tl z)) k p) H Q
def spLTu (k : Nat) : Sp := fun vs H Q _ => ∃ (z : Str) (p d : Nat), vs = [.str z, .int (p : Int), .int (d : Int)] ∧ d + k = 30 ∧ z.length ≤ 20000 ∧ 1 ≤ p ∧ p ≤ z.length ∧ ToldL (rdTupL (TL.tl z) k p) H Q
def spLTuP : Nat → Sp
  | 0 => fun _ _ _ _ => False
  | k + 1 => spLTu k
theorem scLT : FnScope ["text", "at", "deep", "sign"] ["text", "at", "deep"] (defScope lFirst) := ⟨rfl, rfl, rfl, by decide +kernel, rfl, by decide +kernel, by decide +kernel⟩
theorem scLTu : FnScope ["text", "at", "deep", "found", "thing", "wrong"] ["text", "at", "deep"] (defScope lReadTup) := ⟨rfl, rfl, rfl, by decide +kernel, rfl, by decide +kernel, by decide +kernel⟩
theorem ok_LT {f fT fS fN : Addr} {fd dT dS dN : FuncData} (F : Fun K "_law_first_wrong" "_law_first_wrong" lFirst f fd) (B : Bt mg) (DT : Df K mg "_law_read_tuple" lReadTup ["text", "at", "deep"] fT dT) (DS : Df K mg "_law_read_string" lReadStr ["text", "at"] fS dS)
    (DN : Df K mg "_law_read_integer" lReadInt ["text", "at"] fN dN) (k : Nat) (G : FnOk P w K mg base CX0 (1 + 2 * k) fT dT ["text", "at", "deep"] (spLTuP k)) : FnOk P w K mg base CX0 (1 + 2 * k + 1) f fd ["text", "at", "deep"] (spLT k) := by
  have GS : FnOk P w K mg base CX0 1 fS dS ["text", "at"] spLS := ok_LS DS.F B
  have GN : FnOk P w K mg base CX0 1 fN dN ["text", "at"] spLI := ok_LI DN.F B
  refine F.ok scLT (fun vs H Q E h => ?_) (fun cdv A outer s H vs Q E hr h => ?_)
  · obtain ⟨z, p, d, rfl, _⟩ := h
    rfl
  obtain ⟨z, p, d, rfl, hdk, hz, hp, hk⟩ := h
  have hr1 : Room 1 (A.deeper (envOfC "_law_first_wrong" (defScope lFirst) s.heap.objs.size f cdv)) := hr.mono (by omega)
  refine ⟨_, pss_cons (ps_if (pt_cmpR op_ge (pv 1) (pe_callB call_len_str (by rfl) B.len PySem.boot_len (pa_cons (pv 0) pa_nil)) (nomark _)) (pss_one (ps_ret (pe_tup (pa_cons pe_non (pa_cons (pv 1) (pa_cons pe_bl pa_nil)))))) pss_nil)
    (pss_cons (ps_set (i := 3) scLT.nd rfl (.inl rfl) (pe_ix ix_str (pv 0) (pv 1) (fun _ _ => rfl)))
    (pss_cons (ps_if (pt_cmpR op_eq (pv 3) pe_str (nomark _)) (pss_one (ps_ret (pe_tup (pa_cons pe_non (pa_cons (pe_op op_add (pv 1) pe_int) (pa_cons pe_bl pa_nil)))))) pss_nil)
    (pss_cons (ps_if (pt_cmpR op_eq (pv 3) pe_str (nomark _))
      (pss_one (ps_ret (pe_call GS hr1 (by rfl) DS.g DS.F.kp DS.b .nil pass0 (pa_cons (pv 0) (pa_cons (pe_op op_add (pv 1) pe_int) pa_nil))))) pss_nil)
    (pss_cons (ps_if (pt_cmpR op_eq (pv 3) pe_str (nomark _))
      (pss_one (ps_ret (pe_ifExp (pt_cmpR op_lt (pv 2) pe_int (nomark _)) (pe_call G hr (by rfl) DT.g DT.F.kp DT.b .nil pass0 (pa_cons (pv 0) (pa_cons (pe_op op_add (pv 1) pe_int) (pa_cons (pe_op op_add (pv 2) pe_int) pa_nil)))) (pe_tup (pa_cons pe_non (pa_cons (pv 1) (pa_cons pe_bl pa_nil))))))) pss_nil)
    (pss_one (ps_ret (pe_call GN hr1 (by rfl) DN.g DN.F.kp DN.b .nil pass0 (pa_cons (pv 0) (pa_cons (pv 1) pa_nil))))))))), ?_⟩
  have hz1 : z.length ≤ 100000 := by omega
  have hlz := TL.len_tl z
  refine q_when (b := decide (z.length ≤ p)) (et_is (et_test (ev_op (ev_var rfl) (ev_lenS (ev_var rfl) hz1) rv_I0)) (by
    refine decide_eq_decide.mpr ?_
    omega)) (fun q H1 e1 => ?_) (fun q H1 e1 => ?_)
  · have q := of_decide_eq_true q
    have hc : (TL.tl z)[p]? = none := List.getElem?_eq_none_iff.mpr (by omega)
    have e : rdThing (TL.tl z) (riL (TL.tl z)) k p = .bad p := by
      unfold rdThing
      rw [hc]
    exact wrong_ret hk e e1 (ev_var rfl)
  have q := of_decide_eq_false q
  obtain ⟨c, hc⟩ : ∃ c, (TL.tl z)[p]? = some c := ⟨_, List.getElem?_eq_getElem (by omega)⟩
  refine q_asg (v := .str ⟨#[c]⟩) (ev_ixS (ev_var rfl) (ev_var rfl) hz1 hc) fun H0 e0 => ?_
  have E0 := e1.trans e0
  refine q_when (b := decide (c = 46)) (et_is (et_test (ev_op (ev_var rfl) ev_c (rv_eq rfl))) (Ht.dS c s46)) (fun q2 H2 e2 => ?_) (fun q2 H2 e2 => ?_)
  · have q2 := of_decide_eq_true q2
    have e : rdThing (TL.tl z) (riL (TL.tl z)) k p = .ok .non (p + 1) := by
      unfold rdThing
      rw [hc]
      dsimp only
      rw [if_pos q2]
    exact right_ret hk e (E0.trans e2) ev_c .non (ev_is (ev_op (ev_var rfl) ev_c rv_I0) (by rw [show ((p + 1 : Nat) : Int) = (p : Int) + 1 by omega]))
  have q2 := of_decide_eq_false q2
  refine q_when (b := decide (c = 39)) (et_is (et_test (ev_op (ev_var rfl) ev_c (rv_eq rfl))) (Ht.dS c s39)) (fun q3 H3 e3 => ?_) (fun q3 H3 e3 => ?_)
  · have q3 := of_decide_eq_true q3
    have e : rdThing (TL.tl z) (riL (TL.tl z)) k p = rdStr (TL.tl z) (TL.tl z).length (p + 1) [] := by
      unfold rdThing
      rw [hc]
      dsimp only
      rw [if_neg q2, if_pos q3]
    rw [e] at hk
    refine s_retC (sp := spLS) (dvs := []) (vs := [.str z, .int ((p + 1 : Nat) : Int)]) (ea_cons (ev_var rfl) (ea_cons (ev_is (ev_op (ev_var rfl) ev_c rv_I0) (by rw [show ((p + 1 : Nat) : Int) = (p : Int) + 1 by omega])) ea_nil)) fun H4 e4 => ?_
    exact ⟨z, p + 1, rfl, hz, by omega, by omega, hk.ex (((E0.trans e2).trans e3).trans e4)⟩
  have q3 := of_decide_eq_false q3
  refine q_when (b := decide (c = 40)) (et_is (et_test (ev_op (ev_var rfl) ev_c (rv_eq rfl))) (Ht.dS c s40)) (fun q4 H4 e4 => ?_) (fun q4 H4 e4 => ?_)
  · have y4 := of_decide_eq_true q4
    have E4 := ((E0.trans e2).trans e3).trans e4
    refine s_retIf (b := decide (d < 30)) (et_is (et_test (ev_op (ev_var rfl) ev_c rv_I0)) (dL d 30)) (fun q5 H5 e5 => ?_) (fun q5 H5 e5 => ?_)
    · have q5 := of_decide_eq_true q5
      obtain ⟨k', rfl⟩ : ∃ k', k = k' + 1 := ⟨k - 1, by omega⟩
      have e : rdThing (TL.tl z) (riL (TL.tl z)) (k' + 1) p = rdTupL (TL.tl z) k' (p + 1) := by
        unfold rdThing
        rw [hc]
        dsimp only
        rw [if_neg q2, if_neg q3, if_pos y4]
        rfl
      rw [e] at hk
      refine s_retC (sp := spLTu k') (dvs := []) (vs := [.str z, .int ((p + 1 : Nat) : Int), .int ((d + 1 : Nat) : Int)]) (ea_cons (ev_var rfl) (ea_cons (ev_is (ev_op (ev_var rfl) ev_c rv_I0) (by rw [show ((p + 1 : Nat) : Int) = (p : Int) + 1 by omega])) (ea_cons (ev_is (ev_op (ev_var rfl) ev_c rv_I0) (by rw [show ((d + 1 : Nat) : Int) = (d : Int) + 1 by omega])) ea_nil))) fun H6 e6 => ?_
      exact ⟨z, p + 1, d + 1, rfl, by omega, hz, by omega, by omega, hk.ex ((E4.trans e5).trans e6)⟩
    · have q5 := of_decide_eq_false q5
      have hk0 : k = 0 := by omega
      subst hk0
      have e : rdThing (TL.tl z) (riL (TL.tl z)) 0 p = .bad p := by
        unfold rdThing
        rw [hc]
        dsimp only
        rw [if_neg q2, if_neg q3, if_pos y4]
      exact wrong_ret hk e (E4.trans e5) (ev_var rfl)
  · have n4 := of_decide_eq_false q4
    have e : rdThing (TL.tl z) (riL (TL.tl z)) k p = riL (TL.tl z) p := by
      unfold rdThing
      rw [hc]
      dsimp only
      rw [if_neg q2, if_neg q3, if_neg n4]
    rw [e] at hk
    refine s_retC (sp := spLI) (dvs := []) (vs := [.str z, .int (p : Int)]) (ea_cons (ev_var rfl) (ea_cons (ev_var rfl) ea_nil)) fun H5 e5 => ?_
    exact ⟨z, p, rfl, hz, by omega, hk.ex ((((E0.trans e2).trans e3).trans e4).trans e5)⟩
/-- found + (thing,) -/
theorem cat_one {σ : L2.St} {H : Hp} {K : PySem.W.Frag} {ta tb : TE} {a : Addr} {vs : List V} {v : V} {Q : VK} (h : Ev ta σ H (.ref a)) (ha : H a = some (.tup vs)) (hv : Ev tb σ H v) (hz : vs.length ≤ 50000) (k : ∀ p H1, Ex H H1 → H1 p = some (.tup (vs ++ [v])) → Q (.ref p) H1) :
    tOp (rCatA K) ta (tTup (tCons tb tNil)) σ H Q := h H (Ex.refl H) _ fun H1 e1 => eu_tup (ea_cons hv ea_nil) (by show (1 : Nat) ≤ 100000; decide) H1 e1 _ fun b H2 hb e2 h2 => by
  have E := e1.trans e2
  refine ⟨a, b, vs, [v], rfl, rfl, st_of (E _ _ ha), st_of h2, sz_of (by show vs.length + 1 ≤ 100000; omega), fun e => ?_, fun _ e => absurd e (List.cons_ne_nil _ _), fun _ _ p hp => ?_⟩
  · subst e
    exact k b H2 E h2
  · exact k p _ (E.trans (Ex.new hp)) upd_same
theorem ok_LTu {f fT : Addr} {fd dT : FuncData} (F : Fun K "_law_read_tuple" "_law_read_tuple" lReadTup f fd) (B : Bt mg) (DT : Df K mg "_law_first_wrong" lFirst ["text", "at", "deep"] fT dT) (k : Nat) (G : FnOk P w K mg base CX0 (1 + 2 * k + 1) fT dT ["text", "at", "deep"] (spLT k)) :
    FnOk P w K mg base CX0 (1 + 2 * k + 1 + 1) f fd ["text", "at", "deep"] (spLTu k) := by
  refine F.ok scLTu (fun vs H Q E h => ?_) (fun cdv A outer s H vs Q E hr h => ?_)
  · obtain ⟨z, p, d, rfl, _⟩ := h
    rfl
  obtain ⟨z, p0, d, rfl, hdk, hz, hp1, hp2, hk⟩ := h
  refine ⟨_, pss_cons (ps_set (i := 3) scLTu.nd rfl (.inl rfl) (pe_tup pa_nil))
    (pss_cons (ps_if (PW.pt (pw_and (pt_cmpR op_lt (pv 1) (pe_callB call_len_str (by rfl) B.len PySem.boot_len (pa_cons (pv 0) pa_nil)) (nomark _)) (pw_and1 (pt_cmpR op_eq (pe_ix ix_str (pv 0) (pv 1) (fun _ _ => rfl)) pe_str (nomark _)))))
      (pss_one (ps_ret (pe_tup (pa_cons (pe_tup pa_nil) (pa_cons (pe_op op_add (pv 1) pe_int) (pa_cons pe_bl pa_nil)))))) pss_nil)
    (pss_one (ps_while PassesOwn.never (pt_val pe_bl)
      (pss_cons (ps_asg (pe_call G hr (by rfl) DT.g DT.F.kp DT.b .nil pass0 (pa_cons (pv 0) (pa_cons (pv 1) (pa_cons (pv 2) pa_nil)))) (pg_tup rfl (pgs_cons (pg_name (i := 4) scLTu.nd rfl (.inl rfl)) (pgs_cons (pg_name (i := 1) scLTu.nd rfl (.inl rfl)) (pgs_cons (pg_name (i := 5) scLTu.nd rfl (.inl rfl)) pgs_nil)))))
      (pss_cons (ps_if (pt_val (pv 5)) (pss_one (ps_ret (pe_tup (pa_cons pe_non (pa_cons (pv 1) (pa_cons pe_bl pa_nil)))))) pss_nil)
      (pss_cons (ps_set (i := 3) scLTu.nd rfl (.inl rfl) (pe_op op_catA (pv 3) (pe_tup (pa_cons (pv 4) pa_nil))))
      (pss_cons (ps_if (PW.pt (pw_and (pt_cmpR op_lt (pv 1) (pe_callB call_len_str (by rfl) B.len PySem.boot_len (pa_cons (pv 0) pa_nil)) (nomark _)) (pw_and1 (pt_cmpR op_eq (pe_ix ix_str (pv 0) (pv 1) (fun _ _ => rfl)) pe_str (nomark _)))))
        (pss_one (ps_ret (pe_tup (pa_cons (pv 3) (pa_cons (pe_op op_add (pv 1) pe_int) (pa_cons pe_bl pa_nil)))))) pss_nil)
      (pss_cons (ps_if (PW.pt (pw_or (pt_cmpR op_eq (pv 1) (pe_callB call_len_str (by rfl) B.len PySem.boot_len (pa_cons (pv 0) pa_nil)) (nomark _)) (pw_or1 (pt_cmpR op_ne (pe_ix ix_str (pv 0) (pv 1) (fun _ _ => rfl)) pe_str (nomark _)))))
        (pss_one (ps_ret (pe_tup (pa_cons pe_non (pa_cons (pv 1) (pa_cons pe_bl pa_nil)))))) pss_nil)
      (pss_one (ps_set (i := 1) scLTu.nd rfl (.inl rfl) (pe_op op_add (pv 1) pe_int)))))))))))
    , ?_⟩
  have hz1 : z.length ≤ 100000 := by omega
  have hlz := TL.len_tl z
  obtain ⟨cs, hcs⟩ : ∃ cs, TL.tl z = cs := ⟨_, rfl⟩
  rw [hcs] at hk hlz
  refine q_asgU (eu_tup ea_nil (by show (0 : Nat) ≤ 100000; decide)) fun a0 H0 ha0 e0 h0 => ?_
  refine q_when (b := decide (p0 < z.length) && (match cs[p0]? with | some c => decide (c = 41) | none => true)) (et_and (et_lt (ev_var rfl) (ev_var rfl) hz1) (fun q => ?_)) (fun q H1 e1 => ?_) (fun q H1 e1 => ?_)
  · have q1 := of_decide_eq_true q
    cases hc : cs[p0]? with
    | none => exact absurd (ge_len hc) (by omega)
    | some c => exact et_sign (ev_var rfl) (ev_var rfl) hz1 (by rw [hcs]; exact hc) s41
  · obtain ⟨q1, q2⟩ := Bool.and_eq_true_iff.mp q
    have q1 := of_decide_eq_true q1
    obtain ⟨c, hc⟩ : ∃ c, cs[p0]? = some c := ⟨_, List.getElem?_eq_getElem (by omega)⟩
    rw [hc] at q2
    have q2 := of_decide_eq_true q2
    have e : rdTupL cs k p0 = .ok (.tup []) (p0 + 1) := by
      unfold rdTupL
      rw [if_pos (by rw [hc, q2])]
    refine s_retTrip (eu_tup ea_nil (by show (0 : Nat) ≤ 100000; decide)) (fun H2 e2 => ev_op (ev_var rfl) ev_c rv_I0) fun p t H2 e2 h2 h3 => ?_
    refine hk.ok e (.ref p) t H2 ((e0.trans e1).trans e2) (.tup h2 .nil) ?_
    rw [h3, show ((p0 + 1 : Nat) : Int) = (p0 : Int) + 1 by omega]
  have hR : rdTupL cs k p0 = rdItems cs (rdThing cs (riL cs) k) cs.length p0 [] := by
    unfold rdTupL
    refine if_neg fun z => ?_
    have := (List.getElem?_eq_some_iff.mp z).1
    rw [z, decide_eq_true (by omega)] at q
    cases q
  rw [hR] at hk
  clear hR q
  generalize hR : rdItems cs (rdThing cs (riL cs) k) cs.length p0 [] = R0 at hk
  refine s_while (fun m σ' H' => ∃ (p : Nat) (a : Addr) (vs : List V) (us : List U) (x4 x5 : Option V), σ' = [some (.str z), some (.int (p : Int)), some (.int (d : Int)), some (.ref a), x4, x5] ∧ Ex H H' ∧ H' a = some (.tup vs) ∧ OdL H' vs us ∧ p ≤ cs.length ∧ cs.length + 1 ≤ p + m ∧ us.length ≤ p ∧ rdItems cs (rdThing cs (riL cs) k) m p us = R0) cs.length
    ⟨p0, a0, [], [], none, none, rfl, e0.trans e1, e1 _ _ h0, .nil, by omega, by omega, by simp, hR⟩ ?_
  rintro m σ' H' ⟨p, a, vs, us, x4, x5, rfl, ex, hl, hod, hp, hm, hu, hr0⟩
  refine ⟨true, et_B ev_c, fun _ H3 e3 => ?_, fun q => by cases q⟩
  obtain ⟨m', rfl⟩ : ∃ m', m = m' + 1 := ⟨m - 1, by omega⟩
  unfold rdItems at hr0
  refine ⟨_, fun σ2 H4 hN => ⟨m', by omega, hN⟩, ?_⟩
  refine q_asgC (sp := spLT k) (dvs := []) (vs := [.str z, .int (p : Int), .int (d : Int)]) (ea_cons (ev_var rfl) (ea_cons (ev_var rfl) (ea_cons (ev_var rfl) ea_nil))) fun H4 e4 => ?_
  refine ⟨z, p, d, rfl, hdk, hz, by omega, ?_⟩
  rw [hcs]
  have E4 := (ex.trans e3).trans e4
  cases hrd : rdThing cs (riL cs) k p with
  | bad e =>
    rw [hrd] at hr0
    intro t H5 s5 h5
    refine ⟨t, _, rfl, st_of h5, rfl, .non, _, rfl, .int (e : Int), _, rfl, .bl true, [], rfl, rfl, ?_⟩
    show tSeq _ _ _ [some (.str z), some (.int (e : Int)), some (.int (d : Int)), some (.ref a), some .non, some (.bl true)] H5
    refine q_when (b := true) (et_B (ev_var rfl)) (fun _ H6 e6 => ?_) (fun q => by cases q)
    exact wrong_ret hk hr0.symm ((E4.trans s5).trans e6) (ev_var rfl)
  | ok u q =>
    rw [hrd] at hr0
    dsimp only at hr0
    obtain ⟨b1, b2, b3⟩ := rdThing_ok (cs := cs) (ri := riL cs) (fun p u q h => riL_ok h) k p u q hrd
    intro v t H5 s5 o5 h5
    refine ⟨t, _, rfl, st_of h5, rfl, v, _, rfl, .int (q : Int), _, rfl, .bl false, [], rfl, rfl, ?_⟩
    show tSeq _ _ _ [some (.str z), some (.int (q : Int)), some (.int (d : Int)), some (.ref a), some v, some (.bl false)] H5
    have hl5 : H5 a = some (.tup vs) := s5 _ _ (e4 _ _ (e3 _ _ hl))
    have hlen := OdL.length hod
    refine q_when (b := false) (et_B (ev_var rfl)) (fun q => by cases q) (fun _ H6 e6 => ?_)
    refine q_asgAny (cat_one (K := K) (ev_var rfl) (e6 _ _ hl5) (ev_var rfl) (by omega) fun a2 H7 e7 h7 => ?_)
    have E7 := ((E4.trans s5).trans e6).trans e7
    have od7 : OdL H7 (vs ++ [v]) (us ++ [u]) := OdL.append (hod.ex ((((e3.trans e4).trans s5).trans e6).trans e7)) (.cons (o5.ex (e6.trans e7)) .nil)
    show tSeq _ _ _ [some (.str z), some (.int (q : Int)), some (.int (d : Int)), some (.ref a2), some v, some (.bl false)] H7
    cases hc : cs[q]? with
    | none =>
      have hlen := ge_len hc
      rw [hc, if_neg (by intro z; cases z), if_neg (by intro z; cases z)] at hr0
      refine q_when (b := false && true) (et_and (a := false) (b := true) (et_is (et_lt (ev_var rfl) (ev_var rfl) hz1) (decide_eq_false (by omega))) (fun q => by cases q)) (fun q => by cases q) (fun _ H8 e8 => ?_)
      refine q_when (b := true) (et_or (a := true) (b := true) (et_is (et_end (ev_var rfl) (ev_var rfl) hz1) (decide_eq_true (by omega))) (fun q => by cases q)) (fun _ H9 e9 => ?_) (fun q => by cases q)
      exact wrong_ret hk hr0.symm ((E7.trans e8).trans e9) (ev_var rfl)
    | some c =>
      have hlq := (List.getElem?_eq_some_iff.mp hc).1
      have hcz : (TL.tl z)[q]? = some c := by rw [hcs]; exact hc
      rw [hc] at hr0
      refine q_when (b := true && decide (c = 41)) (et_and (a := true) (et_is (et_lt (ev_var rfl) (ev_var rfl) hz1) (decide_eq_true (by omega))) (fun _ => et_sign (ev_var rfl) (ev_var rfl) hz1 hcz s41)) (fun q5 H8 e8 => ?_) (fun q5 H8 e8 => ?_)
      · have q5 : c = 41 := of_decide_eq_true q5
        rw [if_pos (by rw [q5])] at hr0
        exact right_ret hk hr0.symm (E7.trans e8) (ev_var rfl) (.tup (e8 _ _ h7) (od7.ex e8)) (ev_is (ev_op (ev_var rfl) ev_c rv_I0) (by rw [show ((q + 1 : Nat) : Int) = (q : Int) + 1 by omega]))
      · have q5 : c ≠ 41 := of_decide_eq_false q5
        rw [if_neg (fun z => q5 (Option.some.inj z))] at hr0
        refine q_when (b := false || !decide (c = 44)) (et_or (a := false) (et_is (et_end (ev_var rfl) (ev_var rfl) hz1) (decide_eq_false (by omega))) (fun _ => et_nsign (ev_var rfl) (ev_var rfl) hz1 hcz s44)) (fun q6 H9 e9 => ?_) (fun q6 H9 e9 => ?_)
        · have n44 : c ≠ 44 := fun e => by rw [decide_eq_true e] at q6; cases q6
          rw [if_neg (fun z => n44 (Option.some.inj z))] at hr0
          exact wrong_ret hk hr0.symm ((E7.trans e8).trans e9) (ev_var rfl)
        · have y44 : c = 44 := by
            by_cases z : c = 44
            · exact z
            · rw [decide_eq_false z] at q6
              cases q6
          rw [if_pos (by rw [y44])] at hr0
          refine s_asg (v := .int ((q + 1 : Nat) : Int)) (ev_is (ev_op (ev_var rfl) ev_c rv_I0) (by rw [show ((q + 1 : Nat) : Int) = (q : Int) + 1 by omega])) fun H10 e10 => ?_
          have e11 := (e8.trans e9).trans e10
          exact ⟨q + 1, a2, vs ++ [v], us ++ [u], some v, some (.bl false), rfl, E7.trans e11, e11 _ _ h7, od7.ex e11, by omega, by omega, by rw [List.length_append, List.length_singleton]; omega, hr0⟩
theorem ok_LTs {f fT fS fN : Addr} {fd dT dS dN : FuncData} (D : Df K mg "_law_first_wrong" lFirst ["text", "at", "deep"] f fd) (B : Bt mg) (DT : Df K mg "_law_read_tuple" lReadTup ["text", "at", "deep"] fT dT) (DS : Df K mg "_law_read_string" lReadStr ["text", "at"] fS dS)
    (DN : Df K mg "_law_read_integer" lReadInt ["text", "at"] fN dN) : ∀ k : Nat, FnOk P w K mg base CX0 (1 + 2 * k + 1) f fd ["text", "at", "deep"] (spLT k)
  | 0 => ok_LT D.F B DT DS DN 0 ⟨fun _ _ _ _ h => h.elim, fun _ _ _ _ _ _ _ _ _ _ _ _ _ h => h.elim⟩
  | k + 1 => ok_LT D.F B DT DS DN (k + 1) (by
      have h := ok_LTu (P := P) (w := w) (base := base) DT.F B D k (ok_LTs D B DT DS DN k)
      exact h)
/-- where the law's readers stand -/
structure Lr (K : PySem.W.Frag) (mg : Str → Option Value) : Prop where
  B : Bt mg
  T : ∃ f d, Df K mg "_law_first_wrong" lFirst ["text", "at", "deep"] f d
  U : ∃ f d, Df K mg "_law_read_tuple" lReadTup ["text", "at", "deep"] f d
  S : ∃ f d, Df K mg "_law_read_string" lReadStr ["text", "at"] f d
  I : ∃ f d, Df K mg "_law_read_integer" lReadInt ["text", "at"] f d
def spLU : Sp := fun vs H Q _ => ∃ (z : Str), vs = [.str z] ∧ z.length ≤ 20000 ∧ ∀ (t : Addr) (H' : Hp), Same H H' → Od H' (.ref t) (toU (unU (.str z))) → Q (.ref t) H'
theorem scLU : FnScope ["text", "thing", "at", "wrong"] ["text"] (defScope lUnpacked) := ⟨rfl, rfl, rfl, by decide +kernel, rfl, by decide +kernel, by decide +kernel⟩
theorem unU_str (z : Str) : unU (.str z) = match whole (TL.tl z) (rdThing (TL.tl z) (riL (TL.tl z)) 30 0) with | .inl u => .inl u | .inr e => .inr (e : Int) := by
  rw [← whole_alike]
  rfl
theorem ok_LU {f : Addr} {fd : FuncData} (F : Fun K "_law_unpacked" "_law_unpacked" lUnpacked f fd) (R : Lr K mg) : FnOk P w K mg base CX0 63 f fd ["text"] spLU := by
  obtain ⟨B, ⟨fT, dT, DT⟩, ⟨fU, dU, DU⟩, ⟨fS, dS', DS⟩, ⟨fN, dN, DN⟩⟩ := R
  have GT : FnOk P w K mg base CX0 62 fT dT ["text", "at", "deep"] (spLT 30) := ok_LTs DT B DU DS DN 30
  refine F.ok scLU (fun vs H Q E h => ?_) (fun cdv A outer s H vs Q E hr h => ?_)
  · obtain ⟨z, rfl, _⟩ := h
    rfl
  obtain ⟨z, rfl, hz, hk⟩ := h
  refine ⟨_, pss_cons (ps_asg (pe_call GT hr (by rfl) DT.g DT.F.kp DT.b .nil pass0 (pa_cons (pv 0) (pa_cons pe_int (pa_cons pe_int pa_nil)))) (pg_tup rfl (pgs_cons (pg_name (i := 1) scLU.nd rfl (.inl rfl)) (pgs_cons (pg_name (i := 2) scLU.nd rfl (.inl rfl)) (pgs_cons (pg_name (i := 3) scLU.nd rfl (.inl rfl)) pgs_nil)))))
    (pss_cons (ps_if (pt_val (pv 3)) (pss_one (ps_ret (pe_tup (pa_cons pe_str (pa_cons (pv 2) pa_nil))))) pss_nil)
    (pss_one (ps_ret (pe_ifExp (pt_cmpR op_eq (pv 2) (pe_callB call_len_str (by rfl) B.len PySem.boot_len (pa_cons (pv 0) pa_nil)) (nomark _)) (pe_tup (pa_cons pe_str (pa_cons (pv 1) pa_nil))) (pe_tup (pa_cons pe_str (pa_cons (pv 2) pa_nil))))))), ?_⟩
  have hz1 : z.length ≤ 100000 := by omega
  have hlz := TL.len_tl z
  rw [unU_str] at hk
  refine q_asgC (sp := spLT 30) (dvs := []) (vs := [.str z, .int ((0 : Nat) : Int), .int ((0 : Nat) : Int)]) (ea_cons (ev_var rfl) (ea_cons ev_c (ea_cons ev_c ea_nil))) fun H2 e2 => ?_
  refine ⟨z, 0, 0, rfl, rfl, hz, by omega, ?_⟩
  cases hrd : rdThing (TL.tl z) (riL (TL.tl z)) 30 0 with
  | bad e =>
    rw [hrd] at hk
    intro t H5 s5 h5
    refine ⟨t, _, rfl, st_of h5, rfl, .non, _, rfl, .int (e : Int), _, rfl, .bl true, [], rfl, rfl, ?_⟩
    show tSeq _ _ _ [some (.str z), some .non, some (.int (e : Int)), some (.bl true)] H5
    refine q_when (b := true) (et_B (ev_var rfl)) (fun _ H6 e6 => ?_) (fun q => by cases q)
    refine s_retU (eu_tup (ea_cons ev_c (ea_cons (ev_var rfl) ea_nil)) (by show (2 : Nat) ≤ 100000; decide)) fun t H7 ht e7 h7 => ?_
    exact hk t H7 (((e2.trans s5).trans e6).trans e7) (.tup h7 (.cons (.str _) (.cons (.int _) .nil)))
  | ok u q =>
    rw [hrd] at hk
    unfold whole at hk
    dsimp only at hk
    intro v t H5 s5 o5 h5
    refine ⟨t, _, rfl, st_of h5, rfl, v, _, rfl, .int (q : Int), _, rfl, .bl false, [], rfl, rfl, ?_⟩
    show tSeq _ _ _ [some (.str z), some v, some (.int (q : Int)), some (.bl false)] H5
    refine q_when (b := false) (et_B (ev_var rfl)) (fun q => by cases q) (fun _ H6 e6 => ?_)
    refine s_retIf (b := decide (q = z.length)) (et_end (ev_var rfl) (ev_var rfl) hz1) (fun q2 H7 e7 => ?_) (fun q2 H7 e7 => ?_)
    · have q2 := of_decide_eq_true q2
      rw [if_pos (by omega)] at hk
      refine s_retU (eu_tup (ea_cons ev_c (ea_cons (ev_var rfl) ea_nil)) (by show (2 : Nat) ≤ 100000; decide)) fun t H8 ht e8 h8 => ?_
      exact hk t H8 ((((e2.trans s5).trans e6).trans e7).trans e8) (.tup h8 (.cons (.str _) (.cons (o5.ex ((e6.trans e7).trans e8)) .nil)))
    · have q2 := of_decide_eq_false q2
      rw [if_neg (by omega)] at hk
      refine s_retU (eu_tup (ea_cons ev_c (ea_cons (ev_var rfl) ea_nil)) (by show (2 : Nat) ≤ 100000; decide)) fun t H8 ht e8 h8 => ?_
      exact hk t H8 ((((e2.trans s5).trans e6).trans e7).trans e8) (.tup h8 (.cons (.str _) (.cons (.int _) .nil)))
end
end Ht
/-! s[::-1] of a text; _law_changed -/
namespace Ht
open PySem PySem.Spec PyProof.Rows L2 Hu Evl
def revZ (z : Str) : Str := ⟨((Builtin.Str.strSliceIndices none none (-1) z.length).filterMap (z.cps[·]?)).toArray⟩
theorem revZ_len (z : Str) : (revZ z).length ≤ z.length := by
  show (((Builtin.Str.strSliceIndices none none (-1) z.length).filterMap (z.cps[·]?)).toArray).size ≤ _
  rw [List.size_toArray]
  exact Nat.le_trans (List.length_filterMap_le _ _) (sliceIndicesBy_le none none (-1) (by decide) z.length)
def tRevS (te : TE) : TE := fun σ H Q => te σ H fun x H1 => ∃ z, x = .str z ∧ z.length ≤ sizeLine ∧ Q (.str (revZ z)) H1
section
variable {X : Cx}
theorem pe_revS {e : Expr} {te : TE} {k : Nat} {p1 p2 p3 pos : Pos} (he : PE X e te) : PE X (.Subscript e (.Slice none none (some (.UnaryOp .USub (.Constant (.int 1) k p1) p2)) p3) pos) (tRevS te) := by
  refine ⟨fun pins s σ H Q I h => ?_⟩
  refine Subscript_ (thn (he.run pins s σ H _ I h) fun v s1 ⟨x, H1, I1, r1, q1⟩ => ?_)
  obtain ⟨z, ex, hz, q⟩ := q1
  subst ex
  obtain ⟨t, rfl⟩ := r1
  have hst : PO X (some (.UnaryOp .USub (.Constant (.int 1) k p1) p2)) (tPart (tUn (rU fun i => .int (-i)) (tC (.int 1)))) := po_some (pe_un un_neg pe_int)
  refine wpAny_Slice (thn (po_none.run pins s1 σ H1 (fun o H2 => o = none ∧ H2 = H1) I1 ⟨rfl, rfl⟩) fun vl s2 ⟨l, H2, I2, pl, el, e2⟩ => ?_)
  subst el e2
  refine thn (po_none.run pins s2 σ H2 (fun o H3 => o = none ∧ H3 = H2) I2 ⟨rfl, rfl⟩) fun vu s3 ⟨u, H3, I3, pu, eu, e3⟩ => ?_
  subst eu e3
  refine thn (hst.run pins s3 σ H3 (fun o H4 => o = some (-1) ∧ H4 = H3) I3 ⟨1, rfl, -1, rfl, rfl, rfl⟩) fun vs s4 ⟨o, H4, I4, ps, eo, e4⟩ => ?_
  subst eo e4
  have I5 : Inv X pins σ H4 { s4 with heap := s4.heap.push { cls := .type "slice", data := .fields #[vl, vu, vs] } } := I4.kept (t' := s4.toks) fun b ob q => Heap.get?_push_of_some _ q
  obtain ⟨l, rfl, hl⟩ := IsPart.raw pl
  obtain ⟨u, rfl, hu⟩ := IsPart.raw pu
  obtain ⟨st, rfl, hs⟩ := IsPart.raw ps
  show wpAny (model X.prog X.w) X.A (subscriptTail e (.Slice none none (some (.UnaryOp .USub (.Constant (.int 1) k p1) p2)) p3) (.str z t) (.ref s4.heap.objs.size)) (EP X pins σ Q) X.xe { s4 with heap := s4.heap.push { cls := .type "slice", data := .fields #[partValue l, partValue u, partValue st] } }
  refine tail_any (ops := [.str z t, .ref s4.heap.objs.size]) (typeIs_str _ _ _) F.slot_str_getitem.lookup ?_ (by with_unfolding_all rfl)
  refine wpAny_getItem_str_slice (l := l) (u := u) (st := st) ⟨_, Heap.get?_push_size _ rfl, rfl, rfl⟩ (by rw [hs]; rfl) ?_
  unfold sliceMade slicePicked
  rw [hs, hl, hu]
  rw [if_neg (by simp)]
  exact ⟨Nat.le_trans (revZ_len z) hz, .str _, H4, I5.tok _, ⟨_, rfl⟩, q⟩
end
section
variable {σ : L2.St} {H : Hp} {te : TE}
theorem ev_revS {z : Str} (h : Ev te σ H (.str z)) (hz : z.length ≤ 100000) : Ev (tRevS te) σ H (.str (revZ z)) := fun H1 e Q q => h H1 e _ fun H2 e2 => ⟨z, rfl, sz_of hz, q H2 e2⟩
theorem ev_addS {ta tb : TE} {a b : Str} (ha : Ev ta σ H (.str a)) (hb : Ev tb σ H (.str b)) (h : a.length + b.length ≤ 200000) : Ev (tOp rAddZ ta tb) σ H (.str (a ++ b)) := ev_op ha hb (rv_addZ h)
end
theorem app_len (a b : Str) : (a ++ b).length = a.length + b.length := by rw [TL.len_tl, TL.tl_append, List.length_append, ← TL.len_tl, ← TL.len_tl]
abbrev lChanged : Stmt := topS 41
section
variable {P : Program} {w : World} {K : PySem.W.Frag} {mg : Str → Option Value} {base : Heap} {fD : Addr} {dD : FuncData}
def spCh : Sp := fun vs H Q _ => ∃ (wl : WA) (z : Str), vs = [.ref wl.w, .str z] ∧ Well H wl ∧ z.length ≤ 5000 ∧ ∀ (z' : Str) (H' : Hp), z'.length ≤ 3 * z.length + 1 → Drawn wl H H' → Q (.str z') H'
theorem scCh : FnScope ["hand", "text", "at", "sign", "things"] ["hand", "text"] (defScope lChanged) := ⟨rfl, rfl, rfl, by decide +kernel, rfl, by decide +kernel, by decide +kernel⟩
set_option maxHeartbeats 4000000 in
theorem ok_changed {f fA : Addr} {fd dA : FuncData} (F : Fun K "_law_changed" "_law_changed" lChanged f fd) (B : Bt mg) (D : Dd P w K mg base fD dD) (DA : Df K mg "_law_any" sAny ["hand", "things"] fA dA) : FnOk P w K mg base CX0 3 f fd ["hand", "text"] spCh := by
  have GA : FnOk P w K mg base CX0 2 fA dA ["hand", "things"] spAnyL := ok_anyL DA.F B D
  have GS : FnOk P w K mg base CX0 2 fA dA ["hand", "things"] spAnyS := ok_anyS DA.F B D
  refine F.ok scCh (fun vs H Q E h => ?_) (fun cdv A outer s H vs Q E hr h => ?_)
  · obtain ⟨wl, z, rfl, _⟩ := h
    rfl
  obtain ⟨wl, z, rfl, W, hz, k⟩ := h
  refine ⟨_, pss_cons (ps_set (i := 2) scCh.nd rfl (.inl rfl) (pe_draw D hr (by decide) (by rfl) (pv 0) (pe_op op_add (pe_callB call_len_str (by rfl) B.len PySem.boot_len (pa_cons (pv 1) pa_nil)) pe_int)))
    (pss_cons (ps_set (i := 3) scCh.nd rfl (.inl rfl) (pe_call GS hr (by rfl) DA.g DA.F.kp DA.b .nil pass0 (pa_cons (pv 0) (pa_cons pe_str pa_nil))))
    (pss_cons (ps_set (i := 4) scCh.nd rfl (.inl rfl) (pe_lst
      (pa_cons (pe_op op_add_str (pe_op op_add_str (pe_slice sl_str (pv 1) po_none (po_some (pv 2))) (pv 3)) (pe_slice sl_str (pv 1) (po_some (pv 2)) po_none))
      (pa_cons (pe_op op_add_str (pe_slice sl_str (pv 1) po_none (po_some (pv 2))) (pe_slice sl_str (pv 1) (po_some (pe_op op_add (pv 2) pe_int)) po_none))
      (pa_cons (pe_op op_add_str (pe_op op_add_str (pe_slice sl_str (pv 1) po_none (po_some (pv 2))) (pv 3)) (pe_slice sl_str (pv 1) (po_some (pe_op op_add (pv 2) pe_int)) po_none))
      (pa_cons (pe_slice sl_str (pv 1) po_none (po_some (pv 2))) pa_nil))))))
    (pss_cons (ps_expr (pe_bm PySem.F.plainAttrs_list PySem.F.slot_list_extend PySem.F.type_list_extend mt_extend (pv 4) (pa_cons (pe_lst
      (pa_cons (pe_op op_add_str (pe_op op_add_str (pe_slice sl_str (pv 1) po_none (po_some (pv 2))) (pe_revS (pe_slice sl_str (pv 1) (po_some (pv 2)) (po_some (pe_op op_add (pv 2) pe_int))))) (pe_slice sl_str (pv 1) (po_some (pe_op op_add (pv 2) pe_int)) po_none))
      (pa_cons (pe_op op_add_str (pv 1) (pv 3))
      (pa_cons (pe_op op_add_str (pv 1) (pv 1))
      (pa_cons (pe_slice sl_str (pv 1) (po_some (pv 2)) po_none) pa_nil))))) pa_nil)))
    (pss_one (ps_ret (pe_call GA hr (by rfl) DA.g DA.F.kp DA.b .nil pass0 (pa_cons (pv 0) (pa_cons (pv 4) pa_nil)))))))), ?_⟩
  have hz1 : z.length ≤ 100000 := by omega
  refine ⟨_, rfl, _, rfl, z, rfl, sz_of hz1, _, _, rfl, rfl, wl, _, rfl, W, by omega, by omega, fun at_ H1 a0 a1 D1 => ?_⟩
  have l16 : (("ab'~(),.#-0129 \n" : Str)).length = 16 := by decide +kernel
  refine ⟨_, rfl, wl, _, rfl, D1.well, by rw [l16]; decide, by rw [l16]; decide, fun c H2 hc D2 => ?_⟩
  have W2 := (D1.trans D2).well
  have c1 : ∀ lo hi, (cutS z lo hi).length ≤ z.length := cutS_length z
  have c2 : ((⟨#[c]⟩ : Str)).length = 1 := rfl
  have evc : ∀ {lo hi : Option Int} {tl th : TO} {σ : L2.St} {H : Hp}, σ[1]? = some (some (.str z)) → EvO tl σ H lo → EvO th σ H hi → Ev (tSl rSlS (tVar 1) tl th) σ H (.str (cutS z lo hi)) := fun h a b => ev_slS (ev_var h) a b hz1
  have r1 := revZ_len (cutS z (some at_) (some (at_ + 2)))
  have ea : EvO (tPart (tVar 2)) [some (V.ref wl.w), some (.str z), some (.int at_), some (.str ⟨#[c]⟩), none] H2 (some at_) := eo_some (ev_var rfl)
  have ea1 : EvO (tPart (tOp (rI0 fun i j => .int (i + j)) (tVar 2) (tC (.int 1)))) [some (V.ref wl.w), some (.str z), some (.int at_), some (.str ⟨#[c]⟩), none] H2 (some (at_ + 1)) := eo_some (ev_op (ev_var rfl) ev_c rv_I0)
  refine q_asgL (el_lst (ea_cons (ev_addS (ev_addS (evc rfl eo_none ea) (ev_var rfl) (by rw [c2]; have := c1 none (some at_); omega)) (evc rfl ea eo_none) (by rw [app_len, c2]; have := c1 none (some at_); have := c1 (some at_) none; omega))
    (ea_cons (ev_addS (evc rfl eo_none ea) (evc rfl ea1 eo_none) (by have := c1 none (some at_); have := c1 (some (at_ + 1)) none; omega))
    (ea_cons (ev_addS (ev_addS (evc rfl eo_none ea) (ev_var rfl) (by rw [c2]; have := c1 none (some at_); omega)) (evc rfl ea1 eo_none) (by rw [app_len, c2]; have := c1 none (some at_); have := c1 (some (at_ + 1)) none; omega))
    (ea_cons (evc rfl eo_none ea) ea_nil)))) (by show (4 : Nat) ≤ 100000; decide)) fun L H3 hL e3 h3 => ?_
  have W3 := W2.same e3
  show tDrop _ { nx := _, rt := _, bk := _, ct := _ } [some (V.ref wl.w), some (.str z), some (.int at_), some (.str ⟨#[c]⟩), some (.ref L)] H3
  have fa : EvO (tPart (tVar 2)) [some (V.ref wl.w), some (.str z), some (.int at_), some (.str ⟨#[c]⟩), some (.ref L)] H3 (some at_) := eo_some (ev_var rfl)
  have fa2 : EvO (tPart (tOp (rI0 fun i j => .int (i + j)) (tVar 2) (tC (.int 2)))) [some (V.ref wl.w), some (.str z), some (.int at_), some (.str ⟨#[c]⟩), some (.ref L)] H3 (some (at_ + 2)) := eo_some (ev_op (ev_var rfl) ev_c rv_I0)
  refine ⟨_, rfl, .inl ⟨rfl, _, SqL.of h3⟩, (el_lst (ea_cons (ev_addS (ev_addS (evc rfl eo_none fa) (ev_revS (evc rfl fa fa2) (by have := c1 (some at_) (some (at_ + 2)); omega)) (by have := c1 none (some at_); have := c1 (some at_) (some (at_ + 2)); omega)) (evc rfl fa2 eo_none) (by rw [app_len]; have := c1 none (some at_); have := c1 (some at_) (some (at_ + 2)); have := c1 (some (at_ + 2)) none; omega))
    (ea_cons (ev_addS (ev_var rfl) (ev_var rfl) (by rw [c2]; omega))
    (ea_cons (ev_addS (ev_var rfl) (ev_var rfl) (by omega))
    (ea_cons (evc rfl fa eo_none) ea_nil)))) (by show (4 : Nat) ≤ 100000; decide)) H3 (Ex.refl H3) _ fun L2 H4 hL2 e4 h4 => ?_⟩
  have nL := (W2.ne hL).1
  have h3' := e4 _ _ h3
  refine ⟨L, L2, _, _, rfl, rfl, h3', h4, sz_of (by show (8 : Nat) ≤ 100000; decide), ?_⟩
  refine ⟨_, rfl, _, rfl, wl, L, _, rfl, ?_, upd_same, nL, by simp, by simp, fun x H5 hx D5 => ?_⟩
  · obtain ⟨cells, pos, rest, mix, cnt, q1, q2, n, l⟩ := (W3.same e4).ex
    have nc := (W2.ne hL).2
    exact ⟨cells, pos, rest, mix, cnt, by rw [upd_ne nL.symm]; exact q1, by rw [upd_ne nc.symm]; exact q2, n, l⟩
  · have D4 : ∀ o, Drawn wl H (upd H4 L o) := fun _ => ((D1.trans D2).same (e3.trans e4)).put W ((D1.trans D2).free W hL)
    have hs : ∃ s : Str, x = .str s ∧ s.length ≤ 3 * z.length + 1 := by
      simp only [List.cons_append, List.nil_append, List.mem_cons, List.not_mem_nil, or_false] at hx
      have b1 := c1 none (some at_)
      have b2 := c1 (some at_) none
      have b3 := c1 (some (at_ + 1)) none
      have b4 := c1 (some at_) (some (at_ + 2))
      have b5 := c1 (some (at_ + 2)) none
      rcases hx with rfl | rfl | rfl | rfl | rfl | rfl | rfl | rfl
      all_goals refine ⟨_, rfl, ?_⟩
      all_goals try simp only [app_len, c2]
      all_goals omega
    obtain ⟨s, rfl, hl⟩ := hs
    exact k s H5 hl ((D4 _).trans D5)
end
end Ht
/-! enumerate(text, start=k) -/
namespace En
open PySem PySem.Spec PyProof.Rows L2
open Sem (wp)
/-- the signs of a text, each in a new pair with its place, from k on -/
def Itn (x : Str) (k : Int) : It :=
  ⟨fun i _ => i < x.cps.size, fun i H v H' => ∃ T c, v = .ref T ∧ H T = none ∧ H' = upd H T (.tup [.int (k + (i : Int)), .str ⟨#[c]⟩]) ∧ x.cps[i]? = some c, fun i _ => x.cps.size = i⟩
theorem turn_enumS {P : Program} {w : World} {K : PySem.W.Frag} {elts : List Expr} {kk : Nat} {tpos : Pos} (x : Str) (t : Tok) (k : Int) (e it : Addr) :
    Turn P w K (.Tuple elts kk tpos) (Itn x k) [e, it] e (fun i h => (∃ old, IsEnum h e it (k + (i : Int)) old) ∧ h.IsStrIter it (strIterType x) x t i ∧ e ≠ it) where
  mem := by simp
  obj := fun i h st b hb => by
    obtain ⟨⟨old, he⟩, ⟨o, ho, hc, hd⟩, _⟩ := st
    have e' : b = e ∨ b = it := by simpa using hb
    rcases e' with z | z
    · rw [z]; exact ⟨_, he, fun v q => nomatch q⟩
    · rw [z]; exact ⟨o, ho, fun v q => by rw [hd] at q; cases q⟩
  keep := fun i h h' st k => let ⟨⟨old, he⟩, hi, hne⟩ := st; ⟨⟨old, k e (by simp) _ he⟩, (let ⟨o, ho, r⟩ := hi; ⟨o, k it (by simp) o ho, r⟩), hne⟩
  item := by
    intro X hP hw hK hc i pins s σ H E I hf st hg
    subst hP hw hK
    obtain ⟨⟨old, he⟩, hit, hne⟩ := st
    have hel : e < s.heap.objs.size := Heap.lt_size he
    have hil : it < s.heap.objs.size := by obtain ⟨_, q, _⟩ := hit; exact Heap.lt_size q
    refine wpAny_pyNext_enum_itemC (Draws.text (A := X.A.in1) (by exact I.ok.hd hc) it x t) he hit hg hne (by simpa using hne) fun u h' tk hu ho hit' hT hsz hk => ?_
    obtain ⟨c, u2, hcx, rfl⟩ := hu
    refine ⟨_, rfl, wpAny_letOwnedTupleGo_enum (s := { s with heap := h', toks := tk + 1 }) ho fun h'' he' sb => ?_⟩
    have hT2 : h''.get? s.heap.objs.size = some { cls := .type "tuple", data := .seq #[.int (k + (i : Int)) tk, .str ⟨#[c]⟩ u2] } := (sb.2 _ (Nat.ne_of_gt hel)).trans hT
    have new : ObjOk X.prog X.w (upd H s.heap.objs.size (.tup [.int (k + (i : Int)), .str ⟨#[c]⟩])) h'' s.heap.objs.size (.tup [.int (k + (i : Int)), .str ⟨#[c]⟩]) :=
      ⟨by show 2 ≤ sizeLine; decide, [.int (k + (i : Int)) tk, .str ⟨#[c]⟩ u2], .cons ⟨_, rfl⟩ (.cons ⟨_, rfl⟩ .nil), ⟨_, hT2, rfl, _, rfl⟩⟩
    have I1 : Inv X pins σ (upd H s.heap.objs.size (.tup [.int (k + (i : Int)), .str ⟨#[c]⟩])) { s with heap := h'', toks := tk + 1 } :=
      I.turnedNew (ch := [e, it]) (fun b ob hb q => (sb.2 b (fun z => hb (by simp [z]))).trans (hk b ob (fun z => hb (by simp [z])) (fun z => hb (by simp [z])) q)) hf (Nat.le_refl _) new
    refine ⟨.ref s.heap.objs.size, _, I1, rfl, ⟨_, c, rfl, I.hok.fresh (Nat.le_refl _), rfl, hcx⟩, ⟨⟨.str ⟨#[c]⟩ u2, ?_⟩, (let ⟨o, q, r⟩ := hit'; ⟨o, (sb.2 it (Ne.symm hne)).trans q, r⟩), hne⟩, fun b hb => ?_⟩
    · have e1 : k + ((i + 1 : Nat) : Int) = k + (i : Int) + 1 := by omega
      rw [e1]; exact he'
    · have hb' : b < s.heap.objs.size := by
        have e' : b = e ∨ b = it := by simpa using hb
        rcases e' with z | z
        · rw [z]; exact hel
        · rw [z]; exact hil
      rw [upd_ne (Nat.ne_of_lt hb')]
      exact (hf b hb).1
  done := by
    intro X hP hw hK hc i pins s σ H E I hf st hg
    subst hP hw hK
    obtain ⟨⟨old, he⟩, hit, hne⟩ := st
    obtain ⟨f0, f1, f2, f3, f4, f5⟩ := hf it (by simp)
    have hg' : x.cps.size = i := hg
    subst hg'
    exact wpAny_pyNext_enum_endD (Draws.text (A := X.A.in1) (by exact I.ok.hd hc) it x t) he hit fun h' eb => ⟨rfl, I.turned (t' := s.toks) (fun b o hb q => eb b o hb q) f0 f1 f3 f4 f5⟩
  self := fun A i s Q E st h => let ⟨⟨_, he⟩, _⟩ := st; wpAny_pyIter_enum he h
def iEnumS (ta tk : TA) : TI := fun σ H R => ta σ H fun vs H1 => tk σ H1 fun zs H2 => ∃ x k, vs = [.str x] ∧ zs = [.int k] ∧ 0 ≤ k ∧ k ≤ 1000000 ∧ R (Itn x k) H2
theorem pi_enumS {X : Cx} {e e2 : Expr} {ta : TA} {te2 : TE} {p pos tpos kp : Pos} {elts : List Expr} {kk : Nat} (hg : Gl X "enumerate") (hm : X.mg "enumerate" = none) (ha : PA X [e] ta) (hk : PE X e2 te2)
    (he : starEach [e] X.env = (false, eval e X.env) :: starEach [] X.env := by rfl) (hpl : ((backTo pos (starEach [e] X.env)).any (·.1) || (backToKw pos (keywordEach [⟨some "start", e2, kp⟩] X.env)).any (·.1.isNone)) = false := by rfl)
    (hall : (backToKw pos (keywordEach [⟨some "start", e2, kp⟩] X.env)).all (·.1.isSome) = true := by rfl) (hks : (backToKw pos (keywordEach [⟨some "start", e2, kp⟩] X.env)).filterMap (·.1) = [Str.ofString "start"] := by rfl) :
    PI X (.Tuple elts kk tpos) (.Call (.Name "enumerate" p) [e] [⟨some "start", e2, kp⟩] pos) (iEnumS ta (tCons te2 tNil)) := by
  refine ⟨fun pins s σ H R I h => ?_⟩
  refine wpAny_Call_Name_kw (ld_blt I hg hm boot_enumerate ?_ (by decide) (by decide))
  refine PySem.W.callWith_of (P := fun _ => True) hpl (fun h _ => ⟨Keeper.machine, .inr (.inl rfl), (show PySem.W.Looks _ h (pure Keeper.machine) Keeper.machine from .now)⟩) ?_
  refine evalArgs_kw2 hall (thn (ha.run pos pins s σ H _ I h) fun us s1 ⟨vs, H1, I1, r1, q1⟩ => thn ((pk_cons hk pk_nil).run pos pins s1 σ H1 _ I1 q1) fun ws s2 ⟨zs, H2, I2, r2, x, k, ev, ez, k0, k1, q⟩ => ⟨trivial, ?_⟩) he
  subst ev ez
  cases r1 with
  | cons rv rn =>
    cases rn
    obtain ⟨t, rfl⟩ := rv
    cases r2 with
    | cons rk rn2 =>
      cases rn2
      obtain ⟨t2, rfl⟩ := rk
      rw [hks]
      show wpAny _ _ (call (.type "enumerate") [.str x t] [(Str.ofString "start", .int k t2)]) _ _ s2
      refine enum_begins_start (begins_text x t) trivial (by omega) (by omega) fun h' hen hit hsz hkp => wpAny_pyIter_enum hen ?_
      have I3 : Inv X pins σ H2 { s2 with heap := h' } := I2.kept (t' := s2.toks) hkp
      refine ⟨s2.heap.objs.size + 1, [s2.heap.objs.size + 1, s2.heap.objs.size], _, _, H2, rfl, I3, turn_enumS x t k (s2.heap.objs.size + 1) s2.heap.objs.size, ⟨⟨.none, by rw [show k + ((0 : Nat) : Int) = k by omega]; exact hen⟩, ⟨_, hit, rfl, rfl⟩, Nat.succ_ne_self _⟩, fun b hb => ?_, q⟩
      have e' : b = s2.heap.objs.size + 1 ∨ b = s2.heap.objs.size := by simpa using hb
      have hle : s2.heap.objs.size ≤ b := by
        rcases e' with z | z
        · rw [z]; exact Nat.le_add_right _ _
        · rw [z]; exact Nat.le_refl _
      exact I2.fpOk hle (I2.hok.fresh hle)
end En
/-! k31: what is read is the text of what was told -/
namespace Ht
open PySem Hu L2
theorem drop_some {cs : List Nat} {p c : Nat} (h : cs[p]? = some c) : cs.drop p = c :: cs.drop (p + 1) := by
  obtain ⟨h1, h2⟩ := List.getElem?_eq_some_iff.mp h
  rw [List.drop_eq_getElem_cons h1, h2]
theorem rdStr_tx {cs : List Nat} : ∀ {n p : Nat} {acc : List Nat} {u : U} {q : Nat}, rdStr cs n p acc = .ok u q → ∃ l, u = .str (mkS (acc ++ l)) ∧ cs.drop p = escP l ++ 39 :: cs.drop q ∧ l.all okW = true
  | 0, p, acc, u, q, h => by
    unfold rdStr at h
    cases h
  | n + 1, p, acc, u, q, h => by
    unfold rdStr at h
    cases hc : cs[p]? with
    | none =>
      rw [hc] at h
      cases h
    | some c =>
      rw [hc] at h
      dsimp only at h
      have d1 := drop_some hc
      split at h
      · rename_i e
        cases h
        refine ⟨[], by rw [List.append_nil], ?_, rfl⟩
        rw [d1, e]
        rfl
      · rename_i n39
        split at h
        · rename_i e
          cases hd : cs[p + 1]? with
          | none =>
            rw [hd] at h
            cases h
          | some d =>
            rw [hd] at h
            dsimp only at h
            have d2 := drop_some hd
            split at h
            · rename_i hd2
              obtain ⟨l, e1, e2, e3⟩ := rdStr_tx h
              refine ⟨d :: l, by rw [e1, List.append_assoc]; rfl, ?_, ?_⟩
              · rw [d1, d2, e2, e, esc_cons, if_pos hd2]
                rfl
              · rw [List.all_cons, e3, Bool.and_true]
                rcases hd2 with rfl | rfl <;> rfl
            · cases h
        · rename_i n126
          split at h
          · rename_i hd2
            obtain ⟨l, e1, e2, e3⟩ := rdStr_tx h
            refine ⟨c :: l, by rw [e1, List.append_assoc]; rfl, ?_, ?_⟩
            · rw [d1, e2, esc_cons, if_neg (by omega)]
              rfl
            · rw [List.all_cons, e3, Bool.and_true]
              unfold okW
              rw [decide_eq_true hd2.1, decide_eq_true hd2.2]
              rfl
          · cases h
theorem valD_app (l : List Nat) (c : Nat) : valD (l ++ [c]) = valD l * 10 + (c - 48) := by
  unfold valD
  rw [List.foldl_append]
  rfl
theorem isD_iff {c : Nat} (h : isD c = true) : 48 ≤ c ∧ c ≤ 57 := by
  unfold isD at h
  have := Bool.and_eq_true_iff.mp h
  exact ⟨of_decide_eq_true this.1, of_decide_eq_true this.2⟩
theorem snoc_of {n : Nat} {l : List Nat} (h : l.length = n + 1) : ∃ l' c, l = l' ++ [c] ∧ l'.length = n := by
  have hne : l ≠ [] := fun e => by rw [e] at h; cases h
  refine ⟨l.dropLast, l.getLast hne, (List.dropLast_concat_getLast hne).symm, ?_⟩
  rw [List.length_dropLast, h]
  rfl
theorem valD_lt : ∀ (n : Nat) (l : List Nat), l.length = n → (∀ c ∈ l, isD c = true) → valD l < 10 ^ n
  | 0, l, h, _ => by
    rw [List.length_eq_zero_iff.mp h]
    decide
  | n + 1, l, h, hd => by
    obtain ⟨l', c, rfl, hl⟩ := snoc_of h
    have ih := valD_lt n l' hl fun d q => hd d (List.mem_append_left _ q)
    have hc := isD_iff (hd c (List.mem_append_right _ (List.mem_singleton.mpr rfl)))
    rw [valD_app, Nat.pow_succ]
    omega
theorem numL_dig : ∀ (n : Nat) (l : List Nat), l.length = n + 1 → (∀ c ∈ l, isD c = true) → (1 ≤ n → l.head? ≠ some 48) → TL.numL (valD l) = l
  | 0, l, h, hd, _ => by
    obtain ⟨l', c, rfl, hl⟩ := snoc_of h
    have hc := isD_iff (hd c (List.mem_append_right _ (List.mem_singleton.mpr rfl)))
    rw [List.length_eq_zero_iff.mp hl]
    have e : valD ([] ++ [c]) = c - 48 := by
      rw [valD_app]
      show 0 * 10 + (c - 48) = _
      omega
    rw [e, TL.numL_lt (by omega), show 48 + (c - 48) = c by omega]
    rfl
  | n + 1, l, h, hd, h0 => by
    obtain ⟨l', c, rfl, hl⟩ := snoc_of h
    have hc := isD_iff (hd c (List.mem_append_right _ (List.mem_singleton.mpr rfl)))
    have hh : l'.head? ≠ some 48 := by
      have := h0 (by omega)
      cases l' with
      | nil => cases hl
      | cons a r => exact this
    have ih := numL_dig n l' hl (fun d q => hd d (List.mem_append_left _ q)) fun _ => hh
    have v0 : valD l' ≠ 0 := fun e => by
      rw [e, TL.numL_lt (by decide)] at ih
      rw [← ih] at hh
      exact hh rfl
    rw [valD_app, TL.numL_step (by omega)]
    have e1 : (valD l' * 10 + (c - 48)) / 10 = valD l' := by omega
    have e2 : 48 + (valD l' * 10 + (c - 48)) % 10 = c := by omega
    rw [e1, e2, ih]
theorem run_take (cs : List Nat) (f : Nat) : cs.drop f = (cs.drop f).take (run cs f) ++ cs.drop (f + run cs f) ∧ ((cs.drop f).take (run cs f)).length = run cs f ∧ ∀ c ∈ (cs.drop f).take (run cs f), isD c = true := by
  have hle := run_le cs f
  refine ⟨?_, ?_, ?_⟩
  · rw [← List.drop_drop, List.take_append_drop]
  · rw [List.length_take, List.length_drop]
    omega
  · intro c hc
    obtain ⟨i, hi, e⟩ := List.mem_iff_getElem.mp hc
    rw [List.length_take] at hi
    obtain ⟨d, h1, h2⟩ := run_digit (cs := cs) (f := f) (n := i) (by omega)
    rw [List.getElem_take, List.getElem_drop] at e
    obtain ⟨h3, h4⟩ := List.getElem?_eq_some_iff.mp h1
    rw [← e, h4]
    exact h2
theorem tx_nat (n : Nat) : tx (.int (n : Int)) = TL.numL n := by
  simp only [tx]
  exact TL.tl_num n
theorem tx_neg {n : Nat} (h : 0 < n) : tx (.int (-(n : Int))) = 45 :: TL.numL n := by
  obtain ⟨m, em, hc⟩ := tx_int (-(n : Int))
  rcases hc with ⟨e, _⟩ | ⟨_, _, e⟩
  · omega
  · rw [e]
    congr 2
    omega
theorem riP_tx {cs : List Nat} {p : Nat} {u : U} {q : Nat} (h : riP cs p = .ok u q) : cs.drop p = tx u ++ cs.drop q ∧ pl u ∧ (∃ i, u = .int i) := by
  unfold riP at h
  dsimp only at h
  obtain ⟨t1, t2, t3⟩ := run_take cs (begins cs p)
  have hb := begins_ge cs p
  split at h
  · cases h
  rename_i r0
  split at h
  · rename_i h48
    split at h
    · cases h
    · rename_i hlt
      cases h
      have e : begins cs p = p := by omega
      rw [e] at h48 ⊢
      have := tx_nat 0
      rw [TL.numL_lt (by decide)] at this
      refine ⟨?_, by simp [pl], _, rfl⟩
      rw [drop_some h48]
      exact (congrArg (· ++ cs.drop (p + 1)) this).symm
  rename_i n48
  split at h
  · cases h
  rename_i r30
  cases h
  generalize hl : (cs.drop (begins cs p)).take (run cs (begins cs p)) = l at t1 t2 t3
  have hh : l.head? ≠ some 48 := by
    intro e
    cases hlc : l with
    | nil => rw [hlc] at e; cases e
    | cons a r =>
      rw [hlc] at e t1
      cases e
      apply n48
      have : (cs.drop (begins cs p))[0]? = some 48 := by rw [t1]; rfl
      rw [List.getElem?_drop] at this
      exact this
  have hn := numL_dig (run cs (begins cs p) - 1) l (by omega) t3 fun _ => hh
  have hv := valD_lt _ l rfl t3
  have hv2 : valD l < 10 ^ 30 := Nat.lt_of_lt_of_le hv (Nat.pow_le_pow_right (by decide) (by omega))
  have v0 : 0 < valD l := by
    refine Nat.pos_of_ne_zero fun e => ?_
    rw [e, TL.numL_lt (by decide)] at hn
    rw [← hn] at hh
    exact hh rfl
  unfold intAt
  rw [hl]
  by_cases h45 : cs[p]? = some 45
  · rw [if_pos h45]
    have e : begins cs p = p + 1 := by
      unfold begins
      rw [if_pos h45]
    refine ⟨?_, by simp only [pl]; omega, _, rfl⟩
    rw [tx_neg v0, hn, drop_some h45]
    show _ = 45 :: (l ++ _)
    rw [← t1, e]
  · rw [if_neg h45]
    have e : begins cs p = p := by
      unfold begins
      rw [if_neg h45]
    refine ⟨?_, by simp only [pl]; omega, _, rfl⟩
    rw [tx_nat, hn, ← t1, e]
theorem rdItems_tx {cs : List Nat} {rd : Nat → R} (hr : ∀ p u q, rd p = .ok u q → cs.drop p = tx u ++ cs.drop q ∧ pl u) : ∀ {n p : Nat} {acc : List U} {u : U} {q : Nat}, rdItems cs rd n p acc = .ok u q → ∃ u0 us, u = .tup (acc ++ u0 :: us) ∧ cs.drop p = TL.joinL [44] (txs (u0 :: us)) ++ 41 :: cs.drop q ∧ plL (u0 :: us)
  | 0, _, _, _, _, h => by
    unfold rdItems at h
    cases h
  | n + 1, p, acc, u, q, h => by
    unfold rdItems at h
    cases hc : rd p with
    | bad e =>
      rw [hc] at h
      cases h
    | ok u0 q0 =>
      rw [hc] at h
      obtain ⟨a, b⟩ := hr p u0 q0 hc
      dsimp only at h
      split at h
      · rename_i h1
        cases h
        refine ⟨u0, [], rfl, ?_, b, trivial⟩
        rw [a, drop_some h1]
        rfl
      · split at h
        · rename_i h1
          obtain ⟨u1, us, e1, e2, e3⟩ := rdItems_tx hr h
          refine ⟨u0, u1 :: us, by rw [e1, List.append_assoc]; rfl, ?_, b, e3⟩
          rw [a, drop_some h1, e2]
          show _ = (tx u0 ++ (44 :: TL.joinL [44] (txs (u1 :: us)))) ++ _
          simp
        · cases h
theorem rdThing_tx {cs : List Nat} : ∀ (k p : Nat) (u : U) (q : Nat), rdThing cs (riP cs) k p = .ok u q → cs.drop p = tx u ++ cs.drop q ∧ pl u := by
  have str : ∀ {c p u q}, cs[p]? = some c → c = 39 → rdStr cs cs.length (p + 1) [] = .ok u q → cs.drop p = tx u ++ cs.drop q ∧ pl u := by
    intro c p u q hc e h
    obtain ⟨l, e1, e2, e3⟩ := rdStr_tx h
    rw [e1, List.nil_append]
    refine ⟨?_, by simp only [pl]; exact e3⟩
    rw [drop_some hc, e2, e]
    simp only [tx]
    show _ = 39 :: (escP l ++ [39]) ++ _
    simp
  intro k
  induction k with
  | zero =>
    intro p u q h
    unfold rdThing at h
    cases hc : cs[p]? with
    | none =>
      rw [hc] at h
      cases h
    | some c =>
      rw [hc] at h
      dsimp only at h
      split at h
      · rename_i e
        cases h
        refine ⟨?_, by simp only [pl]⟩
        rw [drop_some hc, e]
        simp only [tx]
        rfl
      split at h
      · rename_i e
        exact str hc e h
      split at h
      · cases h
      · exact ⟨(riP_tx h).1, (riP_tx h).2.1⟩
  | succ k ih =>
    intro p u q h
    unfold rdThing at h
    cases hc : cs[p]? with
    | none =>
      rw [hc] at h
      cases h
    | some c =>
      rw [hc] at h
      dsimp only at h
      split at h
      · rename_i e
        cases h
        refine ⟨?_, by simp only [pl]⟩
        rw [drop_some hc, e]
        simp only [tx]
        rfl
      split at h
      · rename_i e
        exact str hc e h
      split at h
      · rename_i e
        split at h
        · rename_i h1
          cases h
          refine ⟨?_, by simp only [pl, plL]⟩
          rw [drop_some hc, drop_some h1, e]
          simp only [tx]
          rfl
        · obtain ⟨u0, us, e1, e2, e3⟩ := rdItems_tx ih h
          rw [e1, List.nil_append]
          refine ⟨?_, by simp only [pl]; exact e3⟩
          rw [drop_some hc, e2, e]
          simp only [tx]
          simp
      · exact ⟨(riP_tx h).1, (riP_tx h).2.1⟩
theorem whole_tx {cs : List Nat} {u : U} (h : whole cs (rdThing cs (riP cs) 30 0) = .inl u) : cs = tx u ∧ pl u ∧ dpt u ≤ 30 := by
  cases hr : rdThing cs (riP cs) 30 0 with
  | bad e =>
    rw [hr] at h
    cases h
  | ok u' q =>
    rw [hr] at h
    unfold whole at h
    dsimp only at h
    split at h
    · rename_i hq
      cases h
      obtain ⟨a, b⟩ := rdThing_tx 30 0 u q hr
      refine ⟨?_, b, rdThing_dpt (fun p u q h => riP_dpt h) 30 0 u q hr⟩
      rw [List.drop_zero, hq, List.drop_length, List.append_nil] at a
      exact a
    · cases h
end Ht
/-! k31: checks, and the texts that bear them -/
namespace Ht
open PySem Hu L2
def wt (c : Nat) : Nat := if c = 10 then 0 else c - 31
def ckS : List Nat → Nat → Nat
  | [], _ => 0
  | c :: l, p => wt c * p + ckS l (p + 1)
def ck (l : List Nat) : Nat := ckS l 1 % 99991
theorem ckS_app : ∀ (a b : List Nat) (p : Nat), ckS (a ++ b) p = ckS a p + ckS b (p + a.length)
  | [], b, p => by simp [ckS]
  | c :: a, b, p => by
    simp only [List.cons_append, ckS, ckS_app a b (p + 1), List.length_cons]
    rw [show p + 1 + a.length = p + (a.length + 1) by omega]
    omega
/-- printable signs -/
def pr (l : List Nat) : Prop := ∀ c ∈ l, 32 ≤ c ∧ c ≤ 126
theorem pr_app {a b : List Nat} (ha : pr a) (hb : pr b) : pr (a ++ b) := fun c hc => (List.mem_append.mp hc).elim (ha c) (hb c)
theorem pr_okW {l : List Nat} (h : l.all okW = true) : pr l := fun c hc => by
  have := List.all_eq_true.mp h c hc
  unfold okW at this
  have h2 := Bool.and_eq_true_iff.mp this
  exact ⟨of_decide_eq_true h2.1, of_decide_eq_true h2.2⟩
theorem pr_esc {l : List Nat} (h : pr l) : pr (escP l) := by
  induction l with
  | nil => exact fun c hc => absurd hc (List.not_mem_nil)
  | cons a l ih =>
    rw [esc_cons]
    refine pr_app ?_ (ih fun c hc => h c (List.mem_cons_of_mem _ hc))
    have ha := h a (List.mem_cons_self ..)
    intro c hc
    split at hc
    · simp only [List.mem_cons, List.not_mem_nil, or_false] at hc
      rcases hc with rfl | rfl
      · omega
      · exact ha
    · simp only [List.mem_cons, List.not_mem_nil, or_false] at hc
      rw [hc]
      exact ha
theorem pr_num (n : Nat) : pr (TL.numL n) := fun c hc => by
  have := TL.numL_digits n c hc
  omega
mutual
theorem pr_tx : ∀ u : U, pl u → pr (tx u)
  | .non, _ => by
    simp only [tx]
    intro c hc
    simp only [List.mem_cons, List.not_mem_nil, or_false] at hc
    omega
  | .int i, _ => by
    obtain ⟨n, en, hc⟩ := tx_int i
    rcases hc with ⟨_, e⟩ | ⟨_, _, e⟩
    · rw [e]; exact pr_num n
    · rw [e]
      intro c hc
      rcases List.mem_cons.mp hc with rfl | hc
      · omega
      · exact pr_num n c hc
  | .str z, h => by
    have hz : (TL.tl z).all okW = true := by simpa only [pl] using h
    have q := pr_esc (pr_okW hz)
    simp only [tx]
    intro c hc
    simp only [List.mem_cons, List.mem_append, List.not_mem_nil, or_false] at hc
    rcases hc with rfl | hc | rfl
    · omega
    · exact q c hc
    · omega
  | .tup us, h => by
    have q := pr_txs us (by simpa only [pl] using h)
    simp only [tx]
    intro c hc
    simp only [List.mem_cons, List.mem_append, List.not_mem_nil, or_false] at hc
    rcases hc with rfl | hc | rfl
    · omega
    · exact q c hc
    · omega
  | .bl _, h => by simp only [pl] at h
  | .lst _, h => by simp only [pl] at h
  | .dct _, h => by simp only [pl] at h
  | .exc, h => by simp only [pl] at h
theorem pr_txs : ∀ us : List U, plL us → pr (TL.joinL [44] (txs us))
  | [], _ => fun c hc => absurd hc (List.not_mem_nil)
  | [u], h => pr_tx u h.1
  | u :: u1 :: us, h => by
    have h1 := pr_tx u h.1
    have h2 := pr_txs (u1 :: us) h.2
    have e : TL.joinL [44] (txs (u :: u1 :: us)) = tx u ++ (44 :: TL.joinL [44] (txs (u1 :: us))) := rfl
    rw [e]
    refine pr_app h1 fun c hc => ?_
    rcases List.mem_cons.mp hc with rfl | hc
    · omega
    · exact h2 c hc
end
theorem num_inj {a b : Nat} (h : TL.numL a = TL.numL b) : a = b := by
  rw [← TL.numL_val a, h, TL.numL_val b]
theorem cop : ∀ d : Nat, d < 96 → 1 ≤ d → Nat.Coprime d 99991 := by
  intro d h1 h2
  have : ∀ d : Fin 96, 1 ≤ d.val → Nat.gcd d.val 99991 = 1 := by decide +kernel
  exact this ⟨d, h1⟩ h2
theorem no_dvd {d P : Nat} (h1 : 1 ≤ d) (h2 : d < 96) (h3 : 1 ≤ P) (h4 : P < 99991) : ¬ 99991 ∣ d * P := fun h => by
  have h5 : 99991 ∣ P := ((cop d h2 h1).symm).dvd_of_dvd_mul_left h
  exact absurd (Nat.le_of_dvd (by omega) h5) (by omega)
theorem mod_ne {A x y P : Nat} (hne : x ≠ y) (hx : x < 96) (hy : y < 96) (h3 : 1 ≤ P) (h4 : P < 99991) : (A + x * P) % 99991 ≠ (A + y * P) % 99991 := by
  intro h
  rcases Nat.lt_or_gt_of_ne hne with q | q
  · have hle : x * P ≤ y * P := Nat.mul_le_mul_right _ (Nat.le_of_lt q)
    refine no_dvd (d := y - x) (P := P) (by omega) (by omega) h3 h4 ?_
    rw [Nat.sub_mul]
    refine ⟨(A + y * P) / 99991 - (A + x * P) / 99991, ?_⟩
    omega
  · have hle : y * P ≤ x * P := Nat.mul_le_mul_right _ (Nat.le_of_lt q)
    refine no_dvd (d := x - y) (P := P) (by omega) (by omega) h3 h4 ?_
    rw [Nat.sub_mul]
    refine ⟨(A + x * P) / 99991 - (A + y * P) / 99991, ?_⟩
    omega
theorem ck_one {a r : List Nat} {x y : Nat} (hne : x ≠ y) (hx : 32 ≤ x ∧ x ≤ 126) (hy : 32 ≤ y ∧ y ≤ 126) (hl : a.length < 90000) : ck (a ++ x :: r) ≠ ck (a ++ y :: r) := by
  unfold ck
  rw [ckS_app, ckS_app]
  simp only [ckS]
  have ex : wt x = x - 31 := if_neg (by omega)
  have ey : wt y = y - 31 := if_neg (by omega)
  rw [ex, ey]
  have := mod_ne (A := ckS a 1 + ckS r (1 + a.length + 1)) (x := x - 31) (y := y - 31) (P := 1 + a.length) (by omega) (by omega) (by omega) (by omega) (by omega)
  intro h
  apply this
  rw [show ckS a 1 + ckS r (1 + a.length + 1) + (x - 31) * (1 + a.length) = ckS a 1 + ((x - 31) * (1 + a.length) + ckS r (1 + a.length + 1)) by omega, h]
  congr 1
  omega
theorem ck_swap {a r : List Nat} {x y : Nat} (hne : x ≠ y) (hx : 32 ≤ x ∧ x ≤ 126) (hy : 32 ≤ y ∧ y ≤ 126) : ck (a ++ x :: y :: r) ≠ ck (a ++ y :: x :: r) := by
  unfold ck
  rw [ckS_app, ckS_app]
  simp only [ckS]
  have ex : wt x = x - 31 := if_neg (by omega)
  have ey : wt y = y - 31 := if_neg (by omega)
  rw [ex, ey]
  generalize ckS r (1 + a.length + 1 + 1) = B
  generalize ckS a 1 = A
  rw [Nat.mul_add (x - 31) (1 + a.length) 1, Nat.mul_add (y - 31) (1 + a.length) 1]
  generalize (x - 31) * (1 + a.length) = M
  generalize (y - 31) * (1 + a.length) = N
  omega
/-- sealed: the text of a thing with its check -/
def Sl (u : U) : List Nat := tx u ++ 35 :: TL.numL (ck (tx u))
theorem no35 (n : Nat) : 35 ∉ TL.numL n := fun h => by
  have := TL.numL_digits n 35 h
  omega
/-- the last # stands at one place -/
theorem split35 {a b e d : List Nat} (h : a ++ 35 :: e = b ++ 35 :: d) (he : 35 ∉ e) (hd : 35 ∉ d) : a = b ∧ e = d := by
  rcases List.append_eq_append_iff.mp h with ⟨c, h1, h2⟩ | ⟨c, h1, h2⟩
  · cases c with
    | nil =>
      simp only [List.nil_append, List.cons.injEq, true_and, List.append_nil] at h1 h2
      exact ⟨h1.symm, h2⟩
    | cons x c =>
      simp only [List.cons_append, List.cons.injEq] at h2
      exact absurd (by rw [h2.2]; simp) he
  · cases c with
    | nil =>
      simp only [List.nil_append, List.cons.injEq, true_and, List.append_nil] at h1 h2
      exact ⟨h1, h2.symm⟩
    | cons x c =>
      simp only [List.cons_append, List.cons.injEq] at h2
      exact absurd (by rw [h2.2]; simp) hd
/-- a thing's text is no other one's with a sign behind that is no digit -/
theorem tx_pre {u v : U} {c : Nat} {r : List Nat} (hu : pl u) (hv : pl v) (du : dpt u ≤ 30) (dv : dpt v ≤ 30) (hc : isD c = false) : tx u ≠ tx v ++ c :: r := fun h => by
  have r1 := rdThing_back (cs := tx u) 30 u [] [] hu du (by simp) (fun c hc => by cases hc)
  have r2 := rdThing_back (cs := tx u) 30 v [] (c :: r) hv dv (by rw [h]; rfl) (fun d hd => by cases hd; exact hc)
  rw [r1] at r2
  have hl := congrArg List.length h
  rw [List.length_append, List.length_cons] at hl
  injection r2 with _ q
  omega
end Ht
/-! k31: no two sealed texts differ by a slip -/
namespace Ht
open PySem Hu L2
theorem int_last {v : U} {l : List Nat} {y : Nat} (hv : pl v) (h : tx v = l ++ [y]) (hy : isD y = true) : ∃ j, v = .int j := by
  have hd := isD_iff hy
  have hg : (tx v).getLast? = some y := by rw [h, List.getLast?_append]; rfl
  cases v with
  | int j => exact ⟨j, rfl⟩
  | non =>
    simp only [tx] at hg
    have e : 46 = y := Option.some.inj hg
    omega
  | str z =>
    simp only [tx] at hg
    rw [show (39 :: (escP (TL.tl z) ++ [39])) = (39 :: escP (TL.tl z)) ++ [39] from rfl, List.getLast?_concat] at hg
    have e : 39 = y := Option.some.inj hg
    omega
  | tup us =>
    simp only [tx] at hg
    rw [show (40 :: (TL.joinL [44] (txs us) ++ [41])) = (40 :: TL.joinL [44] (txs us)) ++ [41] from rfl, List.getLast?_concat] at hg
    have e : 41 = y := Option.some.inj hg
    omega
  | bl _ => simp only [pl] at hv
  | lst _ => simp only [pl] at hv
  | dct _ => simp only [pl] at hv
  | exc => simp only [pl] at hv
theorem int_signs {i : Int} {c : Nat} (h : c ∈ tx (.int i)) : c = 45 ∨ (48 ≤ c ∧ c ≤ 57) := by
  obtain ⟨n, en, hc⟩ := tx_int i
  rcases hc with ⟨_, e⟩ | ⟨_, _, e⟩
  · rw [e] at h
    exact .inr (by have := TL.numL_digits n c h; omega)
  · rw [e] at h
    rcases List.mem_cons.mp h with rfl | h
    · exact .inl rfl
    · exact .inr (by have := TL.numL_digits n c h; omega)
theorem int_first {u : U} {j : Int} {r : List Nat} (hu : pl u) (h : tx (.int j) = tx u ++ r) : ∃ i, u = .int i := by
  have hm : ∀ c r', tx u = c :: r' → c = 45 ∨ (48 ≤ c ∧ c ≤ 57) := fun c r' e => int_signs (i := j) (by rw [h, e]; simp)
  cases u with
  | int i => exact ⟨i, rfl⟩
  | non => have := hm 46 [] (by simp only [tx]); omega
  | str z => have := hm 39 (escP (TL.tl z) ++ [39]) (by simp only [tx]); omega
  | tup us => have := hm 40 (TL.joinL [44] (txs us) ++ [41]) (by simp only [tx]); omega
  | bl _ => simp only [pl] at hu
  | lst _ => simp only [pl] at hu
  | dct _ => simp only [pl] at hu
  | exc => simp only [pl] at hu
theorem ckS_le : ∀ (l : List Nat) (p : Nat), (∀ c ∈ l, wt c ≤ 26) → ckS l p ≤ 26 * (l.length * (p + l.length))
  | [], p, _ => by simp [ckS]
  | c :: l, p, h => by
    have ih := ckS_le l (p + 1) fun d q => h d (List.mem_cons_of_mem _ q)
    have hc := h c (List.mem_cons_self ..)
    have h1 : wt c * p ≤ 26 * p := Nat.mul_le_mul_right _ hc
    simp only [ckS, List.length_cons]
    rw [show p + 1 + l.length = p + (l.length + 1) by omega] at ih
    rw [Nat.add_mul l.length 1 (p + (l.length + 1)), Nat.one_mul]
    generalize l.length * (p + (l.length + 1)) = M at *
    omega
theorem ck_small {i : Int} (h : i.natAbs < 10 ^ 30) : ck (tx (.int i)) = ckS (tx (.int i)) 1 := by
  have hl : (tx (.int i)).length ≤ 31 := by
    obtain ⟨n, en, hc⟩ := tx_int i
    have := TL.numL_len (n := n) (k := 30) (by decide) (by rw [en]; exact h)
    rcases hc with ⟨_, e⟩ | ⟨_, _, e⟩
    · rw [e]; omega
    · rw [e, List.length_cons]; omega
  have hw : ∀ c ∈ tx (.int i), wt c ≤ 26 := fun c hc => by
    have := int_signs hc
    unfold wt
    split <;> omega
  have := ckS_le (tx (.int i)) 1 hw
  have h2 : (tx (.int i)).length * (1 + (tx (.int i)).length) ≤ 31 * 32 := Nat.mul_le_mul hl (by omega)
  exact Nat.mod_eq_of_lt (by omega)
theorem ck_more {u v : U} {y : Nat} (hu : pl u) (hv : pl v) (hy : isD y = true) (h : tx v = tx u ++ [y]) : ck (tx u) < ck (tx v) := by
  obtain ⟨j, rfl⟩ := int_last hv h hy
  obtain ⟨i, rfl⟩ := int_first hu h
  have hi : i.natAbs < 10 ^ 30 := by simpa only [pl] using hu
  have hj : j.natAbs < 10 ^ 30 := by simpa only [pl] using hv
  rw [ck_small hi, ck_small hj, h, ckS_app]
  simp only [ckS]
  have := isD_iff hy
  have ey : wt y = y - 31 := if_neg (by omega)
  rw [ey]
  have : 1 ≤ (y - 31) * (1 + (tx (.int i)).length) := Nat.mul_pos (by omega) (by omega)
  omega
theorem val_ge {y : Nat} (hy : 49 ≤ y) : ∀ (n : Nat) (l : List Nat), l.length = n → 10 ^ n ≤ valD (y :: l)
  | 0, l, h => by
    rw [List.length_eq_zero_iff.mp h]
    show 1 ≤ 0 * 10 + (y - 48)
    omega
  | n + 1, l, h => by
    obtain ⟨l', c, rfl, hl⟩ := snoc_of h
    have ih := val_ge hy n l' hl
    rw [show y :: (l' ++ [c]) = (y :: l') ++ [c] from rfl, valD_app, Nat.pow_succ]
    omega
theorem num_more {m n y : Nat} (h : TL.numL m = y :: TL.numL n) : n < m := by
  have m0 : 0 < m := by
    refine Nat.pos_of_ne_zero fun e => ?_
    rw [e, TL.numL_lt (by decide)] at h
    injection h with _ h2
    exact TL.numL_ne n h2.symm
  obtain ⟨c, r, e, hc⟩ := numL_head m m0
  rw [e] at h
  injection h with h1 h2
  subst h1
  have v1 := valD_num m
  have v2 := valD_num n
  have g := val_ge hc _ r rfl
  have l := valD_lt _ r rfl (by rw [h2]; exact numL_isD n)
  rw [e] at v1
  rw [h2] at g l v1
  omega
/-- one sign exchanged -/
theorem fact1 {u v : U} {a' r' : List Nat} {x s : Nat} (hu : pl u) (hv : pl v) (du : dpt u ≤ 30) (dv : dpt v ≤ 30) (lu : (tx u).length < 90000) (hne : x ≠ s) (h1 : Sl u = a' ++ x :: r') (h2 : Sl v = a' ++ s :: r') : False := by
  unfold Sl at h1 h2
  have ne := no35 (ck (tx u))
  have nd := no35 (ck (tx v))
  have hash : tx u = a' → x = 35 → r' = TL.numL (ck (tx u)) → False := fun ea ex er => by
    rw [← ea, er] at h2
    rcases List.append_eq_append_iff.mp h2 with ⟨c, q1, q2⟩ | ⟨c, q1, q2⟩
    · cases c with
      | nil =>
        simp only [List.nil_append, List.cons.injEq] at q2
        omega
      | cons z c =>
        simp only [List.cons_append, List.cons.injEq] at q2
        rw [← q2.1] at q1
        exact tx_pre hu hv du dv (by decide) q1
    · cases c with
      | nil =>
        simp only [List.nil_append, List.cons.injEq] at q2
        omega
      | cons z c =>
        simp only [List.cons_append, List.cons.injEq] at q2
        exact ne (by rw [q2.2]; simp)
  rcases List.append_eq_append_iff.mp h1 with ⟨c, q1, q2⟩ | ⟨c, q1, q2⟩
  · cases c with
    | nil =>
      simp only [List.nil_append, List.cons.injEq, List.append_nil] at q1 q2
      exact hash q1.symm q2.1.symm q2.2.symm
    | cons z c =>
      simp only [List.cons_append, List.cons.injEq] at q2
      obtain ⟨rfl, qe⟩ := q2
      by_cases hs : s = 35
      · rw [q1, hs, List.append_assoc] at h2
        have h3 : tx v ++ 35 :: TL.numL (ck (tx v)) = (tx u ++ 35 :: c) ++ 35 :: r' := by rw [h2]; simp
        have n3 : 35 ∉ r' := fun q => ne (by rw [qe]; simp [q])
        exact tx_pre hv hu dv du (by decide) (split35 h3 nd n3).1
      · have h3 : tx v ++ 35 :: TL.numL (ck (tx v)) = tx u ++ 35 :: (c ++ s :: r') := by rw [h2, q1]; simp
        have n3 : 35 ∉ c ++ s :: r' := fun q => by
          rcases List.mem_append.mp q with q | q
          · exact ne (by rw [qe]; simp [q])
          · rcases List.mem_cons.mp q with q | q
            · exact hs q.symm
            · exact ne (by rw [qe]; simp [q])
        obtain ⟨k1, k2⟩ := split35 h3 nd n3
        rw [k1, qe] at k2
        have := List.append_cancel_left k2
        injection this with k3 _
        exact hne k3
  · cases c with
    | nil =>
      simp only [List.nil_append, List.cons.injEq, List.append_nil] at q1 q2
      exact hash q1 q2.1 q2.2
    | cons z c =>
      simp only [List.cons_append, List.cons.injEq] at q2
      obtain ⟨rfl, qe⟩ := q2
      have h3 : tx v ++ 35 :: TL.numL (ck (tx v)) = (a' ++ s :: c) ++ 35 :: TL.numL (ck (tx u)) := by rw [h2, qe]; simp
      obtain ⟨k1, k2⟩ := split35 h3 nd ne
      have k3 := num_inj k2
      rw [k1, q1] at k3
      have p1 := pr_tx u hu x (by rw [q1]; simp)
      have p2 := pr_tx v hv s (by rw [k1]; simp)
      have hl : a'.length < 90000 := by
        rw [q1, List.length_append] at lu
        omega
      exact ck_one (Ne.symm hne) p2 p1 hl k3
/-- the last sign left out -/
theorem fact2 {u v : U} {c : Nat} (h : Sl u = Sl v ++ [c]) : False := by
  unfold Sl at h
  have ne := no35 (ck (tx u))
  have h3 : tx u ++ 35 :: TL.numL (ck (tx u)) = tx v ++ 35 :: (TL.numL (ck (tx v)) ++ [c]) := by rw [h]; simp
  by_cases hc : c = 35
  · rw [hc] at h3
    have h4 : tx u ++ 35 :: TL.numL (ck (tx u)) = (tx v ++ 35 :: TL.numL (ck (tx v))) ++ 35 :: [] := by rw [h3]; simp
    exact TL.numL_ne _ (split35 h4 ne List.not_mem_nil).2
  · have n3 : 35 ∉ TL.numL (ck (tx v)) ++ [c] := fun q => by
      rcases List.mem_append.mp q with q | q
      · exact no35 _ q
      · exact hc (List.mem_singleton.mp q).symm
    obtain ⟨k1, k2⟩ := split35 h3 ne n3
    rw [k1] at k2
    have := congrArg List.length k2
    rw [List.length_append] at this
    simp at this
/-- two unlike neighbours exchanged -/
theorem fact3 {u v : U} {a' r' : List Nat} {x y : Nat} (hu : pl u) (hv : pl v) (hne : x ≠ y) (h1 : Sl u = a' ++ x :: y :: r') (h2 : Sl v = a' ++ y :: x :: r') : False := by
  unfold Sl at h1 h2
  have ne := no35 (ck (tx u))
  have nd := no35 (ck (tx v))
  have hash : tx u = a' → x = 35 → y :: r' = TL.numL (ck (tx u)) → False := fun ea ex er => by
    have n3 : 35 ∉ r' := fun q => ne (by rw [← er]; simp [q])
    have h3 : tx v ++ 35 :: TL.numL (ck (tx v)) = (tx u ++ [y]) ++ 35 :: r' := by rw [h2, ex, ea]; simp
    obtain ⟨k1, k2⟩ := split35 h3 nd n3
    have hy : isD y = true := numL_isD (ck (tx u)) y (by rw [← er]; simp)
    have g1 := ck_more hu hv hy k1
    have g2 : ck (tx v) < ck (tx u) := num_more (y := y) (by rw [← er, k2])
    omega
  rcases List.append_eq_append_iff.mp h1 with ⟨c, q1, q2⟩ | ⟨c, q1, q2⟩
  · cases c with
    | nil =>
      simp only [List.nil_append, List.cons.injEq, List.append_nil] at q1 q2
      exact hash q1.symm q2.1.symm q2.2.symm
    | cons z c =>
      simp only [List.cons_append, List.cons.injEq] at q2
      obtain ⟨rfl, qe⟩ := q2
      have h3 : tx v ++ 35 :: TL.numL (ck (tx v)) = tx u ++ 35 :: (c ++ y :: x :: r') := by rw [h2, q1]; simp
      have n3 : 35 ∉ c ++ y :: x :: r' := fun q => ne (by
        rw [qe]
        simp only [List.mem_append, List.mem_cons] at q ⊢
        rcases q with q | q | q | q
        · exact .inl q
        · exact .inr (.inr (.inl q))
        · exact .inr (.inl q)
        · exact .inr (.inr (.inr q)))
      obtain ⟨k1, k2⟩ := split35 h3 nd n3
      rw [k1, qe] at k2
      have := List.append_cancel_left k2
      injection this with k3 _
      exact hne k3
  · cases c with
    | nil =>
      simp only [List.nil_append, List.cons.injEq, List.append_nil] at q1 q2
      exact hash q1 q2.1 q2.2
    | cons z c =>
      simp only [List.cons_append, List.cons.injEq] at q2
      obtain ⟨rfl, qe⟩ := q2
      cases c with
      | nil =>
        simp only [List.nil_append, List.cons.injEq] at qe
        obtain ⟨rfl, qr⟩ := qe
        have n3 : 35 ∉ x :: r' := fun q => by
          rcases List.mem_cons.mp q with q | q
          · exact hne q.symm
          · exact ne (by rw [← qr]; exact q)
        obtain ⟨k1, k2⟩ := split35 h2 nd n3
        have hx : isD x = true := numL_isD (ck (tx v)) x (by rw [k2]; simp)
        have g1 := ck_more hv hu hx (by rw [q1, k1])
        have g2 : ck (tx u) < ck (tx v) := num_more (y := x) (by rw [k2, qr])
        omega
      | cons z2 c =>
        simp only [List.cons_append, List.cons.injEq] at qe
        obtain ⟨rfl, qr⟩ := qe
        have h3 : tx v ++ 35 :: TL.numL (ck (tx v)) = (a' ++ y :: x :: c) ++ 35 :: TL.numL (ck (tx u)) := by rw [h2, qr]; simp
        obtain ⟨k1, k2⟩ := split35 h3 nd ne
        have k3 := num_inj k2
        rw [k1, q1] at k3
        have p1 := pr_tx u hu x (by rw [q1]; simp)
        have p2 := pr_tx u hu y (by rw [q1]; simp)
        exact ck_swap (Ne.symm hne) p2 p1 k3
/-! ### what unsealed tells -/
def lastS : List Nat → Option (List Nat × List Nat)
  | [] => none
  | c :: l => match lastS l with
    | some (b, d) => some (c :: b, d)
    | none => if c = 35 then some ([], l) else none
theorem lastS_some : ∀ {l b d : List Nat}, lastS l = some (b, d) → l = b ++ 35 :: d ∧ 35 ∉ d
  | [], _, _, h => by cases h
  | c :: l, b, d, h => by
    unfold lastS at h
    cases hl : lastS l with
    | none =>
      rw [hl] at h
      dsimp only at h
      split at h
      · rename_i hc
        cases h
        refine ⟨by rw [hc]; rfl, fun q => ?_⟩
        exact (lastS_none hl) q
      · cases h
    | some bd =>
      obtain ⟨b', d'⟩ := bd
      rw [hl] at h
      cases h
      obtain ⟨h1, h2⟩ := lastS_some hl
      exact ⟨by rw [h1]; rfl, h2⟩
where
  lastS_none : ∀ {l : List Nat}, lastS l = none → 35 ∉ l
    | [], _ => List.not_mem_nil
    | c :: l, h => by
      unfold lastS at h
      cases hl : lastS l with
      | none =>
        rw [hl] at h
        dsimp only at h
        split at h
        · cases h
        · rename_i hc
          intro q
          rcases List.mem_cons.mp q with q | q
          · exact hc q.symm
          · exact lastS_none hl q
      | some bd =>
        rw [hl] at h
        cases h
theorem lastS_no {l : List Nat} (h : 35 ∉ l) : lastS l = none := by
  cases hl : lastS l with
  | none => rfl
  | some bd =>
    obtain ⟨b, d⟩ := bd
    exact absurd (by rw [(lastS_some hl).1]; simp) h
theorem lastS_of {l b d : List Nat} (h : l = b ++ 35 :: d) (hd : 35 ∉ d) : lastS l = some (b, d) := by
  cases hl : lastS l with
  | none => exact absurd (by rw [h]; simp) (lastS_some.lastS_none hl)
  | some bd =>
    obtain ⟨b', d'⟩ := bd
    obtain ⟨h1, h2⟩ := lastS_some hl
    rw [h] at h1
    obtain ⟨k1, k2⟩ := split35 h1 hd h2
    rw [k1, k2]
def bodyT (b d : List Nat) : List U := match whole b (rdThing b (riP b) 30 0) with
  | .inl u => if d = TL.numL (ck b) then [u] else []
  | .inr _ => []
def unT (cs : List Nat) : List U := match lastS cs with
  | none => []
  | some (b, d) => bodyT b d
theorem bodyT_cases (b d : List Nat) : bodyT b d = [] ∨ ∃ u, bodyT b d = [u] ∧ b = tx u ∧ d = TL.numL (ck (tx u)) ∧ pl u ∧ dpt u ≤ 30 := by
  unfold bodyT
  cases hw : whole b (rdThing b (riP b) 30 0) with
  | inr e => exact .inl rfl
  | inl u =>
    obtain ⟨e1, e2, e3⟩ := whole_tx hw
    dsimp only
    split
    · rename_i hd
      exact .inr ⟨u, rfl, e1, by rw [← e1]; exact hd, e2, e3⟩
    · exact .inl rfl
theorem unT_cases (cs : List Nat) : unT cs = [] ∨ ∃ u, unT cs = [u] ∧ cs = Sl u ∧ pl u ∧ dpt u ≤ 30 := by
  unfold unT
  cases hl : lastS cs with
  | none => exact .inl rfl
  | some bd =>
    obtain ⟨b, d⟩ := bd
    dsimp only
    rcases bodyT_cases b d with h | ⟨u, h1, h2, h3, h4, h5⟩
    · exact .inl h
    · exact .inr ⟨u, h1, by rw [(lastS_some hl).1, h2, h3]; rfl, h4, h5⟩
theorem unT_back {u : U} (hu : pl u) (du : dpt u ≤ 30) : unT (Sl u) = [u] := by
  unfold unT Sl
  rw [lastS_of (b := tx u) (d := TL.numL (ck (tx u))) rfl (no35 _)]
  dsimp only
  unfold bodyT
  rw [whole_back hu du]
  dsimp only
  rw [if_pos rfl]
theorem unT_sm (cs : List Nat) : smL (unT cs) ∧ dptL (unT cs) ≤ 30 := by
  rcases unT_cases cs with h | ⟨u, h, _, h4, h5⟩
  · rw [h]; exact ⟨trivial, by simp [dptL]⟩
  · rw [h]
    exact ⟨⟨sm_pl u h4, trivial⟩, by simp only [dptL]; omega⟩
theorem un_one {u : U} {a' r' : List Nat} {x s : Nat} (hu : pl u) (du : dpt u ≤ 30) (lu : (tx u).length < 90000) (hne : x ≠ s) (h1 : Sl u = a' ++ x :: r') : unT (a' ++ s :: r') = [] := by
  rcases unT_cases (a' ++ s :: r') with h | ⟨v, h, h2, h4, h5⟩
  · exact h
  · exact (fact1 hu h4 du h5 lu hne h1 h2.symm).elim
theorem un_last {u : U} {l : List Nat} {c : Nat} (h1 : Sl u = l ++ [c]) : unT l = [] := by
  rcases unT_cases l with h | ⟨v, h, h2, h4, h5⟩
  · exact h
  · exact (fact2 (u := u) (v := v) (c := c) (by rw [h1, h2])).elim
theorem un_swap {u : U} {a' r' : List Nat} {x y : Nat} (hu : pl u) (hne : x ≠ y) (h1 : Sl u = a' ++ x :: y :: r') : unT (a' ++ y :: x :: r') = [] := by
  rcases unT_cases (a' ++ y :: x :: r') with h | ⟨v, h, h2, h4, h5⟩
  · exact h
  · exact (fact3 hu h4 hne h1 h2.symm).elim
end Ht
/-! k31: is_lined; rules -/
namespace Ht
open PySem PySem.Spec PyProof.Rows L2 Hu Evl
section
variable {X : Cx} {CX : CXT} {k : Nat} {f C : Addr} {fd : FuncData} {ps : List Str} {sp : Sp} {dvs : List V} {ds : List Value} {E : XK} {x m : Str} {p pos apos : Pos} {e o a b : Expr} {es rest : List Expr} {ta tb : TE} {t : TA}
theorem pet_one {op : BoolOp} {t : TE} (h : PET X a t) : PET X (.BoolOp op [a] pos) t := fun pins s σ H Q h0 I hw => BoolOp_one (h pins s σ H Q h0 I hw)
theorem pet_and (ha : PE X a ta) (hb : PET X (.BoolOp .And (b :: rest) pos) tb) : PET X (.BoolOp .And (a :: b :: rest) pos) (tAndV ta tb) := by
  intro pins s σ H Q h0 I h
  refine BoolOp_and (wpAny_mono (PySem.wpAny_toks (ha.run pins s σ H _ I h)) (fun v s1 q => ?_) fun _ _ z => z.2)
  obtain ⟨hk, x, H1, I1, r1, q1⟩ := q
  obtain ⟨c, rfl, q1⟩ := q1
  cases r1
  refine wpAny_truthy_bool ?_
  cases c with
  | true => exact hb pins s1 σ H1 Q (Nat.le_trans h0 hk) I1 q1
  | false => exact ⟨.bl false, H1, I1, rfl, q1⟩
theorem pet_call (F : FnOk X.prog X.w X.K X.mg X.base CX k f fd ps sp) (hr : Room k X.A) (hg : Gl X x) (hm : X.mg x = some (.ref f)) (hk : PySem.W.keepIn X.K (.ref f) = true) (hb : Binds X.K fd ps ds) (hd : Vals dvs ds) (hx : Passes CX X E)
    (ha : PAT X (e :: es) t) (hdb : (x == ("__debug__" : Str)) = false := by decide) (he : starEach (e :: es) X.env = (false, eval e X.env) :: starEach es X.env := by rfl) (hpl : (backTo pos (starEach es X.env)).any (·.1) = false := by rfl) :
    PET X (.Call (.Name x p) (e :: es) [] pos) (tCall sp dvs E t) := by
  intro pins s σ H Q h0 I h
  refine wpAny_Call_Name_kw (ld_glob I hg hm ?_ hdb)
  refine PySem.W.callWith_K (h₀ := X.base) I.ok.mod.kin hk (thn (ha pos pins s σ H _ h0 I h) fun us s1 ⟨vs, H1, I1, r, q⟩ => ⟨I1.kIn, ?_⟩) he hpl
  exact run_fn F hr hb hd hx I1 r q
/-- x.rpartition(sep) -/
theorem mt_rpart : MtR X "str.rpartition" (fun x xs H Q => ∃ a b, x = .str a ∧ xs = [.str b] ∧ (b.length == 0) = false ∧ a.length ≤ sizeLine ∧
    ∀ p, H p = none → Q (.ref p) (upd H p (.tup [.str (Txt.rpartition a b).1, .str (Txt.rpartition a b).2.1, .str (Txt.rpartition a b).2.2]))) := by
  intro pins s σ H x xs v us Q I rx rs h
  obtain ⟨a, b, rfl, rfl, hb, hz, h⟩ := h
  obtain ⟨t, rfl⟩ := rx
  cases rs with
  | cons r1 rs =>
    cases rs
    obtain ⟨u, rfl⟩ := r1
    refine call_meets F.slot_str_rpartition (typeIs_str _ _ _) F.entry_str_rpartition (F.args_str_rpartition_2 _ _) (meets_str_rpartition a b t u hb hz) ?_
    unfold Txt.rpartition at h
    revert h
    cases Builtin.Str.lastOccurrence a b 0 a.length with
    | none => intro h; exact laid_parts I h
    | some i => intro h; exact laid_parts I h
end
theorem sg35 : ("#" : Str) = sg 35 := by decide +kernel
theorem at_sign {z : Str} {c i : Nat} : StrLaws.At z (sg c) z.length i ↔ (TL.tl z)[i]? = some c := StrLaws.subAt_one z c i
theorem mid_of {l : List Nat} {i c : Nat} (h : l[i]? = some c) : l = l.take i ++ c :: l.drop (i + 1) := by
  conv => lhs; rw [← List.take_append_drop i l, drop_some h]
theorem rpart_spec (z : Str) : (35 ∉ TL.tl z ∧ TL.tl (Txt.rpartition z "#").1 = []) ∨ (TL.tl z = TL.tl (Txt.rpartition z "#").1 ++ 35 :: TL.tl (Txt.rpartition z "#").2.2 ∧ 35 ∉ TL.tl (Txt.rpartition z "#").2.2) := by
  rw [sg35]
  unfold Txt.rpartition
  rcases StrLaws.last_spec z (sg 35) with ⟨h0, hn⟩ | ⟨i, h0, hi, hn⟩
  · rw [h0]
    refine .inl ⟨fun q => ?_, rfl⟩
    obtain ⟨i, hi⟩ := List.mem_iff_getElem?.mp q
    exact hn i (at_sign.mpr hi)
  · rw [h0]
    have hi' := at_sign.mp hi
    refine .inr ?_
    dsimp only
    have e1 : TL.tl (Builtin.Str.strSub z 0 i) = (TL.tl z).take i := by rw [TL.tl_strSub, List.drop_zero, Nat.sub_zero]
    have e2 : TL.tl (Builtin.Str.strSub z (i + (sg 35).length) z.length) = (TL.tl z).drop (i + 1) := TL.tl_strSub_end z (i + 1)
    rw [e1, e2]
    refine ⟨mid_of hi', fun q => ?_⟩
    obtain ⟨j, hj⟩ := List.mem_iff_getElem?.mp q
    rw [List.getElem?_drop] at hj
    exact hn (i + 1 + j) (by omega) (at_sign.mpr hj)
theorem repl_nl (z : Str) : TL.tl (Txt.replace z "\n" "") = (TL.tl z).filter (fun c => !(c == 10)) := by
  have l1 : 1 ≤ (("\n" : Str)).length := by decide +kernel
  show (Txt.replace z "\n" "").cps.toList = _
  rw [PySem.StrLaws.replace_list l1, show ("\n" : Str).cps.toList = [10] by decide +kernel, show ("" : Str).cps.toList = [] by decide +kernel, repl1]
  show (TL.tl z).flatMap _ = _
  induction TL.tl z with
  | nil => rfl
  | cons c l ih =>
    rw [List.flatMap_cons, ih, List.filter_cons]
    by_cases h : c = 10
    · rw [if_pos h, h]; rfl
    · rw [if_neg h, if_pos (by simp [h])]; rfl
abbrev sIsLined : Stmt := topS 8
def linU (u : U) : Bool := match u with | .str z => (TL.tl z).all fun c => c == 10 || okW c | _ => false
section
variable {P : Program} {w : World} {K : PySem.W.Frag} {mg : Str → Option Value} {base : Heap}
theorem scLined : FnScope ["thing"] ["thing"] (defScope sIsLined) := ⟨rfl, rfl, rfl, by decide +kernel, rfl, by decide +kernel, by decide +kernel⟩
theorem ok_lined {f f2 : Addr} {fd d2 : FuncData} (DP : Df K mg "is_lined" sIsLined ["thing"] f fd) (B : Bt mg) (D2 : Df K mg "is_signs" sIsSigns ["thing"] f2 d2) : FnOk P w K mg base CX0 2 f fd ["thing"] (spO linU) := by
  have G2 : FnOk P w K mg base CX0 1 f2 d2 ["thing"] (spO sgU) := ok_isSignsO D2.F B
  obtain ⟨oc, od, kV, doc, pm, an, cdv, ct, osl, rfl, lk, hcd⟩ := DP.F.ex
  refine fn_ofT lk hcd scLined (by decide +kernel) (by decide) (fun vs H Q E h => ?_) (fun A outer s H vs Q E hr h => ?_)
  · obtain ⟨v, u, rfl, _⟩ := h
    rfl
  obtain ⟨v, u, rfl, hat, bu, k⟩ := h
  refine ⟨_, CwR.psst_one (CwR.pst_ret (pet_and (pe_callB call_isi (by rfl) B.isi boot_isi' (pa_cons (pv 0) (pa_cons (pe_bltn (by rfl) B.str boot_str' (show RelV (.ty "str") (.type "str") from rfl)) pa_nil)))
    (pet_one (pet_call G2 hr (by rfl) D2.g D2.F.kp D2.b .nil pass0 (pat_cons (CwR.pet_replC (pv 0)) pat_nil))))), ?_⟩
  refine s_ret (ev_andV (b := linU u) (ev_isiO (ev_var rfl) hat (by decide)) fun q => ?_) fun H1 e => ?_
  · cases u with
    | str z =>
      cases hat
      simp only [brd] at bu
      have l1 : ((("" : Str))).length = 0 := by decide +kernel
      refine ev_call (sp := spO sgU) (ea_cons (ev_repl (ev_var rfl) (by rw [l1]; omega)) ea_nil) fun H1 e1 Q q' E => ⟨_, .str (Txt.replace z "\n" ""), rfl, .str _, ?_, ?_⟩
      · simp only [brd]
        rw [TL.len_tl, repl_nl]
        have := List.length_filter_le (fun c => !(c == 10)) (TL.tl z)
        rw [← TL.len_tl] at this
        omega
      · have e2 : sgU (.str (Txt.replace z "\n" "")) = linU (.str z) := by
          simp only [sgU, linU]
          rw [repl_nl, List.all_filter]
          congr 1
          funext c
          simp
        rw [e2]
        exact q'
    | _ => simp [isT, isS, tyU] at q
  · have e2 : (isT u "str" && linU u) = linU u := by cases u <;> simp [isT, isS, tyU, linU]
    rw [e2]
    exact k H1 e
end
end Ht
/-! k31: check_behind, check -/
namespace Ht
open PySem PySem.Spec PyProof.Rows L2 Hu Evl
abbrev sCheck : Stmt := topS 23
abbrev sCheckB : Stmt := topS 24
def wlL : List Nat → Nat → List Int
  | [], _ => []
  | c :: l, p => if c = 10 then wlL l (p + 1) else ((c : Int) - 31) * (p : Int) :: wlL l (p + 1)
theorem wlL_snoc : ∀ (l : List Nat) (c p : Nat), wlL (l ++ [c]) p = wlL l p ++ (if c = 10 then [] else [((c : Int) - 31) * ((p + l.length : Nat) : Int)])
  | [], c, p => by
    show (if c = 10 then wlL [] (p + 1) else _ :: wlL [] (p + 1)) = _
    simp only [wlL, List.nil_append, List.length_nil, Nat.add_zero]
  | d :: l, c, p => by
    have ih := wlL_snoc l c (p + 1)
    simp only [List.cons_append, wlL, ih, List.length_cons]
    rw [show p + 1 + l.length = p + (l.length + 1) by omega]
    split
    · rfl
    · rfl
theorem wlL_len : ∀ (l : List Nat) (p : Nat), (wlL l p).length ≤ l.length
  | [], _ => Nat.le_refl _
  | c :: l, p => by
    have := wlL_len l (p + 1)
    simp only [wlL, List.length_cons]
    split
    · omega
    · simp only [List.length_cons]; omega
/-- signs that a lined text may have -/
def ln' (l : List Nat) : Bool := l.all fun c => c == 10 || okW c
theorem ln'_c {c : Nat} (h : (c == 10 || okW c) = true) : c = 10 ∨ (32 ≤ c ∧ c ≤ 126) := by
  rcases Bool.or_eq_true_iff.mp h with h | h
  · exact .inl (beq_iff_eq.mp h)
  · unfold okW at h
    have h2 := Bool.and_eq_true_iff.mp h
    exact .inr ⟨of_decide_eq_true h2.1, of_decide_eq_true h2.2⟩
theorem wlL_sum : ∀ (l : List Nat) (p : Nat), ln' l = true → (wlL l p).sum = (ckS l p : Int)
  | [], _, _ => rfl
  | c :: l, p, h => by
    unfold ln' at h
    rw [List.all_cons] at h
    obtain ⟨h1, h2⟩ := Bool.and_eq_true_iff.mp h
    have ih := wlL_sum l (p + 1) h2
    simp only [wlL, ckS]
    rcases ln'_c h1 with rfl | hc
    · rw [if_pos rfl, ih]
      unfold wt
      simp
    · rw [if_neg (by omega), List.sum_cons, ih]
      unfold wt
      rw [if_neg (by omega), Int.natCast_add, Int.natCast_mul]
      congr 2
      omega
structure Bt2 (mg : Str → Option Value) : Prop where
  ord : mg "ord" = none
  sum : mg "sum" = none
  enu : mg "enumerate" = none
theorem boot_ord' : bootBuiltins "ord" = some (.builtin "ord") := by decide +kernel
theorem boot_sum' : bootBuiltins "sum" = some (.builtin "sum") := by decide +kernel
theorem s10 : ("\n" : Str) = sg 10 := by decide +kernel
section
variable {σ : L2.St} {H : Hp} {te : TE}
theorem ev_ord {c : Nat} (h : Ev te σ H (.str ⟨#[c]⟩)) : Ev (tCB (fun xs H Q => ∃ x, xs = [V.str x] ∧ x.length = 1 ∧ Q (.int (x.cps.getD 0 0 : Nat)) H) (tCons te tNil)) σ H (.int (c : Int)) := ev_cb (ea_cons h ea_nil) fun H1 _ Q q => ⟨_, rfl, rfl, q H1 (Ex.refl H1)⟩
theorem rv_mul {i j : Int} (h1 : -(2 ^ 64) < i) (h2 : i < 2 ^ 64) : RV (rI CMul fun i j => .int (i * j)) (.int i) (.int j) H (.int (i * j)) := fun H1 _ Q q => ⟨i, j, rfl, rfl, .inl ⟨h1, h2⟩, q H1 (Ex.refl H1)⟩
theorem rv_modN {i j : Int} (h : j ≠ 0) : RV (rI (fun _ j => j ≠ 0) fun i j => .int (i.fmod j)) (.int i) (.int j) H (.int (i.fmod j)) := fun H1 _ Q q => ⟨i, j, rfl, rfl, h, q H1 (Ex.refl H1)⟩
end
section
variable {P : Program} {w : World} {K : PySem.W.Frag} {mg : Str → Option Value} {base : Heap}
def spCB : Sp := fun vs H Q _ => ∃ z : Str, vs = [.int 0, .int 0, .str z] ∧ z.length ≤ 20000 ∧ ln' (TL.tl z) = true ∧ ∀ H', Same H H' → Q (.int (ck (TL.tl z) : Int)) H'
theorem scCB : FnScope ["number", "many", "text", "place", "sign", "worths"] ["number", "many", "text"] (defScope sCheckB) := ⟨rfl, rfl, rfl, by decide +kernel, rfl, by decide +kernel, by decide +kernel⟩
theorem walk_enumS {x : Str} {k : Int} : Walk (En.Itn x k) x.cps.size (fun _ => True) (fun i H v H' => ∃ T c, v = .ref T ∧ H T = none ∧ H' = upd H T (.tup [.int (k + (i : Int)), .str ⟨#[c]⟩]) ∧ x.cps[i]? = some c) :=
  ⟨fun _ _ hi _ => hi, fun _ _ => rfl, fun _ _ _ _ _ _ y => y⟩
theorem ie_read {σ : L2.St} {H H0 : Hp} {ta tk : TA} {z : Str} {k : Int} {R : It → Hp → Prop} (h1 : EvA ta σ H [.str z]) (h2 : EvA tk σ H [.int k]) (e : Ex H H0) (k0 : 0 ≤ k) (k1 : k ≤ 1000000) (kk : ∀ H2, Ex H0 H2 → R (En.Itn z k) H2) : En.iEnumS ta tk σ H0 R :=
  h1 H0 e _ fun H1 e1 => h2 H1 (e.trans e1) _ fun H2 e2 => ⟨z, k, rfl, rfl, k0, k1, kk H2 (e1.trans e2)⟩
theorem el_wts {σ : L2.St} {H : Hp} {z : Str} {a : V} {b : Option V} (hz : z.length ≤ 20000) (hl : ln' (TL.tl z) = true) (hσ : σ = [some a, some (.int 0), some (.str z), none, none, b]) :
    EvL (tLc (En.iEnumS (tCons (tVar 2) tNil) (tCons (tOp (rI0 fun i j => .int (i + j)) (tVar 1) (tC (.int 1))) tNil)) (gTup K 2 (gCons (gName 3) (gCons (gName 4) gNil))) (tTest (tOp rNe (tVar 4) (tC (.str "\n"))))
      (tOp (rI CMul fun i j => .int (i * j)) (tOp (rI0 fun i j => .int (i - j)) (tCB (fun xs H Q => ∃ x, xs = [V.str x] ∧ x.length = 1 ∧ Q (.int (x.cps.getD 0 0 : Nat)) H) (tCons (tVar 4) tNil)) (tC (.int 31))) (tVar 3)) [3, 4]) σ H ((wlL (TL.tl z) 1).map V.int) := fun H0 e Q q => by
  subst hσ
  have hlz := TL.len_tl z
  refine ie_read (z := z) (k := 0 + 1) (ea_cons (ev_var rfl) ea_nil) (ea_cons (ev_op (ev_var rfl) ev_c rv_I0) ea_nil) e (by decide) (by decide) fun H2 e2 Dl hD => ?_
  refine lc_it walk_enumS (fun i H' => Ex H2 H' ∧ H' Dl = some (.lst ((wlL ((TL.tl z).take i) 1).map V.int))) ⟨Ex.new hD, upd_same⟩ (fun _ _ _ _ => True.intro) (fun i x Hc Hn hi p y => ?_) (fun H' p => q Dl H' (fresh_back e2 (by exact hD)) (e2.trans p.1) (by
    rw [p.2, show z.cps.size = (TL.tl z).length from (TL.len_tl z).symm, List.take_length]))
  obtain ⟨p1, p2⟩ := p
  obtain ⟨T, c, rfl, hT, rfl, hc⟩ := y
  have hc' : (TL.tl z)[i]? = some c := by
    show z.cps.toList[i]? = some c
    rw [Array.getElem?_toList]
    exact hc
  have hlt : i < (TL.tl z).length := (List.getElem?_eq_some_iff.mp hc').1
  have hcc := ln'_c (List.all_eq_true.mp hl c (List.mem_of_getElem? hc'))
  have snoc : wlL ((TL.tl z).take (i + 1)) 1 = wlL ((TL.tl z).take i) 1 ++ (if c = 10 then [] else [((c : Int) - 31) * ((1 + i : Nat) : Int)]) := by
    rw [List.take_add_one, hc']
    show wlL (_ ++ [c]) 1 = _
    rw [wlL_snoc, List.length_take, Nat.min_eq_left (Nat.le_of_lt hlt)]
  have E1 : Ex Hc (upd Hc T (.tup [.int (0 + 1 + (i : Int)), .str ⟨#[c]⟩])) := Ex.new hT
  refine ⟨T, _, rfl, st_of upd_same, rfl, .int (0 + 1 + (i : Int)), _, rfl, .str ⟨#[c]⟩, [], rfl, rfl, ?_⟩
  refine ⟨rfl, ?_⟩
  have et : EvT (tTest (tOp rNe (tVar 4) (tC (.str "\n")))) [some a, some (.int 0), some (.str z), some (.int (0 + 1 + (i : Int))), some (.str ⟨#[c]⟩), b] (upd Hc T (.tup [.int (0 + 1 + (i : Int)), .str ⟨#[c]⟩])) (!decide (c = 10)) :=
    et_is (et_test (ev_op (ev_var rfl) ev_c (rv_ne rfl))) (by rw [← dS c s10])
  refine et _ (Ex.refl _) _ fun H3 e3 => ?_
  have h3 := e3 _ _ (E1 _ _ p2)
  have X3 := p1.trans (E1.trans e3)
  by_cases h10 : c = 10
  · rw [decide_eq_true h10]
    show Ex H2 H3 ∧ H3 Dl = _
    refine ⟨X3, ?_⟩
    rw [snoc, if_pos h10, List.append_nil]
    exact h3
  · rw [decide_eq_false h10]
    have hc2 : 32 ≤ c ∧ c ≤ 126 := by omega
    have ev : Ev (tOp (rI CMul fun i j => .int (i * j)) (tOp (rI0 fun i j => .int (i - j)) (tCB (fun xs H Q => ∃ x, xs = [V.str x] ∧ x.length = 1 ∧ Q (.int (x.cps.getD 0 0 : Nat)) H) (tCons (tVar 4) tNil)) (tC (.int 31))) (tVar 3)) [some a, some (.int 0), some (.str z), some (.int (0 + 1 + (i : Int))), some (.str ⟨#[c]⟩), b] H3
        (.int (((c : Int) - 31) * (0 + 1 + (i : Int)))) := ev_op (ev_op (ev_ord (ev_var rfl)) ev_c rv_I0) (ev_var rfl) (rv_mul (by omega) (by omega))
    rw [if_pos (show (!false) = true from rfl)]
    refine ev H3 (Ex.refl _) _ fun H4 e4 => ⟨_, e4 _ _ h3, ?_, fun b2 o hb => ?_, ?_⟩
    · rw [List.length_map]
      have h1 := wlL_len ((TL.tl z).take i) 1
      rw [List.length_take] at h1
      have := big_line
      omega
    · have hb4 := (X3.trans e4) _ _ hb
      rw [upd_ne (ne_of_none hb hD)]
      exact hb4
    · rw [upd_same, snoc, if_neg h10, List.map_append]
      congr 3
theorem ok_checkB {f : Addr} {fd : FuncData} {t : Tok} (F : Fun K "check_behind" "check_behind" sCheckB f fd) (B : Bt mg) (O : Bt2 mg) (hP : mg "CHECK_PRIME" = some (.int 99991 t)) : FnOk P w K mg base CX0 1 f fd ["number", "many", "text"] spCB := by
  refine F.ok scCB (fun vs H Q E h => ?_) (fun cdv A outer s H vs Q E hr h => ?_)
  · obtain ⟨z, rfl, _⟩ := h
    rfl
  obtain ⟨z, rfl, hz, hl, k⟩ := h
  refine ⟨_, pss_cons (ps_setLc (i := 5) (own := [("place", 3), ("sign", 4)]) (g := gTup K 2 (gCons (gName 3) (gCons (gName 4) gNil))) (tt := tTest (tOp rNe (tVar 4) (tC (.str "\n")))) rfl scCB.nd rfl rfl rfl (En.pi_enumS (by rfl) O.enu (pa_cons (pv 2) pa_nil) (pe_op op_add (pv 1) pe_int)) (blkOk_by (N := ["number", "many", "text", "place", "sign", "worths"]) (sc := defScope sCheckB) (by decide +kernel))
      (fun _ _ _ _ _ => pg_tup rfl (pgs_cons (pg_name (i := 3) scCB.nd rfl (Or.inl rfl)) (pgs_cons (pg_name (i := 4) scCB.nd rfl (Or.inl rfl)) pgs_nil)))
      (fun _ _ _ _ _ => pts_one (pt_cmpR op_ne (pv 4) pe_str (nomark _)))
      (fun _ _ _ _ _ => pe_op op_mul (pe_op op_sub (pe_callB call_ord (by rfl) O.ord boot_ord' (pa_cons (pv 4) pa_nil)) pe_int) (pv 3)))
    (pss_one (ps_ret (pe_op op_modN (pe_op op_add (pv 0) (pe_callB (cr_sum rfl) (by rfl) O.sum boot_sum' (pa_cons (pv 5) pa_nil))) (pe_glob (v := .int 99991) rfl hP ⟨_, rfl⟩)))), ?_⟩
  refine q_asgL (el_wts hz hl rfl) fun p H1 hp e1 h1 => ?_
  have es : Ev (tCB (rSum K) (tCons (tVar 5) tNil)) [some (.int 0), some (.int 0), some (.str z), none, none, some (.ref p)] H1 (.int (wlL (TL.tl z) 1).sum) := ev_cb (ea_cons (ev_var rfl) ea_nil) fun H2 e2 Q q => ⟨p, _, rfl, SqL.of (e2 _ _ h1), q H2 (Ex.refl H2)⟩
  refine s_ret (ev_is (ev_op (ev_op (ev_var rfl) es rv_I0) ev_c (rv_modN (by decide))) ?_) fun H2 e2 => k H2 (e1.trans e2)
  rw [wlL_sum _ _ hl, Int.zero_add, Int.fmod_eq_emod_of_nonneg _ (by decide)]
  rfl
theorem scCheck : FnScope ["text"] ["text"] (defScope sCheck) := ⟨rfl, rfl, rfl, by decide +kernel, rfl, by decide +kernel, by decide +kernel⟩
def spCk : Sp := fun vs H Q _ => ∃ z : Str, vs = [.str z] ∧ z.length ≤ 20000 ∧ ln' (TL.tl z) = true ∧ ∀ H', Same H H' → Q (.int (ck (TL.tl z) : Int)) H'
theorem ok_checkG {f f1 f2 f3 : Addr} {fd d1 d2 d3 : FuncData} {t : Tok} (F : Fun K "check" "check" sCheck f fd) (B : Bt mg) (O : Bt2 mg) (hP : mg "CHECK_PRIME" = some (.int 99991 t)) (D1 : Df K mg "is_lined" sIsLined ["thing"] f1 d1) (D2 : Df K mg "is_signs" sIsSigns ["thing"] f2 d2) (D3 : Df K mg "check_behind" sCheckB ["number", "many", "text"] f3 d3) :
    FnOk P w K mg base CX0 3 f fd ["text"] spCk := by
  have G1 : FnOk P w K mg base CX0 2 f1 d1 ["thing"] (spO linU) := ok_lined D1 B D2
  have G3 : FnOk P w K mg base CX0 1 f3 d3 ["number", "many", "text"] spCB := ok_checkB D3.F B O hP
  refine F.ok scCheck (fun vs H Q E h => ?_) (fun cdv A outer s H vs Q E hr h => ?_)
  · obtain ⟨z, rfl, _⟩ := h
    rfl
  obtain ⟨z, rfl, hz, hl, k⟩ := h
  refine ⟨_, pss_cons (ps_if (pt_not (pt_val (pe_call G1 hr (by rfl) D1.g D1.F.kp D1.b .nil pass0 (pa_cons (pv 0) pa_nil)))) (pss_one ps_never) pss_nil)
    (pss_one (ps_ret (pe_call G3 (hr.mono (by decide)) (by rfl) D3.g D3.F.kp D3.b .nil pass0 (pa_cons pe_int (pa_cons pe_int (pa_cons (pv 0) pa_nil)))))), ?_⟩
  refine q_when (b := !(linU (.str z))) (et_not (et_B (ev_call (sp := spO linU) (ea_cons (ev_var rfl) ea_nil) fun H1 e1 Q q E => ⟨.str z, .str z, rfl, .str z, by simp only [brd]; exact hz, q⟩))) (fun q H1 e1 => ?_) fun q H1 e1 => ?_
  · have hl' : linU (.str z) = true := hl
    rw [hl'] at q
    cases q
  exact s_ret (ev_call (sp := spCB) (ea_cons ev_c (ea_cons ev_c (ea_cons (ev_var rfl) ea_nil))) fun H2 e2 Q q E => ⟨z, rfl, hz, hl, q⟩) fun H2 e2 => k H2 (e1.trans e2)
def spCkX (CN : Addr) : Sp := fun vs H Q E => ∃ (v : V) (u : U), vs = [v] ∧ Od H v u ∧ brd u ∧ linU u = false ∧ ∀ H', Same H H' → E (.ref CN) none H'
theorem ok_checkX {f f1 f2 CN : Addr} {fd d1 d2 : FuncData} (F : Fun K "check" "check" sCheck f fd) (B : Bt mg) (D1 : Df K mg "is_lined" sIsLined ["thing"] f1 d1) (D2 : Df K mg "is_signs" sIsSigns ["thing"] f2 d2) (EC : Ec K mg "NoText" CN) :
    FnOk P w K mg base (L2.CX P w) 3 f fd ["text"] (spCkX CN) := by
  have G1 : FnOk P w K mg base CX0 2 f1 d1 ["thing"] (spO linU) := ok_lined D1 B D2
  refine F.okX scCheck (fun vs H Q E h => ?_) (fun cdv A outer s H vs Q E hr h => ?_)
  · obtain ⟨v, u, rfl, _⟩ := h
    rfl
  obtain ⟨v, u, rfl, hat, bu, hn, k⟩ := h
  refine ⟨_, pss_cons (ps_if (pt_not (pt_val (pe_call G1 hr (by rfl) D1.g D1.F.kp D1.b .nil pass0 (pa_cons (pv 0) pa_nil))))
      (pss_one (ps_raise rfl (takes_of rfl rfl rfl rfl) (pmk_own0 PySem.F.excBase_ValueError EC.x EC.g EC.k (raises_own EC.b EC.t) rfl))) pss_nil)
    (pss_one ps_never), ?_⟩
  refine q_when (b := !(linU u)) (et_not (et_B (ev_call (sp := spO linU) (ea_cons (ev_var rfl) ea_nil) fun H1 e1 Q q E => ⟨v, u, rfl, hat.ex e1, bu, q⟩))) (fun q H1 e1 => ?_) fun q H1 e1 => by rw [hn] at q; cases q
  exact k H1 e1
end
end Ht
/-! k31: sealed, unsealed -/
namespace Ht
open PySem PySem.Spec PyProof.Rows L2 Hu Evl
abbrev sSealed : Stmt := topS 25
abbrev sUnsealed : Stmt := topS 26
def stx (u : U) : Str := mkS (Sl u)
theorem okW_of {c : Nat} (h : 32 ≤ c ∧ c ≤ 126) : okW c = true := by
  unfold okW
  rw [decide_eq_true h.1, decide_eq_true h.2]
  rfl
theorem ln_pr {l : List Nat} (h : pr l) : ln' l = true := List.all_eq_true.mpr fun c hc => by rw [okW_of (h c hc), Bool.or_true]
theorem num_tl (n : Nat) : TL.tl (toString (n : Int) : Str) = TL.numL n := TL.tl_num n
theorem stx_eq (u : U) : txt u ++ ("#" : Str) ++ (toString ((ck (tx u) : Nat) : Int) : Str) = stx u := by
  apply TL.ext_tl
  rw [TL.tl_append, TL.tl_append, num_tl, show TL.tl ("#" : Str) = [35] by decide +kernel]
  show tx u ++ [35] ++ _ = tx u ++ 35 :: _
  simp
theorem ck_lt (l : List Nat) : ck l < 99991 := Nat.mod_lt _ (by decide)
theorem num_len (l : List Nat) : (TL.numL (ck l)).length ≤ 5 := TL.numL_len (by decide) (Nat.lt_trans (ck_lt l) (by decide))
theorem txt_tl (u : U) : TL.tl (txt u) = tx u := rfl
theorem txt_len (u : U) : (txt u).length = (tx u).length := by rw [TL.len_tl]; rfl
theorem str_len (n : Nat) : ((toString (n : Int) : Str)).length = (TL.numL n).length := by rw [TL.len_tl, num_tl]
theorem Sl_len (u : U) : (Sl u).length ≤ (tx u).length + 6 := by
  have := num_len (tx u)
  unfold Sl
  rw [List.length_append, List.length_cons]
  omega
theorem stx_len (u : U) : (stx u).length = (Sl u).length := by rw [TL.len_tl]; rfl
section
variable {σ : L2.St} {H : Hp} {te : TE}
theorem ev_strN {n : Nat} (h : Ev te σ H (.int (n : Int))) (hn : n < 100000) : Ev (tCB (fun xs H Q => ∃ i : Int, xs = [V.int i] ∧ i.natAbs.log2 < 1920 ∧ Q (.str (toString i)) H) (tCons te tNil)) σ H (.str (toString (n : Int))) := ev_cb (ea_cons h ea_nil) fun H1 e Q q =>
  ⟨n, rfl, Nat.lt_of_lt_of_le (PySem.Flt.log2_lt_of (k := 100) (by decide) (Nat.lt_of_lt_of_le (show (n : Int).natAbs < 100000 from hn) (by decide))) (by decide), q H1 (Ex.refl H1)⟩
end
/-- where the program's check stands -/
structure Kd (K : PySem.W.Frag) (mg : Str → Option Value) : Prop where
  B : Bt mg
  O : Bt2 mg
  P : ∃ t, mg "CHECK_PRIME" = some (.int 99991 t)
  L : ∃ f d, Df K mg "is_lined" sIsLined ["thing"] f d
  S : ∃ f d, Df K mg "is_signs" sIsSigns ["thing"] f d
  H : ∃ f d, Df K mg "check_behind" sCheckB ["number", "many", "text"] f d
section
variable {P : Program} {w : World} {K : PySem.W.Frag} {mg : Str → Option Value} {base : Heap} {C : Addr}
theorem ok_checkK {f : Addr} {fd : FuncData} (F : Fun K "check" "check" sCheck f fd) (R : Kd K mg) : FnOk P w K mg base CX0 3 f fd ["text"] spCk := by
  obtain ⟨B, O, ⟨t, hP⟩, ⟨f1, d1, D1⟩, ⟨f2, d2, D2⟩, ⟨f3, d3, D3⟩⟩ := R
  exact ok_checkG F B O hP D1 D2 D3
def spSe (C : Addr) : Sp := fun vs H Q _ => ∃ (v : V) (u : U) (w' : Addr), vs = [v] ∧ At w' C H v u ∧ pl u ∧ ln u ≤ 19000 ∧ dpt u ≤ 30 ∧ ∀ H', Same H H' → Q (.str (stx u)) H'
theorem scSe : FnScope ["thing", "text"] ["thing"] (defScope sSealed) := ⟨rfl, rfl, rfl, by decide +kernel, rfl, by decide +kernel, by decide +kernel⟩
theorem ok_sealed {f fP fC : Addr} {fd dP dC : FuncData} (F : Fun K "sealed" "sealed" sSealed f fd) (R : Kd K mg) (DC : Df K mg "check" sCheck ["text"] fC dC) (gP : mg "packed" = some (.ref fP)) (kP : PySem.W.keepIn K (.ref fP) = true) (bP : Binds K dP ["thing"] []) (GP : FnOk P w K mg base CX0 33 fP dP ["thing"] (spPkG C)) :
    FnOk P w K mg base CX0 34 f fd ["thing"] (spSe C) := by
  have GC : FnOk P w K mg base CX0 3 fC dC ["text"] spCk := ok_checkK DC.F R
  have B := R.B
  refine F.ok scSe (fun vs H Q E h => ?_) (fun cdv A outer s H vs Q E hr h => ?_)
  · obtain ⟨v, u, w', rfl, _⟩ := h
    rfl
  obtain ⟨v, u, w', rfl, hat, pu, lu, du, k⟩ := h
  refine ⟨_, pss_cons (ps_set (i := 1) scSe.nd rfl (.inl rfl) (pe_call GP hr (by rfl) gP kP bP .nil pass0 (pa_cons (pv 0) pa_nil)))
    (pss_one (ps_ret (pe_op op_add_str (pe_op op_add_str (pv 1) pe_str) (pe_callTy call_str_int (by rfl) B.str boot_str' (pa_cons (pe_call GC (hr.mono (by decide)) (by rfl) DC.g DC.F.kp DC.b .nil pass0 (pa_cons (pv 1) pa_nil)) pa_nil))))), ?_⟩
  have tl' := tx_len u pu
  have l5 := num_len (tx u)
  have l1 : (("#" : Str)).length = 1 := by decide +kernel
  refine q_asg (v := .str (txt u)) (ev_call (sp := spPkG C) (ea_cons (ev_var rfl) ea_nil) fun H1 e1 Q q E => ⟨v, u, w', rfl, ex_at e1 hat, pu, by omega, du, q⟩) fun H1 e1 => ?_
  refine s_ret (ev_is (ev_addS (ev_addS (ev_var rfl) ev_c (by rw [txt_len, l1]; omega)) (ev_strN (n := ck (tx u)) (ev_call (sp := spCk) (ea_cons (ev_var rfl) ea_nil) fun H2 e2 Q q E => ⟨txt u, rfl, by rw [txt_len]; omega, ln_pr (pr_tx u pu), q⟩) (Nat.lt_trans (ck_lt _) (by decide))) (by rw [app_len, txt_len, l1, str_len]; omega)) (congrArg V.str (stx_eq u))) fun H2 e2 => k H2 (e1.trans e2)
/-! ### unsealed -/
def unV (u : U) : List U := match u with | .str z => unT (TL.tl z) | _ => []
theorem un_bad {z : Str} {e : Int} (h : unU (.str (Txt.rpartition z "#").1) = .inr e) : unT (TL.tl z) = [] := by
  rcases rpart_spec z with ⟨h1, _⟩ | ⟨h1, h2⟩
  · unfold unT
    rw [lastS_no h1]
  · unfold unT
    rw [lastS_of h1 h2]
    dsimp only
    unfold bodyT
    have h' : (match whole (TL.tl (Txt.rpartition z "#").1) (rdThing (TL.tl (Txt.rpartition z "#").1) (riP (TL.tl (Txt.rpartition z "#").1)) 30 0) with | .inl u => (.inl u : U ⊕ Int) | .inr e => .inr (e : Int)) = .inr e := h
    cases hw : whole (TL.tl (Txt.rpartition z "#").1) (rdThing (TL.tl (Txt.rpartition z "#").1) (riP (TL.tl (Txt.rpartition z "#").1)) 30 0) with
    | inl u => rw [hw] at h'; cases h'
    | inr e => rfl
theorem un_good {z : Str} {u : U} (h : unU (.str (Txt.rpartition z "#").1) = .inl u) : TL.tl (Txt.rpartition z "#").1 = tx u ∧ pl u ∧ unT (TL.tl z) = if TL.tl (Txt.rpartition z "#").2.2 = TL.numL (ck (tx u)) then [u] else [] := by
  have h' : (match whole (TL.tl (Txt.rpartition z "#").1) (rdThing (TL.tl (Txt.rpartition z "#").1) (riP (TL.tl (Txt.rpartition z "#").1)) 30 0) with | .inl u => (.inl u : U ⊕ Int) | .inr e => .inr (e : Int)) = .inl u := h
  cases hw : whole (TL.tl (Txt.rpartition z "#").1) (rdThing (TL.tl (Txt.rpartition z "#").1) (riP (TL.tl (Txt.rpartition z "#").1)) 30 0) with
  | inr e => rw [hw] at h'; cases h'
  | inl u' =>
    rw [hw] at h'
    cases h'
    obtain ⟨e1, e2, e3⟩ := whole_tx hw
    refine ⟨e1, e2, ?_⟩
    rcases rpart_spec z with ⟨h1, h2⟩ | ⟨h1, h2⟩
    · obtain ⟨c, r, ec, _⟩ := tx_head u e2
      rw [h2, ec] at e1
      cases e1
    · unfold unT
      rw [lastS_of h1 h2]
      dsimp only
      unfold bodyT
      rw [hw, e1]
theorem brdS {z : Str} (h : z.length ≤ 20000) : brd (.str z) := by simp only [brd]; exact h
theorem rpart_len (z : Str) : (Txt.rpartition z "#").1.length ≤ z.length := (PyProof.Rows.fact_rpartition z "#").1
def spUS : Sp := fun vs H Q _ => ∃ (v : V) (u : U), vs = [v] ∧ Od H v u ∧ brd u ∧ ∀ (t : Addr) (H' : Hp), Same H H' → Od H' (.ref t) (.tup (unV u)) → Q (.ref t) H'
theorem scUS : FnScope ["text", "body", "_", "digits", "thing"] ["text"] (defScope sUnsealed) := ⟨rfl, rfl, rfl, by decide +kernel, rfl, by decide +kernel, by decide +kernel⟩
theorem ok_unsealed {f fU fC CB : Addr} {fd dU dC : FuncData} (F : Fun K "unsealed" "unsealed" sUnsealed f fd) (R : Rd K mg CB) (R2 : Kd K mg) (DU : Df K mg "unpacked" sUnpacked ["text"] fU dU) (DC : Df K mg "check" sCheck ["text"] fC dC) : FnOk P w K mg base CX0 66 f fd ["text"] spUS := by
  have GU : FnOk P w K mg base (L2.CX P w) 65 fU dU ["text"] (spUn CB) := ok_unpacked DU.F R
  have GC : FnOk P w K mg base CX0 3 fC dC ["text"] spCk := ok_checkK DC.F R2
  obtain ⟨B, N, ⟨fI, dI', EB⟩, _⟩ := R
  refine F.ok scUS (fun vs H Q E h => ?_) (fun cdv A outer s H vs Q E hr h => ?_)
  · obtain ⟨v, u, rfl, _⟩ := h
    rfl
  obtain ⟨v, u, rfl, hat, bu, hk⟩ := h
  refine ⟨_, pss_cons (ps_if (pt_not (pt_val (pe_callB call_isi (by rfl) B.isi boot_isi' (pa_cons (pv 0) (pa_cons (pe_bltn (by rfl) B.str boot_str' (show RelV (.ty "str") (.type "str") from rfl)) pa_nil))))) (pss_one (ps_ret (pe_tup pa_nil))) pss_nil)
    (pss_cons (ps_asg (pe_m1 PySem.F.slot_str_rpartition PySem.F.type_str_rpartition mt_rpart (pv 0) pe_str) (pg_tup rfl (pgs_cons (pg_name (i := 1) scUS.nd rfl (.inl rfl)) (pgs_cons (pg_name (i := 2) scUS.nd rfl (.inl rfl)) (pgs_cons (pg_name (i := 3) scUS.nd rfl (.inl rfl)) pgs_nil)))))
    (pss_cons (ps_try_only (tb := fun W => tAsg (tCallS (spUn CB) (WE W) (tCons (tVar 1) tNil)) (gName 4)) (Wout := fun _ _ _ _ => False) rfl rfl ⟨rfl, by decide, .inl EB.g⟩ takes0
      (fun W pn xe tk _ => pss_one (ps_set (i := 4) scUS.nd rfl (.inl rfl) (pe_callS GU hr rfl DU.g DU.F.kp DU.b (fun σ => passAt tk σ) (pa_cons (pv 1) pa_nil))))
      (fun a oe cls d pn hz hf => pss_one (ps_ret (pe_tup pa_nil))))
    (pss_cons (ps_if (pt_cmpR op_ne (pv 3) (pe_callTy call_str_int (by rfl) B.str boot_str' (pa_cons (pe_call GC (hr.mono (by decide)) (by rfl) DC.g DC.F.kp DC.b .nil pass0 (pa_cons (pv 1) pa_nil)) pa_nil)) (nomark _)) (pss_one (ps_ret (pe_tup pa_nil))) pss_nil)
    (pss_one (ps_ret (pe_tup (pa_cons (pv 4) pa_nil))))))), ?_⟩
  refine q_when (b := !(isT u "str")) (et_not (et_B (ev_isiO (ev_var rfl) hat (by decide)))) (fun q H1 e1 => ?_) (fun q H1 e1 => ?_)
  · have e : unV u = [] := by
      cases u with
      | str z => simp [isT, isS, tyU] at q
      | _ => rfl
    rw [e] at hk
    exact s_retU (eu_tup ea_nil (by show (0 : Nat) ≤ 100000; decide)) fun t H7 ht e7 h7 => hk t H7 (e1.trans e7) (.tup h7 .nil)
  obtain ⟨z, rfl⟩ : ∃ z, u = .str z := by
    cases u with
    | str z => exact ⟨z, rfl⟩
    | _ => simp [isT, isS, tyU] at q
  cases hat
  have hz : z.length ≤ 20000 := by simpa only [brd] using bu
  have hb := rpart_len z
  have hk : ∀ (t : Addr) (H' : Hp), Same H H' → Od H' (.ref t) (.tup (unT (TL.tl z))) → Q (.ref t) H' := hk
  refine ⟨_, rfl, ⟨z, rfl⟩, z, "#", rfl, rfl, by decide +kernel, sz_of (by omega), fun p hp => ?_⟩
  have e2 : Ex H1 (upd H1 p (.tup [.str (Txt.rpartition z "#").1, .str (Txt.rpartition z "#").2.1, .str (Txt.rpartition z "#").2.2])) := Ex.new hp
  refine ⟨p, _, rfl, st_of upd_same, rfl, .str (Txt.rpartition z "#").1, _, rfl, .str (Txt.rpartition z "#").2.1, _, rfl, .str (Txt.rpartition z "#").2.2, [], rfl, rfl, ?_⟩
  refine ⟨.str (Txt.rpartition z "#").1, rfl, .str (Txt.rpartition z "#").1, .str (Txt.rpartition z "#").1, rfl, .str _, brdS (by omega), ?_⟩
  have E2 := e1.trans e2
  cases hu : unU (.str (Txt.rpartition z "#").1) with
  | inr e =>
    intro d H3 s3 h3
    rw [un_bad hu] at hk
    refine ⟨true, EB.e, fun _ a ha => ?_, fun q => Bool.noConfusion q⟩
    exact s_retU (eu_tup ea_nil (by show (0 : Nat) ≤ 100000; decide)) fun t H7 ht e7 h7 => hk t H7 ((E2.trans s3).trans e7) (.tup h7 .nil)
  | inl u' =>
    intro v' H3 s3 o3
    obtain ⟨g1, g2, g3⟩ := un_good hu
    rw [g3] at hk
    have E3 := E2.trans s3
    show tSeq _ _ _ [some (.str z), some (.str (Txt.rpartition z "#").1), some (.str (Txt.rpartition z "#").2.1), some (.str (Txt.rpartition z "#").2.2), some v'] H3
    refine q_when (b := !decide (TL.tl (Txt.rpartition z "#").2.2 = TL.numL (ck (tx u')))) (et_is (et_test (ev_op (ev_var rfl) (ev_strN (n := ck (tx u')) (ev_call (sp := spCk) (ea_cons (ev_var rfl) ea_nil) fun H4 e4 Q q E => ⟨_, rfl, by omega, by rw [g1]; exact ln_pr (pr_tx u' g2), by rw [g1]; exact q⟩) (Nat.lt_trans (ck_lt _) (by decide))) (rv_ne rfl))) (by
      congr 1
      refine decide_eq_decide.mpr ⟨fun h => ?_, fun h => ?_⟩
      · injection h with h
        rw [h, num_tl]
      · rw [TL.ext_tl (h.trans (num_tl _).symm)])) (fun q4 H4 e4 => ?_) (fun q4 H4 e4 => ?_)
    · rw [if_neg (of_decide_eq_false (by simpa using q4))] at hk
      exact s_retU (eu_tup ea_nil (by show (0 : Nat) ≤ 100000; decide)) fun t H7 ht e7 h7 => hk t H7 ((E3.trans e4).trans e7) (.tup h7 .nil)
    · rw [if_pos (of_decide_eq_true (by simpa using q4))] at hk
      exact s_retU (eu_tup (ea_cons (ev_var rfl) ea_nil) (by show (1 : Nat) ≤ 100000; decide)) fun t H7 ht e7 h7 => hk t H7 ((E3.trans e4).trans e7) (.tup h7 (.cons (o3.ex (e4.trans e7)) .nil))
end
end Ht
/-! k31: _law_check, _law_sealed -/
namespace Ht
open PySem PySem.Spec PyProof.Rows L2 Hu Evl
abbrev lCheck : Stmt := topS 34
abbrev lSealed : Stmt := topS 35
theorem ck_snoc (l : List Nat) (c : Nat) : ck (l ++ [c]) = (ck l + (l.length + 1) * wt c) % 99991 := by
  unfold ck
  rw [ckS_app]
  simp only [ckS, Nat.add_zero]
  rw [Nat.mod_add_mod, Nat.mul_comm (wt c), Nat.add_comm 1 l.length]
theorem boot_int2 : bootBuiltins "int" = some (.type "int") := by decide +kernel
section
variable {σ : L2.St} {H : Hp} {te : TE}
theorem ev_int1 {i : Int} (h : Ev te σ H (.int i)) : Ev (tCB (fun xs H Q => (∃ i, xs = [V.int i] ∧ Q (.int i) H) ∨ ∃ k, xs = [V.bl k] ∧ Q (.int (if k then 1 else 0)) H) (tCons te tNil)) σ H (.int i) := ev_cb (ea_cons h ea_nil) fun H1 _ Q q => .inl ⟨i, rfl, q H1 (Ex.refl H1)⟩
end
section
variable {P : Program} {w : World} {K : PySem.W.Frag} {mg : Str → Option Value} {base : Heap} {C : Addr}
theorem scLC : FnScope ["text", "found", "at", "number"] ["text"] (defScope lCheck) := ⟨rfl, rfl, rfl, by decide +kernel, rfl, by decide +kernel, by decide +kernel⟩
theorem ok_lawCheck {f : Addr} {fd : FuncData} (F : Fun K "_law_check" "_law_check" lCheck f fd) (B : Bt mg) (O : Bt2 mg) : FnOk P w K mg base CX0 1 f fd ["text"] spCk := by
  refine F.ok scLC (fun vs H Q E h => ?_) (fun cdv A outer s H vs Q E hr h => ?_)
  · obtain ⟨z, rfl, _⟩ := h
    rfl
  obtain ⟨z, rfl, hz, hl, k⟩ := h
  refine ⟨_, pss_cons (ps_set (i := 1) scLC.nd rfl (.inl rfl) pe_int)
    (pss_cons (ps_for PassesOwn.never rfl (pi_range1 (by rfl) B.range (pa_cons (pe_callB call_len_str (by rfl) B.len PySem.boot_len (pa_cons (pv 0) pa_nil)) pa_nil)) (pg_name (i := 2) scLC.nd rfl (Or.inl rfl))
      (pss_cons (ps_set (i := 3) scLC.nd rfl (.inl rfl) (pe_ifExp (pt_cmpR op_eq (pe_ix ix_str (pv 0) (pv 2) (fun _ _ => rfl)) pe_str (nomark _)) pe_int (pe_op op_sub (pe_callB call_ord (by rfl) O.ord boot_ord' (pa_cons (pe_ix ix_str (pv 0) (pv 2) (fun _ _ => rfl)) pa_nil)) pe_int)))
      (pss_one (ps_set (i := 1) scLC.nd rfl (.inl rfl) (pe_op op_modN (pe_callTy call_int1 (by rfl) B.int boot_int2 (pa_cons (pe_op op_add (pv 1) (pe_op op_mul (pe_op op_add (pv 2) pe_int) (pv 3))) pa_nil)) pe_int)))))
    (pss_one (ps_ret (pv 1)))), ?_⟩
  have hlz := TL.len_tl z
  have hz1 : z.length ≤ 100000 := by omega
  refine q_asg (v := .int ((ck ([] : List Nat) : Nat) : Int)) ev_c fun H1 e1 => ?_
  refine s_forR1 (n := (z.length : Int)) (ea_cons (ev_lenS (ev_var rfl) hz1) ea_nil) ⟨by omega, by omega⟩ (fun i σ' H' => (∃ x2 x3, σ' = [some (.str z), some (.int ((ck ((TL.tl z).take i) : Nat) : Int)), x2, x3]) ∧ Ex H H') (fun H2 e2 => ⟨⟨none, none, rfl⟩, e1.trans e2⟩) ?_ ?_
  · rintro i σ' H2 hi ⟨⟨x2, x3, rfl⟩, e2⟩
    have hi' : i < (TL.tl z).length := by omega
    have hc : (TL.tl z)[i]? = some (TL.tl z)[i] := List.getElem?_eq_getElem hi'
    generalize (TL.tl z)[i] = c at hc
    have hcc := ln'_c (List.all_eq_true.mp hl c (List.mem_of_getElem? hc))
    refine q_asg (v := .int ((wt c : Nat) : Int)) (ev_if (b := decide (c = 10)) (et_sign (ev_var rfl) (ev_var rfl) hz1 hc s10) (fun q => ?_) fun q => ?_) fun H3 e3 => ?_
    · have q := of_decide_eq_true q
      exact ev_is ev_c (by rw [q]; rfl)
    · have q := of_decide_eq_false q
      refine ev_is (ev_op (ev_ord (ev_ixS (ev_var rfl) (ev_var rfl) hz1 hc)) ev_c rv_I0) ?_
      congr 1
      unfold wt
      rw [if_neg q]
      omega
    · have hw : wt c < 96 := by unfold wt; split <;> omega
      refine s_asg (v := .int ((ck ((TL.tl z).take (i + 1)) : Nat) : Int)) (ev_is (ev_op (ev_int1 (ev_op (ev_var rfl) (ev_op (ev_op (ev_var rfl) ev_c rv_I0) (ev_var rfl) (rv_mul (by omega) (by omega))) rv_I0)) ev_c (rv_modN (by decide))) ?_) fun H4 e4 => ⟨⟨_, _, rfl⟩, (e2.trans e3).trans e4⟩
      congr 1
      rw [List.take_add_one, hc]
      show _ = ((ck (_ ++ [c]) : Nat) : Int)
      rw [ck_snoc, List.length_take, Nat.min_eq_left (Nat.le_of_lt hi'), Int.fmod_eq_emod_of_nonneg _ (by decide)]
      simp only [Int.natCast_emod, Int.natCast_add, Int.natCast_mul]
      rfl
  · rintro σ' H2 ⟨⟨x2, x3, rfl⟩, e2⟩
    refine s_ret (ev_var rfl) fun H3 e3 => ?_
    have := k H3 (e2.trans e3)
    rw [show ((z.length : Int)).toNat = (TL.tl z).length by omega, List.take_length]
    exact this
def spLSe (C : Addr) : Sp := fun vs H Q _ => ∃ (v : V) (u : U) (w' : Addr), vs = [v] ∧ At w' C H v u ∧ pl u ∧ ln u ≤ 60000 ∧ (tx u).length ≤ 19000 ∧ dpt u ≤ 30 ∧ ∀ H', Same H H' → Q (.str (stx u)) H'
theorem scLSe : FnScope ["thing", "text"] ["thing"] (defScope lSealed) := ⟨rfl, rfl, rfl, by decide +kernel, rfl, by decide +kernel, by decide +kernel⟩
theorem ok_lawSealed {f fP fC : Addr} {fd dP dC : FuncData} (F : Fun K "_law_sealed" "_law_sealed" lSealed f fd) (B : Bt mg) (O : Bt2 mg) (DP : Df K mg "_law_packed" sPacked ["thing"] fP dP) (DC : Df K mg "_law_check" lCheck ["text"] fC dC) : FnOk P w K mg base CX0 32 f fd ["thing"] (spLSe C) := by
  have GC : FnOk P w K mg base CX0 1 fC dC ["text"] spCk := ok_lawCheck DC.F B O
  have GP : FnOk P w K mg base CX0 31 fP dP ["thing"] (spPacked C 31) := ok_packed DP B 31
  refine F.ok scLSe (fun vs H Q E h => ?_) (fun cdv A outer s H vs Q E hr h => ?_)
  · obtain ⟨v, u, w', rfl, _⟩ := h
    rfl
  obtain ⟨v, u, w', rfl, hat, pu, lu, lt, du, k⟩ := h
  refine ⟨_, pss_cons (ps_set (i := 1) scLSe.nd rfl (.inl rfl) (pe_call GP hr (by rfl) DP.g DP.F.kp DP.b .nil pass0 (pa_cons (pv 0) pa_nil)))
    (pss_one (ps_ret (pe_op op_add_str (pe_op op_add_str (pv 1) pe_str) (pe_callTy call_str_int (by rfl) B.str boot_str' (pa_cons (pe_call GC (hr.mono (by decide)) (by rfl) DC.g DC.F.kp DC.b .nil pass0 (pa_cons (pv 1) pa_nil)) pa_nil))))), ?_⟩
  have l5 := num_len (tx u)
  have l1 : (("#" : Str)).length = 1 := by decide +kernel
  refine q_asg (v := .str (txt u)) (ev_call (sp := spPacked C 31) (ea_cons (ev_var rfl) ea_nil) fun H1 e1 Q q E => ⟨v, u, w', rfl, ex_at e1 hat, pu, lu, by omega, q⟩) fun H1 e1 => ?_
  refine s_ret (ev_is (ev_addS (ev_addS (ev_var rfl) ev_c (by rw [txt_len, l1]; omega)) (ev_strN (n := ck (tx u)) (ev_call (sp := spCk) (ea_cons (ev_var rfl) ea_nil) fun H2 e2 Q q E => ⟨txt u, rfl, by rw [txt_len]; omega, ln_pr (pr_tx u pu), q⟩) (Nat.lt_trans (ck_lt _) (by decide))) (by rw [app_len, txt_len, l1, str_len]; omega)) (congrArg V.str (stx_eq u))) fun H2 e2 => k H2 (e1.trans e2)
end
mutual
theorem at_od {w C : Addr} {H : Hp} (hw : ∀ xs, H w ≠ some (.tup xs)) : ∀ {u : U} {v : V}, Od H v u → pl u → At w C H v u
  | _, _, .non, _ => .non
  | _, _, .bl b, _ => .bl b
  | _, _, .int i, _ => .int i
  | _, _, .str z, _ => .str z
  | _, _, .tup h l, s => .tup h (fun e => by rw [e] at h; exact hw _ h) (atl_od hw l (by simpa only [pl] using s))
  | _, _, .lst h, s => by simp only [pl] at s
  | _, _, .dct h, s => by simp only [pl] at s
theorem atl_od {w C : Addr} {H : Hp} (hw : ∀ xs, H w ≠ some (.tup xs)) : ∀ {us : List U} {vs : List V}, OdL H vs us → plL us → AtL w C H vs us
  | _, _, .nil, _ => .nil
  | _, _, .cons x l, s => .cons (at_od hw x s.1) (atl_od hw l s.2)
end
mutual
/-- a thing's bound by its text's length -/
theorem ln_tx : ∀ u : U, pl u → ln u ≤ 17 * (tx u).length + 16
  | .non, _ => by simp [ln]
  | .int i, _ => by
    have : 1 ≤ (tx (.int i)).length := by
      obtain ⟨n, en, hc⟩ := tx_int i
      have h0 : (TL.numL n).length ≠ 0 := fun e => TL.numL_ne n (List.length_eq_zero_iff.mp e)
      rcases hc with ⟨_, e⟩ | ⟨_, _, e⟩
      · rw [e]; omega
      · rw [e, List.length_cons]; omega
    simp only [ln]
    omega
  | .str z, _ => by
    have h := escP_ge (TL.tl z)
    have hz := TL.len_tl z
    simp only [ln, tx, List.length_cons, List.length_append, List.length_nil]
    omega
  | .tup us, h => by
    have q := lnL_tx us (by simpa only [pl] using h)
    simp only [ln, tx, List.length_cons, List.length_append, List.length_nil]
    omega
  | .bl _, h => by simp only [pl] at h
  | .lst _, h => by simp only [pl] at h
  | .dct _, h => by simp only [pl] at h
  | .exc, h => by simp only [pl] at h
theorem lnL_tx : ∀ us : List U, plL us → lnL us ≤ 17 * (TL.joinL [44] (txs us)).length + 17
  | [], _ => by simp [lnL]
  | [u], h => by
    have := ln_tx u h.1
    have e : TL.joinL [44] (txs [u]) = tx u := rfl
    simp only [lnL]
    rw [e]
    omega
  | u :: u1 :: us, h => by
    have h1 := ln_tx u h.1
    have h2 := lnL_tx (u1 :: us) h.2
    have e : TL.joinL [44] (txs (u :: u1 :: us)) = tx u ++ (44 :: TL.joinL [44] (txs (u1 :: us))) := rfl
    have e2 : lnL (u :: u1 :: us) = ln u + 1 + lnL (u1 :: us) := rfl
    rw [e, e2, List.length_append, List.length_cons]
    omega
end
end Ht
/-! k31: _law_due -/
namespace Ht
open PySem PySem.Spec PyProof.Rows L2 Hu Evl
abbrev lDue : Stmt := topS 43
theorem rev_tl (z : Str) : TL.tl (revZ z) = (TL.tl z).reverse := by
  have hl := TL.len_tl z
  show ((Builtin.Str.strSliceIndices none none (-1) z.length).filterMap (z.cps[·]?)).toArray.toList = _
  rw [picked_rev, List.toList_toArray]
  refine List.ext_getElem? fun k => ?_
  have e : ((List.range z.length).map fun k => z.length - 1 - k).filterMap (z.cps[·]?) = (List.range z.length).map fun k => z.cps.getD (z.length - 1 - k) 0 := by
    rw [filterMap_get, List.map_map]
    · rfl
    · intro i hi
      obtain ⟨k, hk, rfl⟩ := List.mem_map.mp hi
      have hk' : k < z.length := List.mem_range.mp hk
      show z.length - 1 - k < z.length
      omega
  rw [e, List.getElem?_map]
  by_cases hk : k < z.length
  · rw [List.getElem?_range hk, List.getElem?_reverse (by omega), ← hl]
    show some (z.cps.getD (z.length - 1 - k) 0) = (TL.tl z)[z.length - 1 - k]?
    have h2 : z.length - 1 - k < (TL.tl z).length := by omega
    rw [List.getElem?_eq_getElem h2]
    congr 1
    show z.cps.getD (z.length - 1 - k) 0 = z.cps.toList[z.length - 1 - k]
    have h3 : z.length - 1 - k < z.cps.size := by
      show z.length - 1 - k < z.length
      omega
    rw [Array.getElem_toList]
    simp [Array.getD, h3]
  · rw [List.getElem?_eq_none (by rw [List.length_range]; omega), List.getElem?_eq_none (by rw [List.length_reverse]; omega)]
    rfl
/-- the first # of the text turned round -/
theorem rev_index {z : Str} (h : 35 ∈ TL.tl z) : ∃ i r, Builtin.Str.occurrences (revZ z) "#" 0 (revZ z).length 1 = i :: r ∧ i < z.length ∧ TL.tl z = (TL.tl z).take (z.length - 1 - i) ++ 35 :: (TL.tl z).drop (z.length - 1 - i + 1) ∧ 35 ∉ (TL.tl z).drop (z.length - 1 - i + 1) := by
  have hl := TL.len_tl z
  rw [sg35]
  rcases StrLaws.occ_head (revZ z) (sg 35) 1 (Nat.le_refl _) with ⟨_, hn⟩ | ⟨i, r, h0, hi, hn⟩
  · exfalso
    have h2 : 35 ∈ TL.tl (revZ z) := by rw [rev_tl]; exact List.mem_reverse.mpr h
    obtain ⟨j, hj⟩ := List.mem_iff_getElem?.mp h2
    exact hn j (at_sign.mpr hj)
  · have hi' := at_sign.mp hi
    rw [rev_tl] at hi'
    have hlt := (List.getElem?_eq_some_iff.mp hi').1
    rw [List.length_reverse] at hlt
    rw [List.getElem?_reverse hlt, ← hl] at hi'
    refine ⟨i, r, h0, by omega, mid_of hi', fun q => ?_⟩
    obtain ⟨j, hj⟩ := List.mem_iff_getElem?.mp q
    rw [List.getElem?_drop] at hj
    have hj1 := (List.getElem?_eq_some_iff.mp hj).1
    refine hn (z.length - 1 - (z.length - 1 - i + 1 + j)) (by omega) (at_sign.mpr ?_)
    rw [rev_tl, List.getElem?_reverse (by omega), ← hl, show z.length - 1 - (z.length - 1 - (z.length - 1 - i + 1 + j)) = z.length - 1 - i + 1 + j by omega]
    exact hj
theorem cut_tlN {z : Str} {b : Nat} (hb : b ≤ z.length) : TL.tl (cutS z none (some (b : Int))) = (TL.tl z).take b := by
  show ((z.cps.toList.drop (HT.sIx z.length 0 none)).take (HT.sIx z.length z.length (some (b : Int)) - HT.sIx z.length 0 none)) = _
  rw [HT.sIx_nat, Nat.min_eq_left hb]
  rfl
theorem body_bad {b : Str} {e : Int} {d : List Nat} (h : unU (.str b) = .inr e) : bodyT (TL.tl b) d = [] := by
  have h' : (match whole (TL.tl b) (rdThing (TL.tl b) (riP (TL.tl b)) 30 0) with | .inl u => (.inl u : U ⊕ Int) | .inr e => .inr (e : Int)) = .inr e := h
  unfold bodyT
  cases hw : whole (TL.tl b) (rdThing (TL.tl b) (riP (TL.tl b)) 30 0) with
  | inl u => rw [hw] at h'; cases h'
  | inr e => rfl
theorem body_good {b : Str} {u : U} {d : List Nat} (h : unU (.str b) = .inl u) : TL.tl b = tx u ∧ pl u ∧ dpt u ≤ 30 ∧ bodyT (TL.tl b) d = if d = TL.numL (ck (tx u)) then [u] else [] := by
  have h' : (match whole (TL.tl b) (rdThing (TL.tl b) (riP (TL.tl b)) 30 0) with | .inl u => (.inl u : U ⊕ Int) | .inr e => .inr (e : Int)) = .inl u := h
  unfold bodyT
  cases hw : whole (TL.tl b) (rdThing (TL.tl b) (riP (TL.tl b)) 30 0) with
  | inr e => rw [hw] at h'; cases h'
  | inl u' =>
    rw [hw] at h'
    cases h'
    obtain ⟨e1, e2, e3⟩ := whole_tx hw
    exact ⟨e1, e2, e3, by rw [e1]⟩
theorem unT_split {l b d : List Nat} (h : l = b ++ 35 :: d) (hd : 35 ∉ d) : unT l = bodyT b d := by
  unfold unT
  rw [lastS_of h hd]
section
variable {P : Program} {w : World} {K : PySem.W.Frag} {mg : Str → Option Value} {base : Heap} {C : Addr}
def spDue : Sp := fun vs H Q _ => ∃ (wl : WA) (z : Str), vs = [.str z] ∧ Well H wl ∧ z.length ≤ 3500 ∧ ∀ (t : Addr) (H' : Hp), Same H H' → Od H' (.ref t) (.tup (unT (TL.tl z))) → Q (.ref t) H'
theorem scDue : FnScope ["text", "at", "told"] ["text"] (defScope lDue) := ⟨rfl, rfl, rfl, by decide +kernel, rfl, by decide +kernel, by decide +kernel⟩
theorem lits : (decide (V.str "thing" = V.str "thing") = true) ∧ (decide (V.str "wrong" = V.str "thing") = false) := by decide +kernel
theorem ok_due {f fU fS fP fC : Addr} {fd dU dS dP dC : FuncData} (F : Fun K "_law_due" "_law_due" lDue f fd) (R : Lr K mg) (O : Bt2 mg) (DU : Df K mg "_law_unpacked" lUnpacked ["text"] fU dU) (DS : Df K mg "_law_sealed" lSealed ["thing"] fS dS) (DP : Df K mg "_law_packed" sPacked ["thing"] fP dP) (DC : Df K mg "_law_check" lCheck ["text"] fC dC) :
    FnOk P w K mg base CX0 64 f fd ["text"] spDue := by
  have GU : FnOk P w K mg base CX0 63 fU dU ["text"] spLU := ok_LU DU.F R
  have B := R.B
  have GS : FnOk P w K mg base CX0 32 fS dS ["thing"] (spLSe 0) := ok_lawSealed DS.F B O DP DC
  refine F.ok scDue (fun vs H Q E h => ?_) (fun cdv A outer s H vs Q E hr h => ?_)
  · obtain ⟨wl, z, rfl, _⟩ := h
    rfl
  obtain ⟨wl, z, rfl, W, hz, hk⟩ := h
  refine ⟨_, pss_cons (ps_if (PW.pt (pw_or (pt_not (pt_val (pe_callB call_isi (by rfl) B.isi boot_isi' (pa_cons (pv 0) (pa_cons (pe_bltn (by rfl) B.str boot_str' (show RelV (.ty "str") (.type "str") from rfl)) pa_nil))))) (pw_or1 (pt_cmpR op_notInS pe_str (pv 0) (by rfl))))) (pss_one (ps_ret (pe_tup pa_nil))) pss_nil)
    (pss_cons (ps_set (i := 1) scDue.nd rfl (.inl rfl) (pe_op op_sub (pe_op op_sub (pe_callB call_len_str (by rfl) B.len PySem.boot_len (pa_cons (pv 0) pa_nil)) pe_int) (pe_m1 PySem.F.slot_str_index PySem.F.type_str_index mt_sindex (pe_revS (pv 0)) pe_str)))
    (pss_cons (ps_set (i := 2) scDue.nd rfl (.inl rfl) (pe_call GU hr (by rfl) DU.g DU.F.kp DU.b .nil pass0 (pa_cons (pe_slice sl_str (pv 0) po_none (po_some (pv 1))) pa_nil)))
    (pss_cons (ps_if (PW.pt (pw_and (pt_cmpR op_eq (pe_ix (show IxR _ (rIxT K) from ix_tup) (pv 2) pe_int (fun _ _ => rfl)) pe_str (nomark _)) (pw_and1 (pt_cmpR op_eq (pe_call GS (hr.mono (by decide)) (by rfl) DS.g DS.F.kp DS.b .nil pass0 (pa_cons (pe_ix (show IxR _ (rIxT K) from ix_tup) (pv 2) pe_int (fun _ _ => rfl)) pa_nil)) (pv 0) (nomark _)))))
      (pss_one (ps_ret (pe_tup (pa_cons (pe_ix (show IxR _ (rIxT K) from ix_tup) (pv 2) pe_int (fun _ _ => rfl)) pa_nil)))) pss_nil)
    (pss_one (ps_ret (pe_tup pa_nil)))))), ?_⟩
  have hz1 : z.length ≤ 100000 := by omega
  have hlz := TL.len_tl z
  refine q_when (b := false || !decide (35 ∈ TL.tl z)) (et_or (a := false) (et_is (et_not (et_B (ev_isiO (ev_var rfl) (.str z) (by decide)))) rfl) fun _ => et_test (ev_op ev_c (ev_var rfl) fun H1 _ Q q => ⟨35, z, congrArg V.str sg35, rfl, q H1 (Ex.refl H1)⟩)) (fun q H1 e1 => ?_) (fun q H1 e1 => ?_)
  · have hn : 35 ∉ TL.tl z := by simpa using q
    have e : unT (TL.tl z) = [] := by
      unfold unT
      rw [lastS_no hn]
    rw [e] at hk
    exact s_retU (eu_tup ea_nil (by show (0 : Nat) ≤ 100000; decide)) fun t H7 ht e7 h7 => hk t H7 (e1.trans e7) (.tup h7 .nil)
  have h35 : 35 ∈ TL.tl z := by simpa using q
  obtain ⟨i, r, ho, hi, m1, m2⟩ := rev_index h35
  have ei : Ev (tM1 (fun x xs H Q => ∃ a b i rest, x = .str a ∧ xs = [.str b] ∧ Builtin.Str.occurrences a b 0 a.length 1 = i :: rest ∧ Q (.int (i : Nat)) H) (tRevS (tVar 0)) (tC (.str "#"))) [some (V.str z), none, none] H1 (.int ((i : Nat) : Int)) := fun H2 e Q q =>
    ev_revS (ev_var rfl) hz1 H2 e _ fun H3 e3 => ⟨⟨_, rfl⟩, _, _, i, r, rfl, rfl, ho, q H3 e3⟩
  refine q_asg (v := .int ((z.length - 1 - i : Nat) : Int)) (ev_is (ev_op (ev_op (ev_lenS (ev_var rfl) hz1) ev_c rv_I0) ei rv_I0) (by congr 1; omega)) fun H2 e2 => ?_
  have hb : TL.tl (cutS z none (some ((z.length - 1 - i : Nat) : Int))) = (TL.tl z).take (z.length - 1 - i) := cut_tlN (by omega)
  have hbl : (cutS z none (some ((z.length - 1 - i : Nat) : Int))).length ≤ z.length := cutS_length z none _
  refine q_asgC (sp := spLU) (dvs := []) (vs := [.str (cutS z none (some ((z.length - 1 - i : Nat) : Int)))]) (ea_cons (ev_slS (ev_var rfl) eo_none (eo_some (ev_var rfl)) hz1) ea_nil) fun H3 e3 => ?_
  generalize cutS z none (some ((z.length - 1 - i : Nat) : Int)) = b at hb hbl
  refine ⟨b, rfl, by omega, fun t H4 s4 o4 => ?_⟩
  show tSeq _ _ _ [some (.str z), some (.int ((z.length - 1 - i : Nat) : Int)), some (.ref t)] H4
  have E4 := ((e1.trans e2).trans e3).trans s4
  have ub := unT_split m1 m2
  rw [← hb] at ub
  rw [ub] at hk
  cases hu : unU (.str b) with
  | inr e =>
    rw [hu] at o4
    rw [body_bad hu] at hk
    obtain ⟨h4, _⟩ : H4 t = some (.tup [.str "wrong", .int e]) ∧ True := by
      cases o4 with
      | tup h l =>
        cases l with
        | cons x1 l =>
          cases l with
          | cons x2 l =>
            cases l
            cases x1
            cases x2
            exact ⟨h, trivial⟩
    refine q_when (b := false && false) (et_and (a := false) (et_is (et_test (ev_op (ev_op (ev_var rfl) ev_c (rv_ixT (st_of h4) rfl)) ev_c (rv_eq rfl))) lits.2) (fun q => by cases q)) (fun q => by cases q) (fun q H5 e5 => ?_)
    exact s_retU (eu_tup ea_nil (by show (0 : Nat) ≤ 100000; decide)) fun t H7 ht e7 h7 => hk t H7 ((E4.trans e5).trans e7) (.tup h7 .nil)
  | inl u =>
    rw [hu] at o4
    obtain ⟨g1, g2, g3, g4⟩ := body_good (d := (TL.tl z).drop (z.length - 1 - i + 1)) hu
    rw [g4] at hk
    obtain ⟨v, h4, o5⟩ : ∃ v, H4 t = some (.tup [.str "thing", v]) ∧ Od H4 v u := by
      cases o4 with
      | tup h l =>
        cases l with
        | cons x1 l =>
          cases l with
          | cons x2 l =>
            cases l
            cases x1
            exact ⟨_, h, x2⟩
    have lt : (tx u).length ≤ 3500 := by rw [← g1, ← TL.len_tl]; omega
    have ll := ln_tx u g2
    refine q_when (b := true && decide ((TL.tl z).drop (z.length - 1 - i + 1) = TL.numL (ck (tx u)))) (et_and (a := true) (et_is (et_test (ev_op (ev_op (ev_var rfl) ev_c (rv_ixT (st_of h4) rfl)) ev_c (rv_eq rfl))) lits.1) (fun _ => et_is (et_test (ev_op (x := .str (stx u)) (ev_call (sp := spLSe 0) (ea_cons (ev_op (ev_var rfl) ev_c (rv_ixT (st_of h4) rfl)) ea_nil) fun H5 e5 Q q E => ⟨v, u, wl.w, rfl, at_od (fun xs hx => ?_) (o5.ex e5) g2, g2, by omega, by omega, g3, q⟩) (ev_var rfl) (rv_eq rfl))) (decide_eq_decide.mpr ⟨fun h => ?_, fun h => ?_⟩))) (fun q H5 e5 => ?_) (fun q H5 e5 => ?_)
    · obtain ⟨cells, pos, rest, mix, cnt, w1, _⟩ := (W.same (E4.trans e5)).ex
      rw [w1] at hx
      cases hx
    · injection h with h
      have h2 : Sl u = TL.tl z := by rw [← h]; rfl
      unfold Sl at h2
      rw [m1, ← hb, g1] at h2
      have h3 := List.append_cancel_left h2
      injection h3 with _ h5
      exact h5.symm
    · congr 1
      refine TL.ext_tl ?_
      show Sl u = TL.tl z
      unfold Sl
      rw [m1, ← hb, g1, h]
    · rw [Bool.true_and] at q
      rw [if_pos (of_decide_eq_true q)] at hk
      exact s_retU (eu_tup (ea_cons (ev_op (ev_var rfl) ev_c (rv_ixT (st_of (e5 _ _ h4)) rfl)) ea_nil) (by show (1 : Nat) ≤ 100000; decide)) fun t H7 ht e7 h7 => hk t H7 ((E4.trans e5).trans e7) (.tup h7 (.cons (o5.ex (e5.trans e7)) .nil))
    · rw [Bool.true_and] at q
      rw [if_neg (of_decide_eq_false q)] at hk
      exact s_retU (eu_tup ea_nil (by show (0 : Nat) ≤ 100000; decide)) fun t H7 ht e7 h7 => hk t H7 ((E4.trans e5).trans e7) (.tup h7 .nil)
end
end Ht
/-! _law_deep -/
namespace Ht
open PySem PySem.Spec PyProof.Rows L2 Hu Evl
abbrev lDeep : Stmt := topS 42
inductive Dq : U → Prop
  | non : Dq .non
  | nil : Dq (.tup [])
  | zero : Dq (.int 0)
  | lst : Dq (.lst [])
  | dct : Dq (.dct [])
  | one {u : U} : Dq u → Dq (.tup [u])
theorem Dq.brd {u : U} (h : Dq u) : brd u := by
  induction h with
  | one _ ih => simp only [Ht.brd, Ht.brdL]; exact ⟨by simp, ih, trivial⟩
  | nil => simp only [Ht.brd, Ht.brdL]; exact ⟨by simp, trivial⟩
  | _ => simp only [Ht.brd]
theorem ix_pick {xs : List V} {d : Int} (h0 : 0 ≤ d) (h1 : d < xs.length) : ∃ x, atI xs d = some x ∧ x ∈ xs := by
  have hd : d.toNat < xs.length := by omega
  have e : d = ((d.toNat : Nat) : Int) := by omega
  refine ⟨xs[d.toNat], ?_, List.getElem_mem hd⟩
  have ha : atI xs ((d.toNat : Nat) : Int) = some xs[d.toNat] := atI_nat (List.getElem?_eq_getElem hd)
  rw [← e] at ha
  exact ha
theorem ex_del {w : Addr} {H H' : Hp} (k : Keep w H H') : Ex (del H w) (del H' w) := fun b o h => by
  by_cases e : b = w
  · rw [e, del_same] at h
    cases h
  · rw [del_ne e] at h ⊢
    exact k b o e h
theorem del_ex (H : Hp) (w : Addr) : Ex (del H w) H := fun b o h => by
  by_cases e : b = w
  · rw [e, del_same] at h
    cases h
  · rw [del_ne e] at h
    exact h
section
variable {P : Program} {w : World} {K : PySem.W.Frag} {mg : Str → Option Value} {base : Heap} {fD : Addr} {dD : FuncData}
def spDeep : Sp := fun vs H Q _ => ∃ wl : WA, vs = [.ref wl.w] ∧ Well H wl ∧ ∀ (v : V) (u : U) (H' : Hp), Drawn wl H H' → Od (del H' wl.w) v u → Dq u → Q v H'
theorem scDeep : FnScope ["hand", "found", "turn"] ["hand"] (defScope lDeep) := ⟨rfl, rfl, rfl, by decide +kernel, rfl, by decide +kernel, by decide +kernel⟩
theorem ok_deep {f : Addr} {fd : FuncData} (F : Fun K "_law_deep" "_law_deep" lDeep f fd) (B : Bt mg) (D : Dd P w K mg base fD dD) : FnOk P w K mg base CX0 2 f fd ["hand"] spDeep := by
  refine F.ok scDeep (fun vs H Q E h => ?_) (fun cdv A outer s H vs Q E hr h => ?_)
  · obtain ⟨wl, rfl, _⟩ := h
    rfl
  obtain ⟨wl, rfl, W, k⟩ := h
  refine ⟨_, Evl.pss_cut (ps_set (i := 1) scDeep.nd rfl (.inl rfl) (pe_ix ix_list (pe_lst (pa_cons pe_non (pa_cons (pe_tup pa_nil) (pa_cons pe_int pa_nil)))) (pe_draw D hr (by decide) (by rfl) (pv 0) pe_int) (fun _ _ => rfl)))
    (pss_cons (ps_for PassesOwn.never rfl (pi_range1 (by rfl) B.range (pa_cons (pe_op op_add pe_int (pe_draw D hr (by decide) (by rfl) (pv 0) pe_int)) pa_nil)) (pg_name (i := 2) scDeep.nd rfl (Or.inl rfl))
      (pss_one (ps_set (i := 1) scDeep.nd rfl (.inl rfl) (pe_ix ix_list (pe_lst (pa_cons (pe_lst (pa_cons (pv 1) pa_nil)) (pa_cons (pe_tup (pa_cons (pv 1) pa_nil)) (pa_cons (pe_disp (pps_cons pe_int (pv 1) pps_nil) rfl rfl (by decide) (by decide)) pa_nil)))) (pe_draw D hr (by decide) (by rfl) (pv 0) pe_int) (fun _ _ => rfl)))))
    (pss_one (ps_ret (pv 1)))), ?_⟩
  refine ⟨fun σ' H' => ∃ (v : V) (u : U), σ' = [some (.ref wl.w), some v, none] ∧ Drawn wl H H' ∧ Od (del H' wl.w) v u ∧ Dq u, ?_, ?_⟩
  · refine ⟨sz_of (show (0 : Nat) ≤ 100000 by decide), fun p hp => ⟨sz_of (show (3 : Nat) ≤ 100000 by decide), fun L hL => ?_⟩⟩
    have np := (W.ne hp).1
    have D1 := (Drawn.refl W).new (o := .tup []) hp
    have nL := (D1.well.ne hL).1
    have D2 := D1.new (o := .lst [V.non, .ref p, .int 0]) hL
    have gp : (upd (upd H p (.tup [])) L (.lst [V.non, .ref p, .int 0])) p = some (.tup []) := (Ex.new hL) _ _ upd_same
    refine ⟨_, rfl, wl, 3, rfl, D2.well, by decide, by decide, fun d H1 d0 d1 D3 => ?_⟩
    obtain ⟨x, hx, hm⟩ := ix_pick (xs := [V.non, .ref p, .int 0]) (d := d) d0 d1
    refine ⟨L, _, d, x, rfl, rfl, SqL.of (D3.keep L _ nL upd_same), hx, ?_⟩
    simp only [List.mem_cons, List.not_mem_nil, or_false] at hm
    rcases hm with rfl | rfl | rfl
    · exact ⟨_, .non, rfl, D2.trans D3, .non, .non⟩
    · refine ⟨_, .tup [], rfl, D2.trans D3, .tup ?_ .nil, .nil⟩
      rw [del_ne np]
      exact D3.keep p _ np gp
    · exact ⟨_, .int 0, rfl, D2.trans D3, .int 0, .zero⟩
  rintro σ' H1 ⟨v, u, rfl, D1, o1, q1⟩
  refine ⟨_, rfl, wl, 8, rfl, D1.well, by decide, by decide, fun m H2 m0 m1 D2 => ⟨14, m, rfl, rfl, 14 + m, rfl, by omega, by omega, ?_⟩⟩
  refine for_range (lo := 0) (n := (14 + m).toNat) (fun i σ' H' => ∃ (v : V) (u : U) (x2 : Option V), σ' = [some (.ref wl.w), some v, x2] ∧ Drawn wl H H' ∧ Od (del H' wl.w) v u ∧ Dq u) ⟨v, u, none, rfl, D1.trans D2, o1.ex (ex_del D2.keep), q1⟩ ?_ ?_
  · rintro i σ' H3 hi ⟨v, u, x2, rfl, D3, o3, q3⟩
    refine ⟨_, rfl, sz_of (show (1 : Nat) ≤ 100000 by decide), fun a ha => ⟨_, rfl, sz_of (show (1 : Nat) ≤ 100000 by decide), fun b hb => fun c hc => ⟨_, rfl, upd_same, [(.inl 0, v)], rfl, (by show (1 : Nat) ≤ 15; decide), sz_of (show (3 : Nat) ≤ 100000 by decide), fun L hL => ?_⟩⟩⟩
    have W3 := D3.well
    have na := (W3.ne ha).1
    have E1 := (Drawn.refl W3).new (o := .lst [v]) ha
    have nb := (E1.well.ne hb).1
    have E2 := E1.new (o := .tup [v]) hb
    have nc := (E2.well.ne hc).1
    have E3 := (E2.new (o := .dK []) hc).put (p := c) (o := .dK (mergeK [] [(.inl 0, v)])) W3 (E2.free W3 hc)
    have nL := (E3.well.ne hL).1
    have E4 := E3.new (o := .lst [V.ref a, .ref b, .ref c]) hL
    refine ⟨_, rfl, wl, 3, rfl, E4.well, by decide, by decide, fun d H4 d0 d1 E5 => ?_⟩
    obtain ⟨x, hx, hm⟩ := ix_pick (xs := [V.ref a, .ref b, .ref c]) (d := d) d0 d1
    have ab : a ≠ b := ne_of_none upd_same hb
    have ac : a ≠ c := ne_of_none ((Ex.new hb) _ _ upd_same) hc
    have bc : b ≠ c := ne_of_none upd_same hc
    have ga : H4 a = some (.lst [v]) := E5.keep a _ na ((Ex.new hL) _ _ (by rw [upd_ne ac, upd_ne ac, upd_ne ab]; exact upd_same))
    have gb : H4 b = some (.tup [v]) := E5.keep b _ nb ((Ex.new hL) _ _ (by rw [upd_ne bc, upd_ne bc]; exact upd_same))
    have gc : H4 c = some (.dK (mergeK [] [(.inl 0, v)])) := E5.keep c _ nc ((Ex.new hL) _ _ upd_same)
    refine ⟨L, _, d, x, rfl, rfl, SqL.of (E5.keep L _ nL upd_same), hx, ?_⟩
    have DD := D3.trans (E4.trans E5)
    simp only [List.mem_cons, List.not_mem_nil, or_false] at hm
    rcases hm with rfl | rfl | rfl
    · exact ⟨_, .lst [], _, rfl, DD, .lst (by rw [del_ne na]; exact ga), .lst⟩
    · exact ⟨_, .tup [u], _, rfl, DD, .tup (by rw [del_ne nb]; exact gb) (.cons (o3.ex (ex_del (E4.trans E5).keep)) .nil), .one q3⟩
    · exact ⟨_, .dct [], _, rfl, DD, .dct (by rw [del_ne nc]; exact gc), .dct⟩
  · rintro σ' H3 ⟨v, u, x2, rfl, D3, o3, q3⟩
    exact ⟨_, rfl, k v u H3 D3 o3 q3⟩
end
end Ht
/-! k31: _law_is_none -/
namespace Ht
open PySem PySem.Spec PyProof.Rows L2 Hu Evl
section
variable {P : Program} {w : World} {K : PySem.W.Frag} {mg : Str → Option Value} {base : Heap}
/-! ### _law_is_none -/
theorem call_isE2 {X : Cx} {a D : Addr} {oe : Obj} {cls : Value} {d : Option Addr} {pn : List (Addr × Obj)} (XC : ExcC X.K D) (hz : Zc cls d oe) (hf : ∃ vs, oe.data = .fields vs) : CallR (X.suite a ((a, oe) :: pn)) (.builtin "isinstance") (fun xs H Q => cls = .ref D ∧ d = none ∧ rIsE X.K D a xs H Q) := by
  intro pins s σ H xs us Q I r h
  obtain ⟨e1, e2, h⟩ := h
  subst e1 e2
  exact call_isE XC hz hf pins s σ H xs us Q I r h
abbrev sIsNone : Stmt := topS 44
def spIsNone : Sp := fun vs H Q _ => ∃ (v : V) (u : U), vs = [v] ∧ Od H v u ∧ brd u ∧ linU u = false ∧ ∀ H', Same H H' → Q (.bl true) H'
theorem scIsNone : FnScope ["thing", "e", "told"] ["thing"] (defScope sIsNone) := ⟨rfl, rfl, rfl, by decide +kernel, rfl, by decide +kernel, by decide +kernel⟩
theorem ok_isNone {f f0 f1 f2 CN CH : Addr} {fd d0 d1 d2 : FuncData} (F : Fun K "_law_is_none" "_law_is_none" sIsNone f fd) (B : Bt mg) (DP : Df K mg "check" sCheck ["text"] f0 d0) (D1 : Df K mg "is_lined" sIsLined ["thing"] f1 d1) (D2 : Df K mg "is_signs" sIsSigns ["thing"] f2 d2)
    (EC : Ec K mg "NoText" CN) (XC : ExcC K CN) (gH : mg "HomeError" = some (.ref CH)) (kH : PySem.W.kitOne K (.ref CN) (.ref CH) = some true) : FnOk P w K mg base CX0 4 f fd ["thing"] spIsNone := by
  have GP : FnOk P w K mg base (L2.CX P w) 3 f0 d0 ["text"] (spCkX CN) := ok_checkX DP.F B D1 D2 EC
  refine F.ok scIsNone (fun vs H Q E h => ?_) (fun cdv A outer s H vs Q E hr h => ?_)
  · obtain ⟨v, u, rfl, _⟩ := h
    rfl
  obtain ⟨v, u, rfl, hat, bu, hth, k⟩ := h
  refine ⟨_, pss_cons (ps_set (i := 2) scIsNone.nd rfl (.inl rfl) pe_bl)
    (pss_cons (ps_try_as (i := 1) (tb := fun W => tDrop (tCallS (spCkX CN) (WE W) (tCons (tVar 0) tNil))) (Wout := fun _ _ _ _ => False) rfl rfl scIsNone.nd rfl rfl ⟨rfl, by decide, .inl EC.g⟩ takes0
      (fun W pn xe tk _ => pss_one (ps_expr (pe_callS GP hr rfl DP.g DP.F.kp DP.b (fun σ => passAt tk σ) (pa_cons (pv 0) pa_nil))))
      (fun a oe cls d pn hz hf => pss_one (ps_set (i := 2) scIsNone.nd rfl (.inl rfl) (pe_callB (call_isE2 XC hz hf) (by rfl) B.isi boot_isi' (pa_cons (pv 1) (pa_cons (pe_glob (v := .ref CH) rfl gH rfl) pa_nil))))))
    (pss_one (ps_ret (pv 2)))), ?_⟩
  refine ⟨_, rfl, v, u, rfl, hat, bu, hth, fun H1 s1 => ?_⟩
  refine ⟨true, EC.e, fun _ a ha => ?_, fun q => Bool.noConfusion q⟩
  refine ⟨_, rfl, rfl, rfl, .ref CH, .ref CH, true, rfl, fun u hu => hu, kH, ?_⟩
  exact ⟨_, rfl, k H1 s1⟩
end
end Ht
/-! things compared; the law's steps -/
namespace Ht
open PySem PySem.Spec PyProof.Rows L2 Hu Evl
mutual
def pyd : U → PyData
  | .bl b => .bool b
  | .int i => .int i
  | .str z => .str z
  | .tup us => .tuple (pyds us)
  | _ => .none
def pyds : List U → List PyData
  | [] => []
  | u :: us => pyd u :: pyds us
end
mutual
theorem od_dp {K : PySem.W.Frag} {H : Hp} : ∀ {u : U} {v : V}, Od H v u → sm u → Dp K H v (pyd u)
  | _, _, .non, _ => .non
  | _, _, .bl b, _ => .bl b
  | _, _, .int i, _ => .int i
  | _, _, .str z, _ => .str z
  | _, _, .tup h l, s => .tup (st_of h) (odl_dp l (by simpa only [sm] using s))
  | _, _, .lst h, s => by simp only [sm] at s
  | _, _, .dct h, s => by simp only [sm] at s
theorem odl_dp {K : PySem.W.Frag} {H : Hp} : ∀ {us : List U} {vs : List V}, OdL H vs us → smL us → DpAll K H vs (pyds us)
  | _, _, .nil, _ => .nil
  | _, _, .cons x l, s => .cons (od_dp x s.1) (odl_dp l s.2)
end
mutual
theorem pyd_can : ∀ u : U, sm u → (pyd u).canLay0 = true ∧ (pyd u).depth = dpt u
  | .non, _ => by simp [pyd, PyData.canLay0, PyData.depth, dpt]
  | .bl _, h => by simp only [sm] at h
  | .int _, _ => by simp [pyd, PyData.canLay0, PyData.depth, dpt]
  | .str z, h => by
    have hz : (TL.tl z).all okW = true := by simpa only [sm] using h
    simp only [pyd, PyData.canLay0, PyData.depth, dpt, and_true]
    unfold PyData.strOk
    rw [← Array.all_toList, List.all_eq_true]
    intro c hc
    have := List.all_eq_true.mp hz c hc
    unfold okW at this
    have h2 := of_decide_eq_true (Bool.and_eq_true_iff.mp this).2
    exact decide_eq_true (by omega)
  | .tup us, h => by
    obtain ⟨a, b⟩ := pyds_can us (by simpa only [sm] using h)
    simp only [pyd, PyData.canLay0, PyData.depth, dpt, a, b, and_self]
  | .lst _, h => by simp only [sm] at h
  | .dct _, h => by simp only [sm] at h
  | .exc, h => by simp only [sm] at h
theorem pyds_can : ∀ us : List U, smL us → PyData.canLayAll0 (pyds us) = true ∧ PyData.depthAll (pyds us) = dptL us
  | [], _ => by simp [pyds, PyData.canLayAll0, PyData.depthAll, dptL]
  | u :: us, h => by
    obtain ⟨a, b⟩ := pyd_can u h.1
    obtain ⟨c, d⟩ := pyds_can us h.2
    simp only [pyds, PyData.canLayAll0, PyData.depthAll, dptL, a, b, c, d, Bool.and_self, and_self]
end
theorem pyd_shaped {u : U} (h : sm u) (hd : dpt u ≤ 40) : SeqAt.shaped (pyd u) = true := by
  obtain ⟨a, b⟩ := pyd_can u h
  unfold SeqAt.shaped
  rw [a, b, decide_eq_true (by omega)]
  rfl
mutual
theorem pyd_refl : ∀ u : U, PyData.eqv (pyd u) (pyd u) = true
  | .non => by simp [pyd, PyData.eqv]
  | .bl _ => by simp [pyd, PyData.eqv]
  | .int _ => by simp [pyd, PyData.eqv]
  | .str z => by simp [pyd, PyData.eqv]
  | .tup us => by simp only [pyd, PyData.eqv]; exact pyds_refl us
  | .lst _ => by simp [pyd, PyData.eqv]
  | .dct _ => by simp [pyd, PyData.eqv]
  | .exc => by simp [pyd, PyData.eqv]
theorem pyds_refl : ∀ us : List U, PyData.eqvAll (pyds us) (pyds us) = true
  | [] => by simp [pyds, PyData.eqvAll]
  | u :: us => by simp only [pyds, PyData.eqvAll, pyd_refl u, pyds_refl us, Bool.and_self]
end
theorem unU_sm {z : Str} {u : U} (h : unU (.str z) = .inl u) : sm u ∧ dpt u ≤ 30 := by
  have h' : (match whole (TL.tl z) (rdThing (TL.tl z) (riP (TL.tl z)) 30 0) with | .inl u => (.inl u : U ⊕ Int) | .inr e => .inr (e : Int)) = .inl u := h
  cases hr : rdThing (TL.tl z) (riP (TL.tl z)) 30 0 with
  | bad e =>
    rw [hr] at h'
    cases h'
  | ok u' q =>
    rw [hr] at h'
    unfold whole at h'
    dsimp only at h'
    by_cases hq : q = (TL.tl z).length
    · rw [if_pos hq] at h'
      cases h'
      exact ⟨(rdThing_ok (fun p u q h => riP_ok h) 30 0 u q hr).2.2, rdThing_dpt (fun p u q h => riP_dpt h) 30 0 u q hr⟩
    · rw [if_neg hq] at h'
      cases h'
theorem toU_sm (u0 : U) : sm (toU (unU u0)) ∧ dpt (toU (unU u0)) ≤ 40 := by
  cases h : unU u0 with
  | inr e =>
    simp only [toU, sm, smL, dpt, dptL]
    exact ⟨⟨by decide +kernel, trivial, trivial⟩, by omega⟩
  | inl u =>
    have hu : sm u ∧ dpt u ≤ 30 := by
      cases u0 with
      | str z => exact unU_sm h
      | _ => cases h
    simp only [toU, sm, smL, dpt, dptL]
    exact ⟨⟨by decide +kernel, hu.1, trivial⟩, by omega⟩
/-- evaluates to such a thing -/
def EvD (te : TE) (σ : L2.St) (H : Hp) (u : U) : Prop := ∀ H1, Ex H H1 → ∀ Q : VK, (∀ v H2, Ex H1 H2 → Od H2 v u → Q v H2) → te σ H1 Q
section
variable {σ : L2.St} {H : Hp} {te t1 t2 : TE} {ta : TA} {K : PySem.W.Frag} {sp : Sp} {E : XK} {vs : List V} {u u1 u2 : U}
theorem ed_call (h : EvA ta σ H vs) (k : ∀ H1, Ex H H1 → ∀ Q : VK, (∀ v H2, Ex H1 H2 → Od H2 v u → Q v H2) → sp (vs ++ []) H1 Q E) : EvD (tCall sp [] E ta) σ H u := fun H1 e Q q =>
  h H1 e _ fun H2 e2 => k H2 (e.trans e2) Q fun v H3 e3 o => q v H3 (e2.trans e3) o
theorem ed_pair {a : Str} {v : V} (h1 : Ev t1 σ H (.str a)) (h2 : Ev t2 σ H v) (o : Od H v u) : EvD (tTup (tCons t1 (tCons t2 tNil))) σ H (.tup [.str a, u]) := fun H1 e Q q =>
  eu_tup (ea_cons h1 (ea_cons h2 ea_nil)) (by show (2 : Nat) ≤ 100000; decide) H1 e _ fun p H2 _ e2 hp => q _ H2 e2 (.tup hp (.cons (.str a) (.cons (o.ex (e.trans e2)) .nil)))
theorem et_neD (h1 : EvD t1 σ H u1) (h2 : EvD t2 σ H u2) (s1 : sm u1) (s2 : sm u2) (d1 : dpt u1 ≤ 40) (d2 : dpt u2 ≤ 40) : EvT (tTest (tOp (rNeD K) t1 t2)) σ H (!PyData.eqv (pyd u1) (pyd u2)) :=
  et_test fun H1 e Q q => h1 H1 e _ fun v1 H2 e2 o1 => h2 H2 (e.trans e2) _ fun v2 H3 e3 o2 => ⟨pyd u1, pyd u2, od_dp (o1.ex e3) s1, od_dp o2 s2, pyd_shaped s1 d1, pyd_shaped s2 d2, q H3 (e2.trans e3)⟩
theorem ev_eqD (h1 : EvD t1 σ H u1) (h2 : EvD t2 σ H u2) (s1 : sm u1) (s2 : sm u2) (d1 : dpt u1 ≤ 40) (d2 : dpt u2 ≤ 40) : Ev (tOp (rEqD K) t1 t2) σ H (.bl (PyData.eqv (pyd u1) (pyd u2))) :=
  fun H1 e Q q => h1 H1 e _ fun v1 H2 e2 o1 => h2 H2 (e.trans e2) _ fun v2 H3 e3 o2 => ⟨pyd u1, pyd u2, od_dp (o1.ex e3) s1, od_dp o2 s2, pyd_shaped s1 d1, pyd_shaped s2 d2, q H3 (e2.trans e3)⟩
theorem et_same (h : EvT (tTest (tOp (rNeD K) t1 t2)) σ H (!PyData.eqv (pyd u) (pyd u))) : EvT (tTest (tOp (rNeD K) t1 t2)) σ H false := et_is h (by rw [pyd_refl]; rfl)
end
end Ht
/-! k31: rules for the law's body -/
namespace Ht
open PySem PySem.Spec PyProof.Rows L2 Hu Evl
section
variable {X : Cx}
abbrev rMulS : R2 := fun x y H Q => ∃ (z : Str) (n : Int), x = .str z ∧ y = .int n ∧ MulOk z n ∧ Q (.str (Txt.mul z n)) H
theorem op_mulS : OpR X (binaryOp .Mult) rMulS := by
  intro pins s σ H x y v u Q I rx ry h
  obtain ⟨z, n, rfl, rfl, hok, q⟩ := h
  obtain ⟨t, rfl⟩ := rx
  obtain ⟨t', rfl⟩ := ry
  exact SB.mul hok fun t2 k => ⟨.str (Txt.mul z n), H, I.tok _, ⟨_, rfl⟩, q⟩
end
theorem ev_mulS {σ : L2.St} {H : Hp} {ta tb : TE} {z : Str} {n : Int} (ha : Ev ta σ H (.str z)) (hb : Ev tb σ H (.int n)) (hok : MulOk z n) : Ev (tOp rMulS ta tb) σ H (.str (Txt.mul z n)) := ev_op ha hb fun H1 _ Q q => ⟨z, n, rfl, rfl, hok, q H1 (Ex.refl H1)⟩
/-- evaluates to such a thing, that doesn't stand in w -/
def EvW (w : Addr) (te : TE) (σ : L2.St) (H : Hp) (u : U) : Prop := ∀ H1, Ex H H1 → ∀ Q : VK, (∀ v H2, Ex H1 H2 → Od (del H2 w) v u → Q v H2) → te σ H1 Q
def EvWs (w : Addr) (ta : TA) (σ : L2.St) (H : Hp) (us : List U) : Prop := ∀ H1, Ex H H1 → ∀ Q : List V → Hp → Prop, (∀ vs H2, Ex H1 H2 → OdL (del H2 w) vs us → Q vs H2) → ta σ H1 Q
theorem ex_del2 {w : Addr} {H H' : Hp} (e : Ex H H') : Ex (del H w) (del H' w) := ex_del (.of_same e)
section
variable {σ : L2.St} {H : Hp} {te : TE} {ta : TA} {c : Addr} {u : U} {us : List U} {o : HO}
theorem ew_non : EvW c (tC .non) σ H .non := fun H1 _ _ q => q _ H1 (Ex.refl H1) .non
theorem ew_bl {b : Bool} : EvW c (tC (.bl b)) σ H (.bl b) := fun H1 _ _ q => q _ H1 (Ex.refl H1) (.bl b)
theorem ew_int {i : Int} : EvW c (tC (.int i)) σ H (.int i) := fun H1 _ _ q => q _ H1 (Ex.refl H1) (.int i)
theorem ew_str {z : Str} : EvW c (tC (.str z)) σ H (.str z) := fun H1 _ _ q => q _ H1 (Ex.refl H1) (.str z)
theorem ews_nil : EvWs c tNil σ H [] := fun H1 _ _ q => q _ H1 (Ex.refl H1) .nil
theorem ews_cons (h : EvW c te σ H u) (hr : EvWs c ta σ H us) : EvWs c (tCons te ta) σ H (u :: us) := fun H1 e Q q =>
  h H1 e _ fun v H2 e2 o2 => hr H2 (e.trans e2) _ fun vs H3 e3 o3 => q _ H3 (e2.trans e3) (.cons (o2.ex (ex_del2 e3)) o3)
theorem ew_tup (hc : H c = some o) (h : EvWs c ta σ H us) (hz : us.length ≤ 1000) : EvW c (tTup ta) σ H (.tup us) := fun H1 e Q q =>
  h H1 e _ fun vs H2 e2 o2 => ⟨sz_of (by have := OdL.length o2; omega), fun p hp => q _ _ (e2.trans (Ex.new hp)) (by
    have n : p ≠ c := (ne_of_none ((e.trans e2) _ _ hc) hp).symm
    exact .tup (by rw [del_ne n]; exact upd_same) (o2.ex (ex_del2 (Ex.new hp))))⟩
theorem ew_lst (hc : H c = some o) (h : EvWs c ta σ H us) (hz : us.length ≤ 1000) : EvW c (tLst ta) σ H (.lst []) := fun H1 e Q q =>
  h H1 e _ fun vs H2 e2 o2 => ⟨sz_of (by have := OdL.length o2; omega), fun p hp => q _ _ (e2.trans (Ex.new hp)) (by
    have n : p ≠ c := (ne_of_none ((e.trans e2) _ _ hc) hp).symm
    exact .lst (xs := vs) (by rw [del_ne n]; exact upd_same))⟩
theorem ew_dnew (hc : H c = some o) : EvW c tDNewK σ H (.dct []) := fun H1 e Q q => fun p hp => q _ _ (Ex.new hp) (by
  have n : p ≠ c := (ne_of_none (e _ _ hc) hp).symm
  exact .dct (kvs := []) (by rw [del_ne n]; exact upd_same))
theorem ew_disp (hc : H c = some o) {i j : Int} : EvW c (tDisp [(tC (.int i), tC (.int j))]) σ H (.dct []) := fun H1 e Q q => fun p hp => ⟨upd_same, [(.inl i, .int j)], rfl, (by show (1 : Nat) ≤ 15; decide), q _ _ (Ex.mut (Ex.new hp) hp) (by
  have n : p ≠ c := (ne_of_none (e _ _ hc) hp).symm
  exact .dct (by rw [del_ne n]; exact upd_same))⟩
end

def EwP (c : Addr) (σ : L2.St) (H : Hp) (f : TA → TA) (us : List U) : Prop := ∀ (ta : TA) (H1 : Hp), Ex H H1 → ∀ Q : List V → Hp → Prop, (∀ vs G, Ex H1 G → OdL (del G c) vs us → ta σ G fun ws G' => Q (vs ++ ws) G') → f ta σ H1 Q
section
variable {σ : L2.St} {H : Hp} {te last : TE} {c : Addr} {u : U} {us : List U} {f : TA → TA} {D : Ends} {i : Nat}
theorem ewp_nil : EwP c σ H (fun ta => ta) [] := fun ta H1 _ Q q => q [] H1 (Ex.refl H1) .nil
theorem ewp_cons (h : EvW c te σ H u) (p : EwP c σ H f us) : EwP c σ H (fun ta => tCons te (f ta)) (u :: us) := fun ta H1 e Q q =>
  h H1 e _ fun v H2 e2 o2 => p ta H2 (e.trans e2) _ fun vs G e3 o3 => q (v :: vs) G (e2.trans e3) (.cons (o2.ex (ex_del2 e3)) o3)
theorem asg_lstP (p : EwP c σ H f us) (k : ∀ vs G, Ex H G → OdL (del G c) vs us → last σ G fun v G' => (vs ++ [v]).length ≤ sizeLine ∧ ∀ p, G' p = none → D.nx (σ.set i (some (.ref p))) (upd G' p (.lst (vs ++ [v])))) : tAsg (tLst (f (tCons last tNil))) (gName i) D σ H :=
  p (tCons last tNil) H (Ex.refl H) _ fun vs G e o => k vs G e o
end
theorem odl_mem {H : Hp} : ∀ {us : List U} {vs : List V}, OdL H vs us → ∀ x ∈ vs, ∃ u, u ∈ us ∧ Od H x u := by
  intro us
  induction us with
  | nil =>
    intro vs h x hx
    cases h
    cases hx
  | cons u us ih =>
    intro vs h x hx
    cases h with
    | cons y l =>
      rcases List.mem_cons.mp hx with rfl | hx
      · exact ⟨u, List.mem_cons_self .., y⟩
      · obtain ⟨u', h1, h2⟩ := ih l x hx
        exact ⟨u', List.mem_cons_of_mem _ h1, h2⟩
section
variable {σ : L2.St} {H : Hp} {ta tb te : TE} {r : R2} {g : TG} {D : Ends} {xs : List V} {c : Addr} {u : U} {sp1 sp2 : Sp} {E1 E2 : XK} {K : PySem.W.Frag}
theorem asg_opL (h : EvL ta σ H xs) (k : ∀ p H1, H p = none → Ex H H1 → H1 p = some (.lst xs) → tb σ H1 fun y H2 => r (.ref p) y H2 fun z H3 => g z σ H3 D.nx) : tAsg (tOp r ta tb) g D σ H := h H (Ex.refl H) _ fun p H1 hp e h1 => k p H1 hp e h1
/-- the law's last line -/
theorem ret_last {x : V} {us : List U} {ts : TA} (hx : σ[1]? = some (some x)) (h : EvWs c ts σ H us) (k : ∀ xs H1, Ex H H1 → OdL (del H1 c) xs us → xs.length ≤ sizeLine ∧ ∀ p, H1 p = none → sp1 [x, .ref p] (upd H1 p (.lst xs)) (fun v H2 => sp2 [v] H2 (fun t H3 => tb σ H3 fun y H4 => r t y H4 D.rt) E2) E1) :
    tRet (tOp r (tCall sp2 [] E2 (tCons (tCall sp1 [] E1 (tCons (tVar 1) (tCons (tLst ts) tNil))) tNil)) tb) D σ H :=
  ⟨x, hx, h H (Ex.refl H) _ fun xs H1 e o => k xs H1 e o⟩
end
section
variable {σ : L2.St} {H : Hp} {te : TE} {ta : TA} {K : PySem.W.Frag} {E : XK}
theorem ed_us {z : Str} (h : Ev te σ H (.str z)) (hz : z.length ≤ 20000) : EvD (tCall spUS [] E (tCons te tNil)) σ H (.tup (unT (TL.tl z))) :=
  ed_call (sp := spUS) (vs := [.str z]) (ea_cons h ea_nil) fun H1 e Q q => ⟨.str z, .str z, rfl, .str z, by simp only [brd]; exact hz, fun t H' s o => q (.ref t) H' s o⟩
theorem ed_due {z : Str} {wl : WA} (h : Ev te σ H (.str z)) (W : Well H wl) (hz : z.length ≤ 3500) : EvD (tCall spDue [] E (tCons te tNil)) σ H (.tup (unT (TL.tl z))) :=
  ed_call (sp := spDue) (vs := [.str z]) (ea_cons h ea_nil) fun H1 e Q q => ⟨wl, z, rfl, W.same e, hz, fun t H' s o => q (.ref t) H' s o⟩
theorem ed_one {v : V} {u : U} (h : Ev te σ H v) (o : Od H v u) : EvD (tTup (tCons te tNil)) σ H (.tup [u]) := fun H1 e Q q =>
  eu_tup (ea_cons h ea_nil) (by show (1 : Nat) ≤ 100000; decide) H1 e _ fun p H2 _ e2 hp => q _ H2 e2 (.tup hp (.cons (o.ex (e.trans e2)) .nil))
theorem ed_nil : EvD (tTup tNil) σ H (.tup []) := fun H1 e Q q =>
  eu_tup ea_nil (by show (0 : Nat) ≤ 100000; decide) H1 e _ fun p H2 _ e2 hp => q _ H2 e2 (.tup hp .nil)
theorem sm_T (l : List Nat) : sm (.tup (unT l)) ∧ dpt (.tup (unT l)) ≤ 40 := by
  obtain ⟨a, b⟩ := unT_sm l
  refine ⟨by simp only [sm]; exact a, ?_⟩
  simp only [dpt]
  omega
theorem sm_nil : sm (.tup []) ∧ dpt (.tup []) ≤ 40 := ⟨by simp only [sm, smL], by simp [dpt, dptL]⟩
/-- unsealed(..) != () is False -/
theorem et_us0 {z : Str} (h : Ev te σ H (.str z)) (hz : z.length ≤ 20000) (h0 : unT (TL.tl z) = []) : EvT (tTest (tOp (rNeD K) (tCall spUS [] E (tCons te tNil)) (tTup tNil))) σ H false := by
  have e1 := ed_us (E := E) h hz
  rw [h0] at e1
  exact et_same (et_neD e1 ed_nil sm_nil.1 sm_nil.1 sm_nil.2 sm_nil.2)
end
theorem great_tl (n : Int) : TL.tl (Txt.mul "~" n) = List.replicate n.toNat 126 := by
  rw [s126]
  exact mul_one_list 126 n
theorem great_ln (n : Int) : ln' (TL.tl (Txt.mul "~" n)) = true := by
  rw [great_tl]
  refine ln_pr fun c hc => ?_
  rw [(List.mem_replicate.mp hc).2]
  omega
theorem great_len {n : Int} (h : n ≤ 5000) : (Txt.mul "~" n).length ≤ 20000 := by
  rw [TL.len_tl, great_tl, List.length_replicate]
  omega
theorem great_ok {n : Int} (h0 : 2000 ≤ n) (h : n ≤ 5000) : MulOk "~" n := mulOk_of 1 5000 (by decide +kernel) (by omega) (by omega) (by decide) (by decide)
/-! ### slices of a sealed text -/
theorem cut_none {z : Str} {i : Nat} : TL.tl (cutS z (some (i : Int)) none) = (TL.tl z).drop i := by
  have hl := TL.len_tl z
  show ((z.cps.toList.drop (HT.sIx z.length 0 (some (i : Int)))).take (HT.sIx z.length z.length none - HT.sIx z.length 0 (some (i : Int)))) = _
  rw [HT.sIx_nat]
  show ((TL.tl z).drop (min i z.length)).take (z.length - min i z.length) = _
  by_cases h : i ≤ z.length
  · rw [Nat.min_eq_left h, List.take_of_length_le (by rw [List.length_drop]; omega)]
  · rw [Nat.min_eq_right (by omega), List.drop_eq_nil_of_le (by omega), List.drop_eq_nil_of_le (by omega), List.take_nil]
theorem cut_last {z : Str} (h : 1 ≤ z.length) : TL.tl (cutS z none (some (-1))) = (TL.tl z).take (z.length - 1) := by
  show ((z.cps.toList.drop (HT.sIx z.length 0 none)).take (HT.sIx z.length z.length (some (-1)) - HT.sIx z.length 0 none)) = _
  have e : HT.sIx z.length z.length (some (-1)) = z.length - 1 := by
    show (if (-1 : Int) < 0 then ((-1 : Int) + (z.length : Int)).toNat else min (-1 : Int).toNat z.length) = _
    rw [if_pos (by decide)]
    omega
  rw [e]
  rfl
end Ht
/-! k31: the law -/
namespace Ht
open PySem PySem.Spec PyProof.Rows L2 Hu Evl
abbrev lLaw : Stmt := topS 45
/-- all that the law's run reaches -/
structure La (K : PySem.W.Frag) (mg : Str → Option Value) : Prop where
  B : Bt mg
  O : Bt2 mg
  N : Cn mg
  P : ∃ t, mg "CHECK_PRIME" = some (.int 99991 t)
  EB : ∃ CB fI dI, Bx K mg CB fI dI
  EN : ∃ CN CH, Ec K mg "NoText" CN ∧ ExcC K CN ∧ mg "HomeError" = some (.ref CH) ∧ PySem.W.kitOne K (.ref CN) (.ref CH) = some true
  dis_integer : ∃ (f : Addr) (d : FuncData), Df K mg "is_integer" sIsInt ["thing"] f d
  dis_signs : ∃ (f : Addr) (d : FuncData), Df K mg "is_signs" sIsSigns ["thing"] f d
  dis_lined : ∃ (f : Addr) (d : FuncData), Df K mg "is_lined" sIsLined ["thing"] f d
  dis_thing : ∃ (f : Addr) (d : FuncData), Df K mg "is_thing" sIsThing ["thing", "deepest"] f d
  dpacked : ∃ (f : Addr) (d : FuncData), Df K mg "packed" sPackedP ["thing"] f d
  d_text_of : ∃ (f : Addr) (d : FuncData), Df K mg "_text_of" sTextOf ["thing"] f d
  dunpacked : ∃ (f : Addr) (d : FuncData), Df K mg "unpacked" sUnpacked ["text"] f d
  d_read_thing : ∃ (f : Addr) (d : FuncData), Df K mg "_read_thing" sReadThing ["text", "place", "depth"] f d
  d_read_tuple : ∃ (f : Addr) (d : FuncData), Df K mg "_read_tuple" sReadTuple ["text", "place", "depth"] f d
  d_read_string : ∃ (f : Addr) (d : FuncData), Df K mg "_read_string" sReadStr ["text", "place"] f d
  d_read_integer : ∃ (f : Addr) (d : FuncData), Df K mg "_read_integer" sReadInt ["text", "place"] f d
  dcheck : ∃ (f : Addr) (d : FuncData), Df K mg "check" sCheck ["text"] f d
  dcheck_behind : ∃ (f : Addr) (d : FuncData), Df K mg "check_behind" sCheckB ["number", "many", "text"] f d
  dsealed : ∃ (f : Addr) (d : FuncData), Df K mg "sealed" sSealed ["thing"] f d
  dunsealed : ∃ (f : Addr) (d : FuncData), Df K mg "unsealed" sUnsealed ["text"] f d
  d_law_hand : ∃ (f : Addr) (d : FuncData), Df K mg "_law_hand" sHand ["script"] f d
  d_law_draw : ∃ (f : Addr) (d : FuncData), Df K mg "_law_draw" sDraw ["hand", "many"] f d
  d_law_any : ∃ (f : Addr) (d : FuncData), Df K mg "_law_any" sAny ["hand", "things"] f d
  d_law_word : ∃ (f : Addr) (d : FuncData), Df K mg "_law_word" sWord ["hand"] f d
  d_law_thing : ∃ (f : Addr) (d : FuncData), Df K mg "_law_thing" sThing ["hand", "deep"] f d
  d_law_packed : ∃ (f : Addr) (d : FuncData), Df K mg "_law_packed" sPacked ["thing"] f d
  d_law_check : ∃ (f : Addr) (d : FuncData), Df K mg "_law_check" lCheck ["text"] f d
  d_law_sealed : ∃ (f : Addr) (d : FuncData), Df K mg "_law_sealed" lSealed ["thing"] f d
  d_law_first_wrong : ∃ (f : Addr) (d : FuncData), Df K mg "_law_first_wrong" lFirst ["text", "at", "deep"] f d
  d_law_read_string : ∃ (f : Addr) (d : FuncData), Df K mg "_law_read_string" lReadStr ["text", "at"] f d
  d_law_read_integer : ∃ (f : Addr) (d : FuncData), Df K mg "_law_read_integer" lReadInt ["text", "at"] f d
  d_law_read_tuple : ∃ (f : Addr) (d : FuncData), Df K mg "_law_read_tuple" lReadTup ["text", "at", "deep"] f d
  d_law_unpacked : ∃ (f : Addr) (d : FuncData), Df K mg "_law_unpacked" lUnpacked ["text"] f d
  d_law_changed : ∃ (f : Addr) (d : FuncData), Df K mg "_law_changed" lChanged ["hand", "text"] f d
  d_law_deep : ∃ (f : Addr) (d : FuncData), Df K mg "_law_deep" lDeep ["hand"] f d
  d_law_due : ∃ (f : Addr) (d : FuncData), Df K mg "_law_due" lDue ["text"] f d
  d_law_is_none : ∃ (f : Addr) (d : FuncData), Df K mg "_law_is_none" sIsNone ["thing"] f d
def txtZ : Str := "ab ~!\n019'"
def sgnZ : Str := "ab'~(),.#-0129 "
theorem txtZ_ok : ln' (TL.tl txtZ) = true := by decide +kernel
section
variable {σ : L2.St} {H : Hp} {K : PySem.W.Frag} {wl : WA} {us : List U} {f : TA → TA} {E1 E2 E3 : XK}
/-- one of a list whose last item is drawn -/
theorem any_read {Q : VK} (hx : σ[1]? = some (some (.ref wl.w))) (W : Well H wl) (p : EwP wl.w σ H f us) (hl : us.length ≤ 20) (k : ∀ (x : V) (u : U) (H' : Hp), (u ∈ us ∨ Dq u) → Od H' x u → Well H' wl → Q x H') :
    tCall spAnyL [] E1 (tCons (tVar 1) (tCons (tLst (f (tCons (tCall spDeep [] E2 (tCons (tVar 1) tNil)) tNil))) tNil)) σ H Q :=
  ⟨_, hx, p (tCons (tCall spDeep [] E2 (tCons (tVar 1) tNil)) tNil) H (Ex.refl H) _ fun vs G eG oG => ⟨_, hx, wl, rfl, W.same eG, fun v u H' D' od dq => ⟨sz_of (by rw [List.length_append, OdL.length oG, List.length_singleton]; omega), fun L hL => by
    have nL := (D'.well.ne hL).1
    have lv := OdL.length oG
    have eL : Ex (del H' wl.w) (del (upd H' L (.lst (vs ++ [v]))) wl.w) := ex_del2 (Ex.new hL)
    refine ⟨wl, L, vs ++ [v], rfl, D'.well.same (same_upd hL), upd_same, nL, by rw [List.length_append, List.length_singleton]; omega, by rw [List.length_append, List.length_singleton]; omega, fun x H9 hx9 D9 => ?_⟩
    rcases List.mem_append.mp hx9 with hx9 | hx9
    · obtain ⟨u', hu', o'⟩ := odl_mem oG x hx9
      exact k x u' H9 (.inl hu') (((o'.ex ((ex_del D'.keep).trans eL)).ex (ex_del D9.keep)).ex (del_ex _ _)) D9.well
    · obtain rfl := List.mem_singleton.mp hx9
      exact k x u H9 (.inr dq) (((od.ex eL).ex (ex_del D9.keep)).ex (del_ex _ _)) D9.well⟩⟩⟩
theorem us_any {Q : Bool → Hp → Prop} (hx : σ[1]? = some (some (.ref wl.w))) (W : Well H wl) (p : EwP wl.w σ H f us) (hl : us.length ≤ 20) (hn : ∀ u, u ∈ us ∨ Dq u → unV u = [] ∧ brd u) (k : ∀ H', Well H' wl → Q false H') :
    tTest (tOp (rNeD K) (tCall spUS [] E3 (tCons (tCall spAnyL [] E1 (tCons (tVar 1) (tCons (tLst (f (tCons (tCall spDeep [] E2 (tCons (tVar 1) tNil)) tNil))) tNil))) tNil)) (tTup tNil)) σ H Q := by
  refine any_read hx W p hl fun x u H1 hu ou W1 => ?_
  obtain ⟨h0, hb⟩ := hn u hu
  refine ⟨x, u, rfl, ou, hb, fun t H2 s2 o2 => ?_⟩
  rw [h0] at o2
  refine eu_tup ea_nil (by show (0 : Nat) ≤ 100000; decide) H2 (Ex.refl H2) _ fun q H3 hq e3 h3 => ?_
  refine ⟨pyd (.tup []), pyd (.tup []), od_dp (o2.ex e3) sm_nil.1, od_dp (u := .tup []) (.tup h3 .nil) sm_nil.1, pyd_shaped sm_nil.1 sm_nil.2, pyd_shaped sm_nil.1 sm_nil.2, ?_⟩
  rw [pyd_refl]
  exact ⟨_, rfl, k H3 (W1.same (s2.trans e3))⟩
end
theorem dq_non {u : U} (h : Dq u) : unV u = [] ∧ linU u = false := by cases h <;> exact ⟨rfl, rfl⟩
section
variable {P : Program} {w : World} {K : PySem.W.Frag} {mg : Str → Option Value} {base : Heap}
def spLaw (K : PySem.W.Frag) : Sp := fun vs H Q _ => ∃ (a : Addr) (ns : List Int), vs = [.ref a] ∧ SqL K H a (ns.map V.int) ∧ ∀ H', Q (.bl true) H'
theorem scLaw : FnScope ["script", "hand", "turn", "text", "thing", "at", "sign", "again", "bent", "great", "k"] ["script"] (defScope lLaw) := ⟨rfl, rfl, rfl, by decide +kernel, rfl, by decide +kernel, by decide +kernel⟩
set_option maxHeartbeats 8000000 in
theorem ok_law {f : Addr} {fd : FuncData} (F : Fun K "law" "law" lLaw f fd) (L : La K mg) : FnOk P w K mg base CX0 67 f fd ["script"] (spLaw K) := by
  obtain ⟨fis_integer, dis_integer, Dis_integer⟩ := L.dis_integer
  obtain ⟨fis_signs, dis_signs, Dis_signs⟩ := L.dis_signs
  obtain ⟨fis_lined, dis_lined, Dis_lined⟩ := L.dis_lined
  obtain ⟨fis_thing, dis_thing, Dis_thing⟩ := L.dis_thing
  obtain ⟨fpacked, dpacked, Dpacked⟩ := L.dpacked
  obtain ⟨f_text_of, d_text_of, D_text_of⟩ := L.d_text_of
  obtain ⟨funpacked, dunpacked, Dunpacked⟩ := L.dunpacked
  obtain ⟨f_read_thing, d_read_thing, D_read_thing⟩ := L.d_read_thing
  obtain ⟨f_read_tuple, d_read_tuple, D_read_tuple⟩ := L.d_read_tuple
  obtain ⟨f_read_string, d_read_string, D_read_string⟩ := L.d_read_string
  obtain ⟨f_read_integer, d_read_integer, D_read_integer⟩ := L.d_read_integer
  obtain ⟨fcheck, dcheck, Dcheck⟩ := L.dcheck
  obtain ⟨fcheck_behind, dcheck_behind, Dcheck_behind⟩ := L.dcheck_behind
  obtain ⟨fsealed, dsealed, Dsealed⟩ := L.dsealed
  obtain ⟨funsealed, dunsealed, Dunsealed⟩ := L.dunsealed
  obtain ⟨f_law_hand, d_law_hand, D_law_hand⟩ := L.d_law_hand
  obtain ⟨f_law_draw, d_law_draw, D_law_draw⟩ := L.d_law_draw
  obtain ⟨f_law_any, d_law_any, D_law_any⟩ := L.d_law_any
  obtain ⟨f_law_word, d_law_word, D_law_word⟩ := L.d_law_word
  obtain ⟨f_law_thing, d_law_thing, D_law_thing⟩ := L.d_law_thing
  obtain ⟨f_law_packed, d_law_packed, D_law_packed⟩ := L.d_law_packed
  obtain ⟨f_law_check, d_law_check, D_law_check⟩ := L.d_law_check
  obtain ⟨f_law_sealed, d_law_sealed, D_law_sealed⟩ := L.d_law_sealed
  obtain ⟨f_law_first_wrong, d_law_first_wrong, D_law_first_wrong⟩ := L.d_law_first_wrong
  obtain ⟨f_law_read_string, d_law_read_string, D_law_read_string⟩ := L.d_law_read_string
  obtain ⟨f_law_read_integer, d_law_read_integer, D_law_read_integer⟩ := L.d_law_read_integer
  obtain ⟨f_law_read_tuple, d_law_read_tuple, D_law_read_tuple⟩ := L.d_law_read_tuple
  obtain ⟨f_law_unpacked, d_law_unpacked, D_law_unpacked⟩ := L.d_law_unpacked
  obtain ⟨f_law_changed, d_law_changed, D_law_changed⟩ := L.d_law_changed
  obtain ⟨f_law_deep, d_law_deep, D_law_deep⟩ := L.d_law_deep
  obtain ⟨f_law_due, d_law_due, D_law_due⟩ := L.d_law_due
  obtain ⟨f_law_is_none, d_law_is_none, D_law_is_none⟩ := L.d_law_is_none
  have B := L.B
  have O := L.O
  obtain ⟨CB, fI, dI', EB⟩ := L.EB
  obtain ⟨CN, CH, EC, XC, gH, kH⟩ := L.EN
  obtain ⟨t1, hBD⟩ := L.N.bd
  obtain ⟨t2, hDP⟩ := L.N.dp
  have RD : Rd K mg CB := ⟨B, L.N, ⟨fI, dI', EB⟩, L.d_read_thing, L.d_read_tuple, L.d_read_string, L.d_read_integer, L.dis_signs⟩
  have LR : Lr K mg := ⟨B, L.d_law_first_wrong, L.d_law_read_tuple, L.d_law_read_string, L.d_law_read_integer⟩
  have KD : Kd K mg := ⟨B, O, L.P, L.dis_lined, L.dis_signs, L.dcheck_behind⟩
  have D : Dd P w K mg base f_law_draw d_law_draw := ⟨ok_draw D_law_draw.F B, D_law_draw.g, D_law_draw.F.kp, D_law_draw.b⟩
  have GH : FnOk P w K mg base CX0 1 f_law_hand d_law_hand ["script"] (spHand K) := ok_hand D_law_hand.F B
  have GTh : FnOk P w K mg base CX0 7 f_law_thing d_law_thing ["hand", "deep"] (spThing 0 3) := ok_things D_law_thing B D D_law_any D_law_word 3
  have GPP : FnOk P w K mg base CX0 33 fpacked dpacked ["thing"] (spPkG 0) := ok_packedG Dpacked.F B Dis_thing Dis_integer Dis_signs D_text_of hBD hDP
  have GC : FnOk P w K mg base CX0 3 fcheck dcheck ["text"] spCk := ok_checkK Dcheck.F KD
  have GLC : FnOk P w K mg base CX0 1 f_law_check d_law_check ["text"] spCk := ok_lawCheck D_law_check.F B O
  have GSe : FnOk P w K mg base CX0 34 fsealed dsealed ["thing"] (spSe 0) := ok_sealed Dsealed.F KD Dcheck Dpacked.g Dpacked.F.kp Dpacked.b GPP
  have GU : FnOk P w K mg base CX0 66 funsealed dunsealed ["text"] spUS := ok_unsealed Dunsealed.F RD KD Dunpacked Dcheck
  have GLS : FnOk P w K mg base CX0 32 f_law_sealed d_law_sealed ["thing"] (spLSe 0) := ok_lawSealed D_law_sealed.F B O D_law_packed D_law_check
  have GDu : FnOk P w K mg base CX0 64 f_law_due d_law_due ["text"] spDue := ok_due D_law_due.F LR O D_law_unpacked D_law_sealed D_law_packed D_law_check
  have GCh : FnOk P w K mg base CX0 3 f_law_changed d_law_changed ["hand", "text"] spCh := ok_changed D_law_changed.F B D D_law_any
  have GDe : FnOk P w K mg base CX0 2 f_law_deep d_law_deep ["hand"] spDeep := ok_deep D_law_deep.F B D
  have GIN : FnOk P w K mg base CX0 4 f_law_is_none d_law_is_none ["thing"] spIsNone := ok_isNone D_law_is_none.F B Dcheck Dis_lined Dis_signs EC XC gH kH
  have GAn : FnOk P w K mg base CX0 2 f_law_any d_law_any ["hand", "things"] spAnyL := ok_anyL D_law_any.F B D
  have GS : FnOk P w K mg base CX0 2 f_law_any d_law_any ["hand", "things"] spAnyS := ok_anyS D_law_any.F B D
  refine F.ok scLaw (fun vs H Q E h => ?_) (fun cdv A outer s H vs Q E hr h => ?_)
  · obtain ⟨a, ns, rfl, _⟩ := h
    rfl
  obtain ⟨a, ns, rfl, hS, k⟩ := h
  refine ⟨_, pss_cons (ps_set (i := 1) scLaw.nd rfl (.inr rfl) (pe_call GH (hr.mono (by decide)) (by rfl) D_law_hand.g D_law_hand.F.kp D_law_hand.b .nil pass0 (pa_cons (pv 0) pa_nil)))
    (pss_cons (ps_for PassesOwn.never rfl (pi_range1 (by rfl) B.range (pa_cons pe_int pa_nil)) (pg_name (i := 2) scLaw.nd rfl (Or.inl rfl))
      (Evl.pss_cut (ps_set (i := 3) scLaw.nd rfl (.inl rfl) (pe_join pe_str (pe_lc (own := [("k", 10)]) (g := gName 10) (tt := tYes) rfl scLaw.nd (pi_range1 (by rfl) B.range (pa_cons (pe_draw D (hr.mono (j := 1) (by decide)) (by decide) (by rfl) (pv 1) pe_int) pa_nil)) (blkOk_by (N := ["script", "hand", "turn", "text", "thing", "at", "sign", "again", "bent", "great", "k"]) (sc := defScope lLaw) (by decide +kernel))
        (fun _ _ _ _ _ => pg_name (i := 10) scLaw.nd rfl (Or.inl rfl)) (fun _ _ _ _ _ => pts_nil)
        (fun _ _ _ _ _ => pe_call GS (hr.mono (by decide)) (by rfl) D_law_any.g D_law_any.F.kp D_law_any.b .nil pass0 (pa_cons (pv 1) (pa_cons pe_str pa_nil))))))
      (pss_cons (ps_if (PW.pt (pw_or (pt_cmpR op_ne (pe_call GC (hr.mono (by decide)) (by rfl) Dcheck.g Dcheck.F.kp Dcheck.b .nil pass0 (pa_cons (pv 3) pa_nil)) (pe_call GLC (hr.mono (by decide)) (by rfl) D_law_check.g D_law_check.F.kp D_law_check.b .nil pass0 (pa_cons (pv 3) pa_nil)) (nomark _))
          (pw_or1 (pt_val (pe_callB call_isi (by rfl) B.isi boot_isi' (pa_cons (pe_call GC (hr.mono (by decide)) (by rfl) Dcheck.g Dcheck.F.kp Dcheck.b .nil pass0 (pa_cons (pv 3) pa_nil)) (pa_cons (pe_bltn (by rfl) B.boo boot_bool' (show RelV (.ty "bool") (.type "bool") from rfl)) pa_nil))))))) (pss_one (ps_ret pe_bl)) pss_nil)
      (Evl.pss_cut (ps_set (i := 4) scLaw.nd rfl (.inl rfl) (pe_call GTh (hr.mono (by decide)) (by rfl) D_law_thing.g D_law_thing.F.kp D_law_thing.b .nil pass0 (pa_cons (pv 1) (pa_cons pe_int pa_nil))))
      (pss_cons (ps_set (i := 3) scLaw.nd rfl (.inl rfl) (pe_call GLS (hr.mono (by decide)) (by rfl) D_law_sealed.g D_law_sealed.F.kp D_law_sealed.b .nil pass0 (pa_cons (pv 4) pa_nil)))
      (pss_cons (ps_if (PW.pt (pw_or (pt_cmpR op_ne (pe_call GSe (hr.mono (by decide)) (by rfl) Dsealed.g Dsealed.F.kp Dsealed.b .nil pass0 (pa_cons (pv 4) pa_nil)) (pv 3) (nomark _))
          (pw_or (pt_cmpR (op_neD hr.units) (pe_call GU hr (by rfl) Dunsealed.g Dunsealed.F.kp Dunsealed.b .nil pass0 (pa_cons (pv 3) pa_nil)) (pe_tup (pa_cons (pv 4) pa_nil)) (nomark _))
          (pw_or1 (pt_cmpR (op_neD hr.units) (pe_call GDu (hr.mono (by decide)) (by rfl) D_law_due.g D_law_due.F.kp D_law_due.b .nil pass0 (pa_cons (pv 3) pa_nil)) (pe_tup (pa_cons (pv 4) pa_nil)) (nomark _)))))) (pss_one (ps_ret pe_bl)) pss_nil)
      (Evl.pss_cut (ps_set (i := 5) scLaw.nd rfl (.inl rfl) (pe_draw D (hr.mono (j := 1) (by decide)) (by decide) (by rfl) (pv 1) (pe_callB call_len_str (by rfl) B.len PySem.boot_len (pa_cons (pv 3) pa_nil))))
      (Evl.pss_cut (ps_set (i := 6) scLaw.nd rfl (.inl rfl) (pe_call GS (hr.mono (by decide)) (by rfl) D_law_any.g D_law_any.F.kp D_law_any.b .nil pass0 (pa_cons (pv 1) (pa_cons pe_str pa_nil))))
      (pss_cons (ps_if (PW.pt (pw_and (pt_cmpR op_ne (pv 6) (pe_ix ix_str (pv 3) (pv 5) (fun _ _ => rfl)) (nomark _)) (pw_and1 (pt_cmpR (op_neD hr.units) (pe_call GU hr (by rfl) Dunsealed.g Dunsealed.F.kp Dunsealed.b .nil pass0 (pa_cons
          (pe_op op_add_str (pe_op op_add_str (pe_slice sl_str (pv 3) po_none (po_some (pv 5))) (pv 6)) (pe_slice sl_str (pv 3) (po_some (pe_op op_add (pv 5) pe_int)) po_none)) pa_nil)) (pe_tup pa_nil) (nomark _))))) (pss_one (ps_ret pe_bl)) pss_nil)
      (pss_cons (ps_if (pt_cmpR (op_neD hr.units) (pe_call GU hr (by rfl) Dunsealed.g Dunsealed.F.kp Dunsealed.b .nil pass0 (pa_cons (pe_slice sl_str (pv 3) po_none (po_some (pe_un un_neg pe_int))) pa_nil)) (pe_tup pa_nil) (nomark _)) (pss_one (ps_ret pe_bl)) pss_nil)
      (Evl.pss_cut (ps_if (PW.pt (pw_and (pt_cmpR op_lt (pe_op op_add (pv 5) pe_int) (pe_callB call_len_str (by rfl) B.len PySem.boot_len (pa_cons (pv 3) pa_nil)) (nomark _)) (pw_and1 (pt_cmpR op_ne (pe_ix ix_str (pv 3) (pv 5) (fun _ _ => rfl)) (pe_ix ix_str (pv 3) (pe_op op_add (pv 5) pe_int) (fun _ _ => rfl)) (nomark _)))))
          (pss_one (ps_if (pt_cmpR (op_neD hr.units) (pe_call GU hr (by rfl) Dunsealed.g Dunsealed.F.kp Dunsealed.b .nil pass0 (pa_cons
            (pe_op op_add_str (pe_op op_add_str (pe_op op_add_str (pe_slice sl_str (pv 3) po_none (po_some (pv 5))) (pe_ix ix_str (pv 3) (pe_op op_add (pv 5) pe_int) (fun _ _ => rfl))) (pe_ix ix_str (pv 3) (pv 5) (fun _ _ => rfl))) (pe_slice sl_str (pv 3) (po_some (pe_op op_add (pv 5) pe_int)) po_none)) pa_nil)) (pe_tup pa_nil) (nomark _)) (pss_one (ps_ret pe_bl)) pss_nil)) pss_nil)
      (pss_one (ps_for PassesOwn.never rfl (pi_range1 (by rfl) B.range (pa_cons pe_int pa_nil)) (pg_name (i := 7) scLaw.nd rfl (Or.inl rfl))
        (Evl.pss_cut (ps_set (i := 8) scLaw.nd rfl (.inl rfl) (pe_call GCh (hr.mono (by decide)) (by rfl) D_law_changed.g D_law_changed.F.kp D_law_changed.b .nil pass0 (pa_cons (pv 1) (pa_cons (pv 3) pa_nil))))
        (pss_one (ps_if (pt_cmpR (op_neD hr.units) (pe_call GU hr (by rfl) Dunsealed.g Dunsealed.F.kp Dunsealed.b .nil pass0 (pa_cons (pv 8) pa_nil)) (pe_call GDu (hr.mono (by decide)) (by rfl) D_law_due.g D_law_due.F.kp D_law_due.b .nil pass0 (pa_cons (pv 8) pa_nil)) (nomark _))
          (pss_one (ps_ret pe_bl)) pss_nil))))))))))))))))
    (Evl.pss_cut (ps_set (i := 9) scLaw.nd rfl (.inl rfl) (pe_op op_mulS pe_str (pe_op op_add pe_int (pe_draw D (hr.mono (j := 1) (by decide)) (by decide) (by rfl) (pv 1) pe_int))))
    (pss_cons (ps_if (pt_cmpR op_ne (pe_call GC (hr.mono (by decide)) (by rfl) Dcheck.g Dcheck.F.kp Dcheck.b .nil pass0 (pa_cons (pv 9) pa_nil)) (pe_call GLC (hr.mono (by decide)) (by rfl) D_law_check.g D_law_check.F.kp D_law_check.b .nil pass0 (pa_cons (pv 9) pa_nil)) (nomark _)) (pss_one (ps_ret pe_bl)) pss_nil)
    (Evl.pss_cut (ps_if (pt_cmpR (op_neD hr.units) (pe_call GU hr (by rfl) Dunsealed.g Dunsealed.F.kp Dunsealed.b .nil pass0 (pa_cons (pe_call GAn (hr.mono (by decide)) (by rfl) D_law_any.g D_law_any.F.kp D_law_any.b .nil pass0 (pa_cons (pv 1) (pa_cons
        (pe_lst (pa_cons pe_non (pa_cons pe_int (pa_cons (pe_lst (pa_cons pe_str pa_nil)) (pa_cons (pe_tup pa_nil) (pa_cons pe_dnewK (pa_cons pe_bl (pa_cons (pe_call GDe (hr.mono (by decide)) (by rfl) D_law_deep.g D_law_deep.F.kp D_law_deep.b .nil pass0 (pa_cons (pv 1) pa_nil)) pa_nil)))))))) pa_nil))) pa_nil)) (pe_tup pa_nil) (nomark _)) (pss_one (ps_ret pe_bl)) pss_nil)
    (pss_one (ps_ret (pe_call GIN (hr.mono (by decide)) (by rfl) D_law_is_none.g D_law_is_none.F.kp D_law_is_none.b .nil pass0 (pa_cons (pe_call GAn (hr.mono (by decide)) (by rfl) D_law_any.g D_law_any.F.kp D_law_any.b .nil pass0 (pa_cons (pv 1) (pa_cons
        (pe_lst (pa_cons pe_non (pa_cons pe_int (pa_cons (pe_lst (pa_cons pe_str pa_nil)) (pa_cons (pe_tup pa_nil) (pa_cons pe_bl (pa_cons pe_dnewK (pa_cons (pe_tup (pa_cons pe_str pa_nil)) (pa_cons (pe_call GDe (hr.mono (by decide)) (by rfl) D_law_deep.g D_law_deep.F.kp D_law_deep.b .nil pass0 (pa_cons (pv 1) pa_nil)) pa_nil))))))))) pa_nil))) pa_nil)))))))), ?_⟩
  have evC : ∀ {z : Str} {te : TE} {σ : L2.St} {H : Hp} {E : XK}, Ev te σ H (.str z) → z.length ≤ 20000 → ln' (TL.tl z) = true → Ev (tCall spCk [] E (tCons te tNil)) σ H (.int (ck (TL.tl z) : Int)) := fun h hz hl =>
    ev_call (sp := spCk) (ea_cons h ea_nil) fun H1 e1 Q q E => ⟨_, rfl, hz, hl, q⟩
  have evN : ∀ {z : Str} {te : TE} {σ : L2.St} {H : Hp} {E1 E2 : XK}, Ev te σ H (.str z) → z.length ≤ 20000 → ln' (TL.tl z) = true → EvT (tTest (tOp rNe (tCall spCk [] E1 (tCons te tNil)) (tCall spCk [] E2 (tCons te tNil)))) σ H false := fun h hz hl =>
    et_is (et_test (ev_op (evC h hz hl) (evC h hz hl) (rv_ne rfl))) (by simp)
  refine ⟨_, rfl, a, ns, rfl, hS, fun wl H1 s1 W1 => ?_⟩
  refine q_forR1 (ea_cons ev_c ea_nil) (by decide) (fun i σ' H' => (∃ x2 x3 x4 x5 x6 x7 x8 x9 x10, σ' = [some (.ref a), some (.ref wl.w), x2, x3, x4, x5, x6, x7, x8, x9, x10]) ∧ Well H' wl) (fun H2 e2 => ⟨⟨none, none, none, none, none, none, none, none, none, rfl⟩, W1.same e2⟩) ?_ ?_
  · rintro i σ' H2 hi ⟨⟨x2, x3, x4, x5, x6, x7, x8, x9, x10, rfl⟩, W2⟩
    refine q_cut (M := fun σ' H' => ∃ z : Str, σ' = [some (.ref a), some (.ref wl.w), some (.int (i : Int)), some (.str z), x4, x5, x6, x7, x8, x9, x10] ∧ Well H' wl ∧ z.length ≤ 20000 ∧ ln' (TL.tl z) = true) ?_ ?_
    · refine ⟨⟨_, rfl⟩, _, rfl, wl, 40, rfl, W2, by decide, by decide, fun m H1 m0 m1 D1 => ⟨m, rfl, by omega, by omega, fun D' hD => ?_⟩⟩
      have nD := (D1.well.ne hD).1
      refine lc_range (lo := 0) (n := m.toNat) (fun i H' => Drawn wl H1 H' ∧ ∃ cs : List Nat, H' D' = some (.lst ((cs.map fun c => (⟨#[c]⟩ : Str)).map V.str)) ∧ cs.length = i ∧ ln' cs = true) ⟨(Drawn.refl D1.well).new hD, [], upd_same, rfl, rfl⟩ ?_ ?_
      · rintro i H2 hi ⟨D2, cs, hz, hl, hc⟩
        refine ⟨rfl, _, rfl, wl, txtZ, rfl, D2.well, by decide +kernel, by decide +kernel, fun c H3 hcm D3 => ⟨_, D3.keep D' _ nD hz, ?_, (D2.trans D3).put D1.well hD, cs ++ [c], ?_, ?_, ?_⟩⟩
        · rw [List.length_map, List.length_map]
          have := big_line
          omega
        · rw [upd_same, List.map_append, List.map_append]
          rfl
        · rw [List.length_append, hl]
          rfl
        · unfold ln' at hc ⊢
          rw [List.all_append, hc]
          have := List.all_eq_true.mp txtZ_ok c hcm
          simp [this]
      · rintro H2 ⟨D2, cs, hz, hl, hc⟩
        obtain ⟨s1, s2⟩ := join_signs cs
        refine ⟨_, D', cs.map fun c => (⟨#[c]⟩ : Str), rfl, rfl, .inl (SqL.of hz), ?_, _, rfl, (D1.trans D2).well, ?_, ?_⟩
        · rw [s1]
          show cs.length + _ * 0 ≤ 16777216
          omega
        · rw [TL.len_tl, join_tl, s2]
          omega
        · rw [join_tl, s2]
          exact hc
    rintro σ' H3 ⟨z, rfl, W3, hz, hl⟩
    refine q_when (b := false || false) (et_or (a := false) (evN (ev_var rfl) hz hl) fun _ => et_is (et_B (ev_isiO (evC (ev_var rfl) hz hl) (.int _) (by decide))) rfl) (fun q => by cases q) (fun _ H4 e4 => ?_)
    refine q_cut (M := fun σ' H' => ∃ (v : V) (u : U), σ' = [some (.ref a), some (.ref wl.w), some (.int (i : Int)), some (.str z), some v, x5, x6, x7, x8, x9, x10] ∧ Well H' wl ∧ At wl.w 0 H' v u ∧ pl u ∧ ln u ≤ 1145 ∧ dpt u ≤ 30) ?_ ?_
    · refine ⟨_, rfl, wl, rfl, W3.same e4, fun v u H3 D3 hat pu lu du => ⟨v, u, rfl, D3.well, hat.keep fun b o _ q => (fr_new q).2, pu, ?_, by omega⟩⟩
      have : Ln 3 = 1145 := rfl
      omega
    clear hz hl
    rintro σ' H5 ⟨v, u, rfl, W5, hat, pu, lu, du⟩
    have ltx := tx_len u pu
    have lS := Sl_len u
    have lst := stx_len u
    have hz : (stx u).length ≤ 2000 := by omega
    have hz1 : (stx u).length ≤ 100000 := by omega
    have hlz : (stx u).length = (TL.tl (stx u)).length := TL.len_tl _
    have htl : TL.tl (stx u) = Sl u := rfl
    refine q_asg (v := .str (stx u)) (ev_call (sp := spLSe 0) (ea_cons (ev_var rfl) ea_nil) fun H6 e6 Q q E => ⟨v, u, wl.w, rfl, ex_at e6 hat, pu, by omega, by omega, du, q⟩) fun H6 e6 => ?_
    have hat6 := ex_at e6 hat
    have W6 := W5.same e6
    have hback : unT (TL.tl (stx u)) = [u] := unT_back pu du
    have sT := sm_T (TL.tl (stx u))
    rw [hback] at sT
    have eU : ∀ {te : TE} {σ : L2.St} {H : Hp} {E : XK}, Ev te σ H (.str (stx u)) → EvD (tCall spUS [] E (tCons te tNil)) σ H (.tup [u]) := fun h => by
      rw [← hback]
      exact ed_us h (by omega)
    have eD : ∀ {te : TE} {σ : L2.St} {H : Hp} {E : XK}, Ev te σ H (.str (stx u)) → Well H wl → EvD (tCall spDue [] E (tCons te tNil)) σ H (.tup [u]) := fun h W => by
      rw [← hback]
      exact ed_due h W (by omega)
    refine q_when (b := false || (false || false)) (et_or (a := false) (et_is (et_test (ev_op (x := .str (stx u)) (ev_call (sp := spSe 0) (ea_cons (ev_var rfl) ea_nil) fun H7 e7 Q q E => ⟨v, u, wl.w, rfl, ex_at e7 hat6, pu, by omega, du, q⟩) (ev_var rfl) (rv_ne rfl))) (by simp)) fun _ => et_or (a := false)
      (et_same (et_neD (eU (ev_var rfl)) (ed_one (ev_var rfl) (od_at hat6 pu)) sT.1 sT.1 sT.2 sT.2)) fun _ => et_same (et_neD (eD (ev_var rfl) W6) (ed_one (ev_var rfl) (od_at hat6 pu)) sT.1 sT.1 sT.2 sT.2)) (fun q => by cases q) (fun _ H7 e7 => ?_)
    have W7 := W6.same e7
    have l1 : 1 ≤ (Sl u).length := by
      unfold Sl
      rw [List.length_append, List.length_cons]
      omega
    clear eU eD hat hat6 sT
    refine q_cut (M := fun σ' H' => ∃ p : Nat, σ' = [some (.ref a), some (.ref wl.w), some (.int (i : Int)), some (.str (stx u)), some v, some (.int (p : Int)), x6, x7, x8, x9, x10] ∧ Well H' wl ∧ p < (Sl u).length) ?_ ?_
    · refine ⟨_, rfl, _, rfl, stx u, rfl, sz_of hz1, wl, _, rfl, W7, by omega, by omega, fun d H1 d0 d1 D1 => ⟨d.toNat, by rw [Int.toNat_of_nonneg d0]; rfl, D1.well, by omega⟩⟩
    rintro σ' H8 ⟨p, rfl, W8, hp⟩
    refine q_cut (M := fun σ' H' => ∃ c : Nat, σ' = [some (.ref a), some (.ref wl.w), some (.int (i : Int)), some (.str (stx u)), some v, some (.int (p : Int)), some (.str ⟨#[c]⟩), x7, x8, x9, x10] ∧ Well H' wl) ?_ ?_
    · exact ⟨_, rfl, wl, sgnZ, rfl, W8, by decide +kernel, by decide +kernel, fun c H' hc D' => ⟨c, rfl, D'.well⟩⟩
    rintro σ' H9 ⟨c, rfl, W9⟩
    have hx : (TL.tl (stx u))[p]? = some (Sl u)[p] := List.getElem?_eq_getElem hp
    generalize hxe : (Sl u)[p] = x at hx
    have mid : Sl u = (Sl u).take p ++ x :: (Sl u).drop (p + 1) := mid_of hx
    have t1 : TL.tl (cutS (stx u) none (some (p : Int))) = (Sl u).take p := cut_tlN (by omega)
    have t2 : ∀ j : Nat, TL.tl (cutS (stx u) (some (j : Int)) none) = (Sl u).drop j := fun j => cut_none
    have n1 : (cutS (stx u) none (some (p : Int))).length ≤ (stx u).length := cutS_length _ _ _
    have n2 : ∀ j : Nat, (cutS (stx u) (some (j : Int)) none).length ≤ (stx u).length := fun j => cutS_length _ _ _
    have c1 : ∀ d : Nat, ((⟨#[d]⟩ : Str)).length = 1 := fun _ => rfl
    have sgT : ∀ d : Nat, TL.tl (⟨#[d]⟩ : Str) = [d] := fun _ => rfl
    refine q_when (b := !decide (V.str ⟨#[c]⟩ = V.str ⟨#[x]⟩) && false) (et_and (b := false) (et_test (ev_op (ev_var rfl) (ev_ixS (ev_var rfl) (ev_var rfl) hz1 hx) (rv_ne rfl))) fun q => et_us0 (z := cutS (stx u) none (some (p : Int)) ++ ⟨#[c]⟩ ++ cutS (stx u) (some ((p + 1 : Nat) : Int)) none)
        (ev_addS (ev_addS (ev_slS (ev_var rfl) eo_none (eo_some (ev_var rfl)) hz1) (ev_var rfl) (by rw [c1]; omega)) (ev_slS (ev_var rfl) (eo_some (ev_is (ev_op (ev_var rfl) ev_c rv_I0) rfl)) eo_none hz1) (by rw [app_len, c1]; have := n2 (p + 1); omega))
        (by rw [app_len, app_len, c1]; have := n2 (p + 1); omega) (by
          rw [TL.tl_append, TL.tl_append, t1, t2, sgT, List.append_assoc]
          refine un_one pu du (by omega) (fun e => ?_) mid
          rw [e] at q
          simp at q)) (fun q => by rw [Bool.and_false] at q; cases q) (fun _ H10 e10 => ?_)
    refine q_when (b := false) (et_us0 (z := cutS (stx u) none (some (-1))) (ev_slS (ev_var rfl) eo_none (eo_some (ev_un ev_c ru_neg)) hz1) (by have := cutS_length (stx u) none (some (-1)); omega) (by
        rw [cut_last (by omega)]
        obtain ⟨l', d, el, hl'⟩ := snoc_of (n := (Sl u).length - 1) (l := Sl u) (by omega)
        refine un_last (u := u) (c := d) ?_
        rw [htl, lst, ← hl', el, List.take_left])) (fun q => by cases q) (fun _ H11 e11 => ?_)
    have W11 := (W9.same e10).same e11
    refine q_cut (M := fun σ' H' => σ' = [some (.ref a), some (.ref wl.w), some (.int (i : Int)), some (.str (stx u)), some v, some (.int (p : Int)), some (.str ⟨#[c]⟩), x7, x8, x9, x10] ∧ Well H' wl) ?_ ?_
    · by_cases hlt : p + 1 < (Sl u).length
      · have hy : (TL.tl (stx u))[p + 1]? = some (Sl u)[p + 1] := List.getElem?_eq_getElem hlt
        generalize (Sl u)[p + 1] = y at hy
        have mid2 : Sl u = (Sl u).take p ++ x :: y :: (Sl u).drop (p + 2) := by
          conv => lhs; rw [mid, show (Sl u).drop (p + 1) = y :: (Sl u).drop (p + 1 + 1) from drop_some hy]
        have evy : ∀ {σ : L2.St} {H : Hp}, σ[3]? = some (some (.str (stx u))) → σ[5]? = some (some (.int (p : Int))) → Ev (tIxS (tVar 3) (tOp (rI0 fun i j => .int (i + j)) (tVar 5) (tC (.int 1)))) σ H (.str ⟨#[y]⟩) := fun h3 h5 => ev_ixS (p := p + 1) (ev_var h3) (ev_is (ev_op (ev_var h5) ev_c rv_I0) rfl) hz1 hy
        refine s_when (b := decide (((p : Int) + 1) < ((stx u).length : Int)) && !decide (V.str ⟨#[x]⟩ = V.str ⟨#[y]⟩)) (et_and (et_test (ev_op (ev_op (ev_var rfl) ev_c rv_I0) (ev_lenS (ev_var rfl) hz1) rv_I0)) fun _ => et_test (ev_op (ev_ixS (ev_var rfl) (ev_var rfl) hz1 hx) (evy rfl rfl) (rv_ne rfl))) (fun q H12 e12 => ?_) (fun _ H12 e12 => ⟨rfl, W11.same e12⟩)
        refine s_when (b := false) (et_us0 (z := cutS (stx u) none (some (p : Int)) ++ ⟨#[y]⟩ ++ ⟨#[x]⟩ ++ cutS (stx u) (some ((p + 2 : Nat) : Int)) none)
          (ev_addS (ev_addS (ev_addS (ev_slS (ev_var rfl) eo_none (eo_some (ev_var rfl)) hz1) (evy rfl rfl) (by rw [c1]; omega)) (ev_ixS (ev_var rfl) (ev_var rfl) hz1 hx) (by rw [app_len, c1, c1]; omega)) (ev_slS (ev_var rfl) (eo_some (ev_is (ev_op (ev_var rfl) ev_c rv_I0) rfl)) eo_none hz1) (by rw [app_len, app_len, c1, c1]; have := n2 (p + 2); omega))
          (by rw [app_len, app_len, app_len, c1, c1]; have := n2 (p + 2); omega) (by
            rw [TL.tl_append, TL.tl_append, TL.tl_append, t1, t2, sgT, sgT, List.append_assoc, List.append_assoc]
            refine un_swap pu (fun e => ?_) mid2
            rw [e] at q
            simp at q)) (fun q => by cases q) (fun _ H13 e13 => ⟨rfl, (W11.same e12).same e13⟩)
      · exact s_when (b := false && false) (et_and (a := false) (et_is (et_test (ev_op (ev_op (ev_var rfl) ev_c rv_I0) (ev_lenS (ev_var rfl) hz1) rv_I0)) (decide_eq_false (by omega))) fun q => by cases q) (fun q => by cases q) (fun _ H12 e12 => ⟨rfl, W11.same e12⟩)
    rintro σ' H12 ⟨rfl, W12⟩
    refine s_forR1 (ea_cons ev_c ea_nil) (by decide) (fun j σ' H' => (∃ y7 y8, σ' = [some (.ref a), some (.ref wl.w), some (.int (i : Int)), some (.str (stx u)), some v, some (.int (p : Int)), some (.str ⟨#[c]⟩), y7, y8, x9, x10]) ∧ Well H' wl) (fun H13 e13 => ⟨⟨x7, x8, rfl⟩, W12.same e13⟩) ?_ ?_
    · rintro j σ' H13 hj ⟨⟨y7, y8, rfl⟩, W13⟩
      refine q_cut (M := fun σ' H' => ∃ z' : Str, σ' = [some (.ref a), some (.ref wl.w), some (.int (i : Int)), some (.str (stx u)), some v, some (.int (p : Int)), some (.str ⟨#[c]⟩), some (.int (j : Int)), some (.str z'), x9, x10] ∧ Well H' wl ∧ z'.length ≤ 3500) ?_ ?_
      · exact ⟨_, rfl, _, rfl, wl, stx u, rfl, W13, by omega, fun z' H8 lz D8 => ⟨z', rfl, D8.well, by omega⟩⟩
      rintro σ' H14 ⟨z', rfl, W14, lz⟩
      obtain ⟨sz, dz⟩ := sm_T (TL.tl z')
      exact s_when (b := false) (et_same (et_neD (ed_us (ev_var rfl) (by omega)) (ed_due (ev_var rfl) W14 lz) sz sz dz dz)) (fun q => by cases q) (fun _ H15 e15 => ⟨⟨_, _, rfl⟩, W14.same e15⟩)
    · rintro σ' H13 ⟨⟨y7, y8, rfl⟩, W13⟩
      exact ⟨⟨_, _, _, _, _, _, _, _, _, rfl⟩, W13⟩
  rintro σ' H2 ⟨⟨x2, x3, x4, x5, x6, x7, x8, x9, x10, rfl⟩, W2⟩
  refine q_cut (M := fun σ' H' => ∃ n : Int, σ' = [some (.ref a), some (.ref wl.w), x2, x3, x4, x5, x6, x7, x8, some (.str (Txt.mul "~" n)), x10] ∧ Well H' wl ∧ 2000 ≤ n ∧ n ≤ 5000) ?_ ?_
  · exact ⟨_, rfl, wl, 3000, rfl, W2, by decide, by decide, fun m H3 m0 m1 D3 => ⟨2000, m, rfl, rfl, "~", 2000 + m, rfl, rfl, great_ok (by omega) (by omega), 2000 + m, rfl, D3.well, by omega, by omega⟩⟩
  rintro σ' H3 ⟨n, rfl, W3, n0, n1⟩
  refine q_when (b := false) (evN (ev_var rfl) (great_len n1) (great_ln n)) (fun q => by cases q) (fun _ H4 e4 => ?_)
  have W4 := W3.same e4
  obtain ⟨ow, how⟩ := W4.at
  refine q_cut (M := fun σ' H' => σ' = [some (.ref a), some (.ref wl.w), x2, x3, x4, x5, x6, x7, x8, some (.str (Txt.mul "~" n)), x10] ∧ Well H' wl) ?_ ?_
  · refine us_any (wl := wl) rfl W4 (ewp_cons ew_non (ewp_cons ew_int (ewp_cons (ew_lst how (ews_cons ew_str ews_nil) (by simp)) (ewp_cons (ew_tup how ews_nil (by simp)) (ewp_cons (ew_dnew how) (ewp_cons ew_bl ewp_nil)))))) (by simp) (fun u hu => ?_) fun H' W' => ⟨rfl, W'⟩
    rcases hu with hu | hu
    · simp only [List.mem_cons, List.not_mem_nil, or_false] at hu
      rcases hu with rfl | rfl | rfl | rfl | rfl | rfl
      · exact ⟨rfl, by simp only [brd]⟩
      · exact ⟨rfl, by simp only [brd]⟩
      · exact ⟨rfl, by simp only [brd]⟩
      · exact ⟨rfl, by simp only [brd, brdL]; exact ⟨by simp, trivial⟩⟩
      · exact ⟨rfl, by simp only [brd]⟩
      · exact ⟨rfl, by simp only [brd]⟩
    · exact ⟨(dq_non hu).1, hu.brd⟩
  rintro σ' H5 ⟨rfl, W5⟩
  obtain ⟨ow5, how5⟩ := W5.at
  refine any_read (wl := wl) rfl W5 (ewp_cons ew_non (ewp_cons ew_int (ewp_cons (ew_lst how5 (ews_cons ew_str ews_nil) (by simp)) (ewp_cons (ew_tup how5 ews_nil (by simp)) (ewp_cons ew_bl (ewp_cons (ew_dnew how5) (ewp_cons (ew_tup how5 (ews_cons ew_str ews_nil) (by simp)) ewp_nil))))))) (by simp) fun x u H6 hu ou W6 => ?_
  have hb : brd u ∧ linU u = false := by
    rcases hu with hu | hu
    · simp only [List.mem_cons, List.not_mem_nil, or_false] at hu
      rcases hu with rfl | rfl | rfl | rfl | rfl | rfl | rfl
      · exact ⟨by simp only [brd], rfl⟩
      · exact ⟨by simp only [brd], rfl⟩
      · exact ⟨by simp only [brd], rfl⟩
      · exact ⟨by simp only [brd, brdL]; exact ⟨by simp, trivial⟩, rfl⟩
      · exact ⟨by simp only [brd], rfl⟩
      · exact ⟨by simp only [brd], rfl⟩
      · refine ⟨?_, rfl⟩
        simp only [brd, brdL]
        exact ⟨by simp, by decide +kernel, trivial⟩
    · exact ⟨hu.brd, (dq_non hu).2⟩
  exact ⟨x, u, rfl, ou, hb.1, hb.2, fun H' s' => k H'⟩
end
end Ht
namespace Ht
open PySem PySem.Spec PyProof.Rows L2
section
variable {K : PySem.W.Frag} {h : Heap} {mg : Str → Option Value}
theorem df_mk {x : Str} {st : Stmt} {ps : List Str} {f : Addr} {oc : Value} {od an : Option Addr} {sl : Array (Option Value)} {kV dc pm cd ct : Value} (X : K.In h) (G : h.Ns mainGlobals mg)
    (a : PySem.W.nsIn K mainGlobals x = some (some (.ref f))) (l : K.lookup f = some ⟨oc, od, .func (PySem.W.fnOf x x (defArgs st) (defBody st) (defScope st) .none kV dc pm an cd ct), sl⟩) (c : PySem.W.codeIn K cd x = true) (k : PySem.W.keepIn K (.ref f) = true)
    (b : ∀ (kV doc pm : Value) (an : Option Addr) (cdv ct : Value) (us : List Value), us.length = ps.length → bindArgs (PySem.W.fnOf x x (defArgs st) (defBody st) (defScope st) .none kV doc pm an cdv ct) ⟨us, []⟩ = pure (ps.zip us)) :
    Df K mg x st ps f (PySem.W.fnOf x x (defArgs st) (defBody st) (defScope st) .none kV dc pm an cd ct) := by
  have F := fun_mk (st := st) l c k
  exact ⟨F, F.binds b, PySem.W.mg_of X G a⟩
theorem exm_self {S : Addr} (h1 : PySem.W.subIn K (.ref S) (.type "BaseException") = some true) (h2 : PySem.W.isClsIn K S = true) (h3 : PySem.W.typeIn K (.ref S) = some (.type "type")) (h4 : PySem.W.subIn K (.ref S) (.ref S) = some true) :
    PySem.W.exmOne K (.ref S) (.ref S) = some true := by
  have e1 : (PySem.W.subIn K (.ref S) (.type "BaseException") == some true) = true := by rw [h1] <;> rfl
  have e2 : ((PySem.W.clsIn K S).isSome && PySem.W.typeIn K (.ref S) == some (.type "type")) = true := by
    have h2' : (PySem.W.clsIn K S).isSome = true := h2
    rw [h2', h3] <;> rfl
  show (if (PySem.W.subIn K (.ref S) (.type "BaseException") == some true) = true then (if ((PySem.W.clsIn K S).isSome && PySem.W.typeIn K (.ref S) == some (.type "type")) = true then PySem.W.subIn K (.ref S) (.ref S) else none) else none) = some true
  rw [if_pos e1, if_pos e2]
  exact h4
theorem gh_mk {x : Str} {C : Addr} (X : K.In h) (G : h.Ns mainGlobals mg) (a : PySem.W.nsIn K mainGlobals x = some (some (.ref C))) : mg x = some (.ref C) := PySem.W.mg_of X G a
theorem gi_mk {x : Str} {n : Int} {t : Tok} (X : K.In h) (G : h.Ns mainGlobals mg) (a : PySem.W.nsIn K mainGlobals x = some (some (.int n t))) : ∃ t, mg x = some (.int n t) := ⟨t, PySem.W.mg_of X G a⟩
theorem gn_mk {x : Str} (X : K.In h) (G : h.Ns mainGlobals mg) (a : PySem.W.nsIn K mainGlobals x = some none) : mg x = none := PySem.W.mg_none_of X G a
theorem ec_mk {x : Str} {C : Addr} (X : K.In h) (G : h.Ns mainGlobals mg) (a : PySem.W.nsIn K mainGlobals x = some (some (.ref C)))
    (q : PySem.W.excIn K C [.type "ValueError", .type "Exception", .type "BaseException", .type "object"] "ValueError.__new__" = true) (k : PySem.W.keepIn K (.ref C) = true) (b : PySem.W.subIn K (.ref C) (.type "BaseException") = some true)
    (t : PySem.W.typeIn K (.ref C) = some (.type "type")) (i : PySem.W.isClsIn K C = true) (s : PySem.W.subIn K (.ref C) (.ref C) = some true) : Ec K mg x C := ⟨PySem.W.mg_of X G a, q, k, b, t, exm_self b i t s⟩

theorem bx_mk {C fI : Addr} {nm q : Str} {N : Addr} {bs bm : List Value} {sn : List Str} {sub : List Value} {ab : Bool} {col : Option Bool} {dd : Option Addr} {m0 m1 m2 m3 m5 : Option Value} {oc : Value} {od an : Option Addr} {sl : Array (Option Value)} {kV dc pm cd ct : Value} (X : K.In h) (G : h.Ns mainGlobals mg)
    (aC : PySem.W.nsIn K mainGlobals "BadText" = some (some (.ref C))) (xL : K.lookup C = some (excClassObj nm q C N bs bm true sn sub ab col dd m0 m1 m2 m3 m5 "ValueError.__new__")) (rv : PySem.HandSPX.refsVE bm = true)
    (sa : PySem.W.findIn K (.ref C) "__setattr__" = some (some (.builtin "object.__setattr__"))) (ga : PySem.W.findIn K (.ref C) "__getattribute__" = some (some (.builtin "BaseException.__getattribute__"))) (gg : PySem.W.findIn K (.ref C) "__getattr__" = some none)
    (nb : PySem.W.findIn K (.ref C) "place" = some none) (a1 : PySem.W.findIn K (.ref C) "__init__" = some (some (.ref fI))) (t1 : PySem.W.typeIn K (.ref fI) = some (.type "function"))
    (l1 : K.lookup fI = some ⟨oc, od, .func (PySem.W.fnOf "__init__" "BadText.__init__" (defArgs sBadInit) (defBody sBadInit) (defScope sBadInit) .none kV dc pm an cd ct), sl⟩) (c1 : PySem.W.codeIn K cd "BadText.__init__" = true) (kf : PySem.W.keepIn K (.ref fI) = true)
    (kC : PySem.W.keepIn K (.ref C) = true) (eC : PySem.W.subIn K (.ref C) (.type "BaseException") = some true) (tC : PySem.W.typeIn K (.ref C) = some (.type "type")) (hC : PySem.W.hasDictIn K C = true) (iC : PySem.W.isClsIn K C = true) (sC : PySem.W.subIn K (.ref C) (.ref C) = some true) : ∃ CB fI dI, Bx K mg CB fI dI := by
  have F := fun_mk (st := sBadInit) l1 c1 kf
  exact ⟨C, fI, _, ⟨PySem.W.mg_of X G aC, ⟨⟨nm, q, N, bs, bm, sn, sub, ab, col, dd, m0, m1, m2, m3, m5, xL, rv⟩, sa, eC, tC, kC⟩, a1, t1, F, F.binds (fun _ _ _ _ _ _ us hl => match us, hl with | [_, _], _ => rfl), nb, exm_self eC iC tC sC, ⟨ga, gg, eC, hC⟩⟩⟩
theorem gs_mk {x : Str} {n : Str} {t : Tok} (X : K.In h) (G : h.Ns mainGlobals mg) (a : PySem.W.nsIn K mainGlobals x = some (some (.str n t))) : ∃ t, mg x = some (.str n t) := ⟨t, PySem.W.mg_of X G a⟩
theorem en_mk {C CH : Addr} (X : K.In h) (G : h.Ns mainGlobals mg) (a : PySem.W.nsIn K mainGlobals "NoText" = some (some (.ref C)))
    (q : PySem.W.excIn K C [.type "ValueError", .type "Exception", .type "BaseException", .type "object"] "ValueError.__new__" = true) (k : PySem.W.keepIn K (.ref C) = true) (b : PySem.W.subIn K (.ref C) (.type "BaseException") = some true)
    (t : PySem.W.typeIn K (.ref C) = some (.type "type")) (i : PySem.W.isClsIn K C = true) (s : PySem.W.subIn K (.ref C) (.ref C) = some true)
    (c1 : PySem.W.findIn K (.ref C) "__getattribute__" = some (some (.builtin "BaseException.__getattribute__"))) (c2 : PySem.W.findIn K (.ref C) "__getattr__" = some none) (c4 : PySem.W.hasDictIn K C = true)
    (c5 : PySem.W.findIn K (.ref C) "__class__" = some (some (.builtin "object.__class__"))) (c6 : PySem.W.specialIn K (.builtin "object.__class__") "__get__" = some (some (.builtin "getset_descriptor.__get__"))) (c7 : PySem.W.takesIn K (.builtin "object.__class__") = some true) (c8 : PySem.W.mroIn K C (.type "object") = some true)
    (aH : PySem.W.nsIn K mainGlobals "HomeError" = some (some (.ref CH))) (kh : PySem.W.kitOne K (.ref C) (.ref CH) = some true) :
    ∃ CN CH, Ec K mg "NoText" CN ∧ ExcC K CN ∧ mg "HomeError" = some (.ref CH) ∧ PySem.W.kitOne K (.ref CN) (.ref CH) = some true :=
  ⟨C, CH, ec_mk X G a q k b t i s, ⟨c1, c2, b, c4, c5, c6, c7, c8⟩, PySem.W.mg_of X G aH, kh⟩
theorem law_mk {l : PySem.W.OpenLaw} {w : World} {f fa : Addr} {oc : Value} {od an : Option Addr} {sl : Array (Option Value)} {kV dc pm cd ct : Value} (X : K.In h) (G : h.Ns mainGlobals mg) (hfa : mg "law" = some (.ref fa))
    (a : PySem.W.nsIn K mainGlobals "law" = some (some (.ref f))) (lk : K.lookup f = some ⟨oc, od, .func (PySem.W.fnOf "law" "law" (defArgs lLaw) (defBody lLaw) (defScope lLaw) .none kV dc pm an cd ct), sl⟩) (c : PySem.W.codeIn K cd "law" = true) (k : PySem.W.keepIn K (.ref f) = true)
    (A0 : La K mg) :
    ∃ fd : FuncData, (∀ (s : Shared) (v : Value), BindsTo s fd ⟨[v], []⟩ [("script", v)]) ∧ ∀ base : Heap, K.In base → base.Ns mainGlobals mg → FnOk l.prog w K mg base CX0 67 fa fd ["script"] (spLaw K) := by
  have e := hfa.symm.trans (PySem.W.mg_of X G a)
  cases e
  exact ⟨PySem.W.fnOf "law" "law" (defArgs lLaw) (defBody lLaw) (defScope lLaw) .none kV dc pm an cd ct, fun s v => .of_eq rfl, fun base _ _ => ok_law (fun_mk (st := lLaw) lk c k) A0⟩
end
end Ht
open PySem PySem.W PyProof.Rows
set_option maxRecDepth 100000 in
set_option maxHeartbeats 0 in
theorem PySem.Challenge.cw_homeshold_k31_whole_checks_and_sealed_te_holds : PySem.Challenge.rw_homeshold_k31_whole_checks_and_sealed_te.Holds := by
  w_on; o_law; k_head; (case hw => w_witness2)
  k_fill
  refine L2.walk_of (l := PySem.Challenge.rw_homeshold_k31_whole_checks_and_sealed_te) (n := 63) (k := 67) (x := "script") (CX := fun _ => L2.CX0) (sp := fun w => Ht.spLaw _) rfl (by decide) rfl ⟨rfl, by decide, by decide⟩ (fun w h Y => PySem.W.kIn_of Y) ?F (fun _ _ a ns hl _ hS => ⟨a, ns, rfl, hS, fun _ => rfl⟩) (fun _ _ _ _ _ h => h)
  case F =>
    intro w mg fa h KX G hmg
    obtain his_integer : ∃ f fd, Ht.Df _ mg "is_integer" Ht.sIsInt ["thing"] f fd := by
      refine' ⟨_, _, Ht.df_mk KX G ?a ?l ?c ?k (fun _ _ _ _ _ _ us hl => match us, hl with | [_], _ => rfl)⟩
      (case a => k_is); (case l => k_is); (case c => k_is); (case k => k_is)
    obtain his_signs : ∃ f fd, Ht.Df _ mg "is_signs" Ht.sIsSigns ["thing"] f fd := by
      refine' ⟨_, _, Ht.df_mk KX G ?a ?l ?c ?k (fun _ _ _ _ _ _ us hl => match us, hl with | [_], _ => rfl)⟩
      (case a => k_is); (case l => k_is); (case c => k_is); (case k => k_is)
    obtain his_lined : ∃ f fd, Ht.Df _ mg "is_lined" Ht.sIsLined ["thing"] f fd := by
      refine' ⟨_, _, Ht.df_mk KX G ?a ?l ?c ?k (fun _ _ _ _ _ _ us hl => match us, hl with | [_], _ => rfl)⟩
      (case a => k_is); (case l => k_is); (case c => k_is); (case k => k_is)
    obtain his_thing : ∃ f fd, Ht.Df _ mg "is_thing" Ht.sIsThing ["thing", "deepest"] f fd := by
      refine' ⟨_, _, Ht.df_mk KX G ?a ?l ?c ?k (fun _ _ _ _ _ _ us hl => match us, hl with | [_, _], _ => rfl)⟩
      (case a => k_is); (case l => k_is); (case c => k_is); (case k => k_is)
    obtain hpacked : ∃ f fd, Ht.Df _ mg "packed" Ht.sPackedP ["thing"] f fd := by
      refine' ⟨_, _, Ht.df_mk KX G ?a ?l ?c ?k (fun _ _ _ _ _ _ us hl => match us, hl with | [_], _ => rfl)⟩
      (case a => k_is); (case l => k_is); (case c => k_is); (case k => k_is)
    obtain h_text_of : ∃ f fd, Ht.Df _ mg "_text_of" Ht.sTextOf ["thing"] f fd := by
      refine' ⟨_, _, Ht.df_mk KX G ?a ?l ?c ?k (fun _ _ _ _ _ _ us hl => match us, hl with | [_], _ => rfl)⟩
      (case a => k_is); (case l => k_is); (case c => k_is); (case k => k_is)
    obtain hunpacked : ∃ f fd, Ht.Df _ mg "unpacked" Ht.sUnpacked ["text"] f fd := by
      refine' ⟨_, _, Ht.df_mk KX G ?a ?l ?c ?k (fun _ _ _ _ _ _ us hl => match us, hl with | [_], _ => rfl)⟩
      (case a => k_is); (case l => k_is); (case c => k_is); (case k => k_is)
    obtain h_read_thing : ∃ f fd, Ht.Df _ mg "_read_thing" Ht.sReadThing ["text", "place", "depth"] f fd := by
      refine' ⟨_, _, Ht.df_mk KX G ?a ?l ?c ?k (fun _ _ _ _ _ _ us hl => match us, hl with | [_, _, _], _ => rfl)⟩
      (case a => k_is); (case l => k_is); (case c => k_is); (case k => k_is)
    obtain h_read_tuple : ∃ f fd, Ht.Df _ mg "_read_tuple" Ht.sReadTuple ["text", "place", "depth"] f fd := by
      refine' ⟨_, _, Ht.df_mk KX G ?a ?l ?c ?k (fun _ _ _ _ _ _ us hl => match us, hl with | [_, _, _], _ => rfl)⟩
      (case a => k_is); (case l => k_is); (case c => k_is); (case k => k_is)
    obtain h_read_string : ∃ f fd, Ht.Df _ mg "_read_string" Ht.sReadStr ["text", "place"] f fd := by
      refine' ⟨_, _, Ht.df_mk KX G ?a ?l ?c ?k (fun _ _ _ _ _ _ us hl => match us, hl with | [_, _], _ => rfl)⟩
      (case a => k_is); (case l => k_is); (case c => k_is); (case k => k_is)
    obtain h_read_integer : ∃ f fd, Ht.Df _ mg "_read_integer" Ht.sReadInt ["text", "place"] f fd := by
      refine' ⟨_, _, Ht.df_mk KX G ?a ?l ?c ?k (fun _ _ _ _ _ _ us hl => match us, hl with | [_, _], _ => rfl)⟩
      (case a => k_is); (case l => k_is); (case c => k_is); (case k => k_is)
    obtain hcheck : ∃ f fd, Ht.Df _ mg "check" Ht.sCheck ["text"] f fd := by
      refine' ⟨_, _, Ht.df_mk KX G ?a ?l ?c ?k (fun _ _ _ _ _ _ us hl => match us, hl with | [_], _ => rfl)⟩
      (case a => k_is); (case l => k_is); (case c => k_is); (case k => k_is)
    obtain hcheck_behind : ∃ f fd, Ht.Df _ mg "check_behind" Ht.sCheckB ["number", "many", "text"] f fd := by
      refine' ⟨_, _, Ht.df_mk KX G ?a ?l ?c ?k (fun _ _ _ _ _ _ us hl => match us, hl with | [_, _, _], _ => rfl)⟩
      (case a => k_is); (case l => k_is); (case c => k_is); (case k => k_is)
    obtain hsealed : ∃ f fd, Ht.Df _ mg "sealed" Ht.sSealed ["thing"] f fd := by
      refine' ⟨_, _, Ht.df_mk KX G ?a ?l ?c ?k (fun _ _ _ _ _ _ us hl => match us, hl with | [_], _ => rfl)⟩
      (case a => k_is); (case l => k_is); (case c => k_is); (case k => k_is)
    obtain hunsealed : ∃ f fd, Ht.Df _ mg "unsealed" Ht.sUnsealed ["text"] f fd := by
      refine' ⟨_, _, Ht.df_mk KX G ?a ?l ?c ?k (fun _ _ _ _ _ _ us hl => match us, hl with | [_], _ => rfl)⟩
      (case a => k_is); (case l => k_is); (case c => k_is); (case k => k_is)
    obtain h_law_hand : ∃ f fd, Ht.Df _ mg "_law_hand" Ht.sHand ["script"] f fd := by
      refine' ⟨_, _, Ht.df_mk KX G ?a ?l ?c ?k (fun _ _ _ _ _ _ us hl => match us, hl with | [_], _ => rfl)⟩
      (case a => k_is); (case l => k_is); (case c => k_is); (case k => k_is)
    obtain h_law_draw : ∃ f fd, Ht.Df _ mg "_law_draw" Ht.sDraw ["hand", "many"] f fd := by
      refine' ⟨_, _, Ht.df_mk KX G ?a ?l ?c ?k (fun _ _ _ _ _ _ us hl => match us, hl with | [_, _], _ => rfl)⟩
      (case a => k_is); (case l => k_is); (case c => k_is); (case k => k_is)
    obtain h_law_any : ∃ f fd, Ht.Df _ mg "_law_any" Ht.sAny ["hand", "things"] f fd := by
      refine' ⟨_, _, Ht.df_mk KX G ?a ?l ?c ?k (fun _ _ _ _ _ _ us hl => match us, hl with | [_, _], _ => rfl)⟩
      (case a => k_is); (case l => k_is); (case c => k_is); (case k => k_is)
    obtain h_law_word : ∃ f fd, Ht.Df _ mg "_law_word" Ht.sWord ["hand"] f fd := by
      refine' ⟨_, _, Ht.df_mk KX G ?a ?l ?c ?k (fun _ _ _ _ _ _ us hl => match us, hl with | [_], _ => rfl)⟩
      (case a => k_is); (case l => k_is); (case c => k_is); (case k => k_is)
    obtain h_law_thing : ∃ f fd, Ht.Df _ mg "_law_thing" Ht.sThing ["hand", "deep"] f fd := by
      refine' ⟨_, _, Ht.df_mk KX G ?a ?l ?c ?k (fun _ _ _ _ _ _ us hl => match us, hl with | [_, _], _ => rfl)⟩
      (case a => k_is); (case l => k_is); (case c => k_is); (case k => k_is)
    obtain h_law_packed : ∃ f fd, Ht.Df _ mg "_law_packed" Ht.sPacked ["thing"] f fd := by
      refine' ⟨_, _, Ht.df_mk KX G ?a ?l ?c ?k (fun _ _ _ _ _ _ us hl => match us, hl with | [_], _ => rfl)⟩
      (case a => k_is); (case l => k_is); (case c => k_is); (case k => k_is)
    obtain h_law_check : ∃ f fd, Ht.Df _ mg "_law_check" Ht.lCheck ["text"] f fd := by
      refine' ⟨_, _, Ht.df_mk KX G ?a ?l ?c ?k (fun _ _ _ _ _ _ us hl => match us, hl with | [_], _ => rfl)⟩
      (case a => k_is); (case l => k_is); (case c => k_is); (case k => k_is)
    obtain h_law_sealed : ∃ f fd, Ht.Df _ mg "_law_sealed" Ht.lSealed ["thing"] f fd := by
      refine' ⟨_, _, Ht.df_mk KX G ?a ?l ?c ?k (fun _ _ _ _ _ _ us hl => match us, hl with | [_], _ => rfl)⟩
      (case a => k_is); (case l => k_is); (case c => k_is); (case k => k_is)
    obtain h_law_first_wrong : ∃ f fd, Ht.Df _ mg "_law_first_wrong" Ht.lFirst ["text", "at", "deep"] f fd := by
      refine' ⟨_, _, Ht.df_mk KX G ?a ?l ?c ?k (fun _ _ _ _ _ _ us hl => match us, hl with | [_, _, _], _ => rfl)⟩
      (case a => k_is); (case l => k_is); (case c => k_is); (case k => k_is)
    obtain h_law_read_string : ∃ f fd, Ht.Df _ mg "_law_read_string" Ht.lReadStr ["text", "at"] f fd := by
      refine' ⟨_, _, Ht.df_mk KX G ?a ?l ?c ?k (fun _ _ _ _ _ _ us hl => match us, hl with | [_, _], _ => rfl)⟩
      (case a => k_is); (case l => k_is); (case c => k_is); (case k => k_is)
    obtain h_law_read_integer : ∃ f fd, Ht.Df _ mg "_law_read_integer" Ht.lReadInt ["text", "at"] f fd := by
      refine' ⟨_, _, Ht.df_mk KX G ?a ?l ?c ?k (fun _ _ _ _ _ _ us hl => match us, hl with | [_, _], _ => rfl)⟩
      (case a => k_is); (case l => k_is); (case c => k_is); (case k => k_is)
    obtain h_law_read_tuple : ∃ f fd, Ht.Df _ mg "_law_read_tuple" Ht.lReadTup ["text", "at", "deep"] f fd := by
      refine' ⟨_, _, Ht.df_mk KX G ?a ?l ?c ?k (fun _ _ _ _ _ _ us hl => match us, hl with | [_, _, _], _ => rfl)⟩
      (case a => k_is); (case l => k_is); (case c => k_is); (case k => k_is)
    obtain h_law_unpacked : ∃ f fd, Ht.Df _ mg "_law_unpacked" Ht.lUnpacked ["text"] f fd := by
      refine' ⟨_, _, Ht.df_mk KX G ?a ?l ?c ?k (fun _ _ _ _ _ _ us hl => match us, hl with | [_], _ => rfl)⟩
      (case a => k_is); (case l => k_is); (case c => k_is); (case k => k_is)
    obtain h_law_changed : ∃ f fd, Ht.Df _ mg "_law_changed" Ht.lChanged ["hand", "text"] f fd := by
      refine' ⟨_, _, Ht.df_mk KX G ?a ?l ?c ?k (fun _ _ _ _ _ _ us hl => match us, hl with | [_, _], _ => rfl)⟩
      (case a => k_is); (case l => k_is); (case c => k_is); (case k => k_is)
    obtain h_law_deep : ∃ f fd, Ht.Df _ mg "_law_deep" Ht.lDeep ["hand"] f fd := by
      refine' ⟨_, _, Ht.df_mk KX G ?a ?l ?c ?k (fun _ _ _ _ _ _ us hl => match us, hl with | [_], _ => rfl)⟩
      (case a => k_is); (case l => k_is); (case c => k_is); (case k => k_is)
    obtain h_law_due : ∃ f fd, Ht.Df _ mg "_law_due" Ht.lDue ["text"] f fd := by
      refine' ⟨_, _, Ht.df_mk KX G ?a ?l ?c ?k (fun _ _ _ _ _ _ us hl => match us, hl with | [_], _ => rfl)⟩
      (case a => k_is); (case l => k_is); (case c => k_is); (case k => k_is)
    obtain h_law_is_none : ∃ f fd, Ht.Df _ mg "_law_is_none" Ht.sIsNone ["thing"] f fd := by
      refine' ⟨_, _, Ht.df_mk KX G ?a ?l ?c ?k (fun _ _ _ _ _ _ us hl => match us, hl with | [_], _ => rfl)⟩
      (case a => k_is); (case l => k_is); (case c => k_is); (case k => k_is)
    obtain eB : ∃ CB fI dI, Ht.Bx _ mg CB fI dI := by
      refine' Ht.bx_mk KX G ?aC ?xL ?rv ?sa ?ga ?gg ?nb ?a1 ?t1 ?l1 ?c1 ?kf ?kC ?eC ?tC ?hC ?iC ?sC
      (case aC => k_is); (case xL => k_is); (case rv => decide +kernel); (case sa => k_is); (case ga => k_is); (case gg => k_is); (case nb => k_is)
      (case a1 => k_is); (case t1 => k_is); (case l1 => k_is); (case c1 => k_is); (case kf => k_is)
      (case kC => k_is); (case eC => k_is); (case tC => k_is); (case hC => k_is); (case iC => k_is); (case sC => first | rfl | k_is)
    obtain eN : ∃ CN CH, Ht.Ec _ mg "NoText" CN ∧ L2.ExcC _ CN ∧ mg "HomeError" = some (.ref CH) ∧ PySem.W.kitOne _ (.ref CN) (.ref CH) = some true := by
      refine' Ht.en_mk KX G ?a ?xq ?k ?b ?t ?i ?s ?c1 ?c2 ?c4 ?c5 ?c6 ?c7 ?c8 ?aH ?kh
      (case a => k_is); (case xq => k_exc); (case k => k_is); (case b => k_is); (case t => k_is); (case i => k_is); (case s => first | rfl | k_is)
      (case c1 => k_is); (case c2 => k_is); (case c4 => k_is); (case c5 => k_is); (case c6 => k_is); (case c7 => k_is); (case c8 => k_is)
      (case aH => k_is); (case kh => first | k_is | rfl | decide +kernel)
    have nDG : ∃ t, mg "DIGITS" = some (.str "0123456789" t) := by
      refine' Ht.gs_mk KX G ?a
      (case a => k_is)
    have nMOST_DIGITS : ∃ t, mg "MOST_DIGITS" = some (.int 30 t) := by
      refine' Ht.gi_mk KX G ?a
      (case a => k_is)
    have nDEEPEST : ∃ t, mg "DEEPEST" = some (.int 30 t) := by
      refine' Ht.gi_mk KX G ?a
      (case a => k_is)
    have nBOUND : ∃ t, mg "BOUND" = some (.int (10 ^ 30) t) := by
      refine' Ht.gi_mk KX G ?a
      (case a => k_is)
    have nCHECK_PRIME : ∃ t, mg "CHECK_PRIME" = some (.int 99991 t) := by
      refine' Ht.gi_mk KX G ?a
      (case a => k_is)
    have b_int : mg "int" = none := by
      refine' Ht.gn_mk KX G ?a
      (case a => k_is)
    have b_len : mg "len" = none := by
      refine' Ht.gn_mk KX G ?a
      (case a => k_is)
    have b_range : mg "range" = none := by
      refine' Ht.gn_mk KX G ?a
      (case a => k_is)
    have b_all : mg "all" = none := by
      refine' Ht.gn_mk KX G ?a
      (case a => k_is)
    have b_isinstance : mg "isinstance" = none := by
      refine' Ht.gn_mk KX G ?a
      (case a => k_is)
    have b_tuple : mg "tuple" = none := by
      refine' Ht.gn_mk KX G ?a
      (case a => k_is)
    have b_list : mg "list" = none := by
      refine' Ht.gn_mk KX G ?a
      (case a => k_is)
    have b_str : mg "str" = none := by
      refine' Ht.gn_mk KX G ?a
      (case a => k_is)
    have b_max : mg "max" = none := by
      refine' Ht.gn_mk KX G ?a
      (case a => k_is)
    have b_bool : mg "bool" = none := by
      refine' Ht.gn_mk KX G ?a
      (case a => k_is)
    have b_abs : mg "abs" = none := by
      refine' Ht.gn_mk KX G ?a
      (case a => k_is)
    have b_ord : mg "ord" = none := by
      refine' Ht.gn_mk KX G ?a
      (case a => k_is)
    have b_sum : mg "sum" = none := by
      refine' Ht.gn_mk KX G ?a
      (case a => k_is)
    have b_enumerate : mg "enumerate" = none := by
      refine' Ht.gn_mk KX G ?a
      (case a => k_is)
    have B : Ht.Bt mg := ⟨b_int, b_len, b_range, b_all, b_isinstance, b_tuple, b_list, b_str, b_max, b_bool, b_abs⟩
    refine' Ht.law_mk KX G hmg ?a ?l ?c ?k ⟨B, ⟨b_ord, b_sum, b_enumerate⟩, ⟨nDG, nMOST_DIGITS, nDEEPEST, nBOUND⟩, nCHECK_PRIME, eB, eN, his_integer, his_signs, his_lined, his_thing, hpacked, h_text_of, hunpacked, h_read_thing, h_read_tuple, h_read_string, h_read_integer, hcheck, hcheck_behind, hsealed, hunsealed, h_law_hand, h_law_draw, h_law_any, h_law_word, h_law_thing, h_law_packed, h_law_check, h_law_sealed, h_law_first_wrong, h_law_read_string, h_law_read_integer, h_law_read_tuple, h_law_unpacked, h_law_changed, h_law_deep, h_law_due, h_law_is_none⟩
    (case a => k_is); (case l => k_is); (case c => k_is); (case k => k_is)
