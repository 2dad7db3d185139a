import PyProof.Rows.All
import Wide.All
import OpenK.AllK
import Wide.FinOn
import HandS.ForMost
import HandS.Exc
import HandS.ExcOwn
import HandS.ExcValue
import HandS.IsInst
import PyProof.ReprReads
import PyProof.ReprRoads
import PyProof.ExcRepr
import KE.KExcStr
import HandS.ExcIs
import HandS.Evl
import HandS.TryMany
import HandS.WordsExc
import HandS.Small
import HandS.TupAny
import HandS.Walk
import HandS.Deep
import HandS.Wide
import HandS.Steps
import HandS.CallLocal
import KE.KStrOpen
import PyProof.ReprLen
import PyProof.FitsInt
import PyProof.StrLawsRepr
import PySem.Challenge.RW_homeshold_k01_forms_judged_and_majoritie
set_option Elab.async false
set_option linter.all false
set_option maxRecDepth 100000
namespace PySem
open Sem (wp)
open Builtin Builtin.Str Builtin.BaseException Builtin.Exceptions
open PySem.W (Looks Frag findIn subIn looks_findIn looks_subIn)
section
variable {prog : Program} {w : World} {K : Frag} {C e t0 : Addr} {h₀ : Heap}
/-- an exception of the class C without arguments -/
def HxExc (C e t0 : Addr) (h : Heap) : Prop := (∃ o vs, h.get? e = some o ∧ o.cls = .ref C ∧ o.data = .fields vs ∧ vs[0]? = some (.ref t0) ∧ o.dict = none) ∧ ∃ o n, h.get? t0 = some o ∧ o.cls = .type "tuple" ∧ o.data = .seq #[] n
theorem HxExc.mono {h h' : Heap} (x : HxExc C e t0 h) (k : ∀ b o, h.get? b = some o → h'.get? b = some o) : HxExc C e t0 h' := by
  obtain ⟨⟨o, vs, h1, h2⟩, o', n, h3, h4⟩ := x
  exact ⟨⟨o, vs, k _ _ h1, h2⟩, o', n, k _ _ h3, h4⟩
/-- the class's name -/
def HxName (K : Frag) (C : Addr) (nm : Str) : Prop := ∃ o cd, K.lookup C = some o ∧ o.data = .cls cd ∧ Str.ofString ((cd.name.toString.cutAt '.').getLastD "") = nm
theorem hx_typeName {M : Model} {A : Around} {E : Value → Shared → Prop} {s : Shared} {nm : Str} {Q : String → Shared → Prop} (X : K.In s.heap) (x : HxExc C e t0 s.heap) (n : HxName K C nm) (hq : ∀ z : String, Str.ofString ((z.cutAt '.').getLastD "") = nm → Q z s) : wpAny M A (typeNameOfWhole (.ref e)) Q E s := by
  obtain ⟨⟨o, vs, h1, h2, _⟩, _⟩ := x
  obtain ⟨oc, cd, hc, hd, hn⟩ := n
  have ty : ∀ {Q : Value → Shared → Prop}, Q (.ref C) s → wpAny M A (typeOf (.ref e)) Q E s := fun q => wpAny_typeOf_ref h1 (by rw [h2]; exact q)
  unfold typeNameOfWhole shownTypeOf
  refine wpAny_bind (wpAny_bind (ty ?_))
  have e1 : ((Value.ref C == Value.type "builtin_function_or_method") = true) = False := by simp
  rw [if_neg (by rw [e1]; exact id)]
  refine wpAny_pure ?_
  unfold typeNameWhole classData
  refine wpAny_bind (wpAny_bind (wpAny_load (X C oc hc) ?_))
  rw [hd]
  exact wpAny_pure (wpAny_pure (hq _ hn))
/-- where the class's repr is the base's -/
structure HxRepr (K : Frag) (C : Addr) (nm : Str) : Prop where
  name : HxName K C nm
  find : findIn K (.ref C) "__repr__" = some (some (.builtin "BaseException.__repr__"))
  sub : subIn K (.ref C) (.type "BaseException") = some true
theorem hx_looks {M : Model} {h : Heap} (x : HxExc C e t0 h) : Looks M h (typeOf (.ref e)) (.ref C) := fun A Q E s k q => by
  obtain ⟨⟨o, vs, ho, hc, _⟩, _⟩ := x
  exact wpAny_typeOf_ref (k _ _ ho) (by rw [hc]; exact q)
theorem hx_tuple (x : HxExc C e t0 h₀) : ReprK prog w [t0] h₀ 1 (.ref t0) "()" := by
  obtain ⟨_, o, n, h1, h2, h3⟩ := x
  exact ReprK.tuple (ts := []) (as := []) (d := 0) h1 h2 h3 (by simp) .nil
theorem bexcArgs_T {M : Model} {A : Around} {E : Value → Shared → Prop} {s : Shared} {items : List Value} {Q : Value × List Value → Shared → Prop} (x : ∃ o vs, s.heap.get? e = some o ∧ o.data = .fields vs ∧ vs[0]? = some (.ref t0)) (ht : s.heap.TupAt t0 items) (hq : Q (.ref t0, items) s) :
    wpAny M A (bexcArgs (.ref e)) Q E s := by
  obtain ⟨o, vs, ho, hd, h0⟩ := x
  obtain ⟨ot, k, hto, _, htd⟩ := ht
  unfold bexcArgs
  refine wpAny_bind (wpAny_field ho hd h0 (wpAny_bind (wpAny_seqItems hto htd ?_)))
  have : items.toArray.toList = items := by simp
  show wpAny M A (pure (Value.ref t0, items.toArray.toList)) Q E s
  rw [this]; exact wpAny_pure hq
/-- the body of the base's repr -/
theorem hx_body {A : Around} {g : List Code} {E : Value → Shared → Prop} {s : Shared} {nm : Str} {base : Nat} {Q : Fin → Shared → Prop} (X : K.In h₀) (x : HxExc C e t0 h₀) (R : HxRepr K C nm) (hb : base + (nm ++ "()").length ≤ sizeLine)
    (hg : A.guards = some g) (hcl : Clear g t0) (hu : A.units + 1 < cLine) (hk : ∀ b o, h₀.get? b = some o → s.heap.get? b = some o)
    (hQ : ∀ h' u tk, (∀ b o, s.heap.get? b = some o → h'.get? b = some o) → Q (.done (.ret (.str (nm ++ "()") u))) { s with heap := h', toks := tk }) :
    wpAny (model prog w) A (Builtin.bexcReprAt base ⟨[.ref e], []⟩) Q E s := by
  have xs : HxExc C e t0 s.heap := x.mono hk
  obtain ⟨⟨o, vs, h1, h2, h3, h4, _⟩, ot, n, g1, g2, g3⟩ := id xs
  have e2 : (nm ++ "()").length = nm.length + 2 := by
    rw [strLen_append]
    rfl
  unfold Builtin.bexcReprAt
  repeat (first | with_reducible refine hx_typeName (fun a o q => hk _ _ (X a o q)) xs R.name (fun z hz => ?_) | wp_step)
  rw [h2]
  obtain ⟨oc, cd, hc, hd, hn⟩ := R.name
  show wpAny _ _ (do let c ← classData C; pure c.name.toString) _ _ _
  unfold classData
  refine wpAny_bind (wpAny_bind (wpAny_load (hk _ _ (X C oc hc)) ?_))
  rw [hd]
  refine wpAny_pure (wpAny_pure ?_)
  dsimp only
  rw [hn]
  refine wpAny_bind (bexcArgs_T (items := []) ⟨o, vs, h1, h3, h4⟩ ⟨ot, n, g1, g2, g3⟩ ?_)
  dsimp only
  refine wpAny_bind (hx_tuple x (base + nm.length) (by have : ("()" : Str).length = 2 := rfl; omega) A g E s _ hg (fun b hb => by rw [List.mem_singleton.mp hb]; exact hcl) (by omega) hk fun h' tk hk' => ?_)
  refine wpAny_bind (wpAny_mkStr (x := nm ++ ("()" : Str)) (wpAny_pure ?_) (by omega))
  exact hQ h' _ _ hk'
theorem hx_by {A : Around} {E : Value → Shared → Prop} {s : Shared} {last : Value → List Value → Sem Value} {Q : Option Value → Shared → Prop}
    (sp : ∀ {A : Around} {E : Value → Shared → Prop} {Q : Option Value → Shared → Prop}, Q (some (.builtin "BaseException.__repr__")) s → wpAny (model prog w) A (specialOf (.ref e) (Str.ofString "__repr__")) Q E s)
    (hc : wpAny (model prog w) A (last (.builtin "BaseException.__repr__") [.ref e]) (fun v => Q (some v)) E s) : wpAny (model prog w) A (callSpecialIfBoundBy? last (.ref e) (Str.ofString "__repr__")) Q E s := by
  simp only [callSpecialIfBoundBy?, bindSpecialIfBound?]
  refine wpAny_holding (wpAny_bind (wpAny_bind (sp ?_)))
  simp only [F.excStr_Exception.repr.bind]
  refine wpAny_bind (wpAny_askSetting (wpAny_ite ?_))
  have fin : wpAny (model prog w) A (last (.builtin "BaseException.__repr__") [.ref e] >>= fun v => pure (some v)) Q E s :=
    wpAny_bind (wpAny_mono hc (fun v s' h' => wpAny_pure h') fun _ _ h' => h')
  split
  · exact wpAny_bind (wpAny_pure (wpAny_pure fin))
  · exact wpAny_tryCatch (wpAny_bind (wpAny_pure (wpAny_pure fin)))
theorem hx_bound {A : Around} {E : Value → Shared → Prop} {s : Shared} {Q : Option Value → Shared → Prop}
    (sp : ∀ {A : Around} {E : Value → Shared → Prop} {Q : Option Value → Shared → Prop}, Q (some (.builtin "BaseException.__repr__")) s → wpAny (model prog w) A (specialOf (.ref e) (Str.ofString "__repr__")) Q E s)
    (hc : wpAny (model prog w) A (call (.builtin "BaseException.__repr__") [.ref e]) (fun v => Q (some v)) E s) : wpAny (model prog w) A (callSpecialIfBound? (.ref e) (Str.ofString "__repr__")) Q E s := by
  simp only [callSpecialIfBound?, bindSpecialIfBound?]
  refine wpAny_holding (wpAny_bind (wpAny_bind (sp ?_)))
  simp only [F.excStr_Exception.repr.bind]
  refine wpAny_bind (wpAny_askSetting (wpAny_ite ?_))
  have fin : wpAny (model prog w) A (call (.builtin "BaseException.__repr__") ([.ref e] ++ []) >>= fun v => pure (some v)) Q E s :=
    wpAny_bind (wpAny_mono hc (fun v s' h' => wpAny_pure h') fun _ _ h' => h')
  split
  · exact wpAny_bind (wpAny_pure (wpAny_pure fin))
  · exact wpAny_tryCatch (wpAny_bind (wpAny_pure (wpAny_pure fin)))
/-- repr of such an exception, within another repr -/
theorem hx_repr {nm : Str} (X : K.In h₀) (x : HxExc C e t0 h₀) (R : HxRepr K C nm) (hne : ∀ b ∈ ([] : List Addr), b ≠ e) : ReprK prog w [e, t0] h₀ 3 (.ref e) (nm ++ "()") := by
  intro base hb A g E s Q hg hcl hu hk0 hQ
  have xs := x.mono hk0
  have hf : Looks (model prog w) s.heap (typeLookup (.ref C) (Str.ofString "__repr__")) (some (.builtin "BaseException.__repr__")) := looks_findIn (fun a o q => hk0 _ _ (X a o q)) R.find
  have hi : Looks (model prog w) s.heap (isInstance (.ref e) (.type "BaseException")) true := (hx_looks xs).andThen (looks_subIn (fun a o q => hk0 _ _ (X a o q)) R.sub)
  refine wpAny_pyReprUnder_ref (by omega) ?_
  unfold pyReprObjUnder pyReprObjBy
  refine wpAny_bind (wpAny_cRoomFor (by omega) ?_)
  have sp : ∀ {A : Around} {E : Value → Shared → Prop} {Q : Option Value → Shared → Prop}, Q (some (.builtin "BaseException.__repr__")) s → wpAny (model prog w) A (specialOf (.ref e) (Str.ofString "__repr__")) Q E s := fun q => by
    unfold specialOf
    exact wpAny_bind ((hx_looks xs).here (hf.here q))
  refine wpAny_bind (sp ?_)
  refine wpAny_bind (hx_by sp ?_)
  show wpAny (model prog w) A (call (.builtin "BaseException.__repr__.under") [.ref e, rawInt base]) _ _ _
  refine wpAny_call (codeAny_call_builtin F.plain_bexc_repr_under F.entry_bexc_repr_under ?_)
  rw [F.check_bexc_repr_under]
  refine wpAny_pure ?_
  unfold Builtin.«BaseException.__repr__.under»
  rw [reprTwin_eq]
  refine wpAny_bind (@PySem.W.check_slot (model prog w) _ _ s "BaseException.__repr__" "BaseException" "__repr__" (.ref e) [] [] _ (by decide +kernel) (by decide +kernel) hi (F.args_bexc_repr _) ?_)
  refine hx_body X x R hb (g := g) hg (hcl t0 (by simp)) (by show A.units + 1 + 1 < cLine; omega) hk0 fun h' u tk hk => ?_
  exact wpAny_bind (wpAny_isInstance (T := "str") (b := true) rfl isSubtype_str_str (wpAny_pure ⟨_, _, rfl, hQ h' tk hk⟩))
/-- repr of such an exception by itself -/
theorem hx_reprTop {nm : Str} {A : Around} {E : Value → Shared → Prop} {s : Shared} {Q : Value → Shared → Prop} (X : K.In s.heap) (x : HxExc C e t0 s.heap) (R : HxRepr K C nm) (hb : (nm ++ "()").length ≤ sizeLine) (hg : A.guards = some []) (hu : A.units + 4 < cLine)
    (hQ : ∀ h' u tk, (∀ b o, s.heap.get? b = some o → h'.get? b = some o) → Q (.str (nm ++ "()") u) { s with heap := h', toks := tk }) : wpAny (model prog w) A (call (.builtin "repr") [.ref e]) Q E s := by
  have hf : Looks (model prog w) s.heap (typeLookup (.ref C) (Str.ofString "__repr__")) (some (.builtin "BaseException.__repr__")) := looks_findIn X R.find
  have hi : Looks (model prog w) s.heap (isInstance (.ref e) (.type "BaseException")) true := (hx_looks x).andThen (looks_subIn X R.sub)
  have sp : ∀ {A : Around} {E : Value → Shared → Prop} {Q : Option Value → Shared → Prop}, Q (some (.builtin "BaseException.__repr__")) s → wpAny (model prog w) A (specialOf (.ref e) (Str.ofString "__repr__")) Q E s := fun q => by
    unfold specialOf
    exact wpAny_bind ((hx_looks x).here (hf.here q))
  refine Calls.call_function_entry F.kind_repr F.plain_repr F.entry_repr (F.args_repr1 _) ?_
  unfold Builtin.«repr»
  refine wpAny_bind (m := oneArg "repr" _) (wpAny_pure ?_)
  refine wpAny_bind (m := cRoomFor _ _) (wpAny_cRoomFor (by show A.units + 1 < cLine; omega) ?_)
  refine wpAny_bind (sp ?_)
  refine wpAny_bind (m := callSpecialIfBound? (.ref e) (Str.ofString "__repr__")) (hx_bound sp ?_)
  refine wpAny_call (codeAny_call_builtin F.excStr_Exception.repr.plain F.entry_bexc_repr ?_)
  refine @PySem.W.check_slot (model prog w) _ _ s "BaseException.__repr__" "BaseException" "__repr__" (.ref e) [] [] _ (by decide +kernel) (by decide +kernel) hi (F.args_bexc_repr _) ?_
  refine hx_body (base := 0) X x R (by rw [Nat.zero_add]; exact hb) (g := []) hg (Clear.nil t0) (by show A.units + 1 + 1 + 1 < cLine; omega) (fun _ _ q => q) fun h' u tk hk => ?_
  exact wpAny_bind (wpAny_isInstance (T := "str") (b := true) rfl isSubtype_str_str (wpAny_pure ⟨_, rfl, hQ h' u tk hk⟩))
end
end PySem
/-! any value of the law's: what it is as data, where it stands, its repr -/
namespace Hu
open PySem PySem.Spec PyProof.Rows L2
/-- data: dct us is {'a': [us], 1: None}, exc an error of the one class -/
inductive U where
  | non | bl (b : Bool) | int (i : Int) | str (z : Str) | tup (us : List U) | lst (us : List U) | dct (us : List U) | exc
/-- an error of the class C as it stands at a, its arguments at t -/
def ExN (C t a : Addr) : HO := .ext fun h => ∃ o vs, h.get? a = some o ∧ o.cls = .ref C ∧ o.data = .fields vs ∧ vs[0]? = some (.ref t) ∧ o.dict = none
mutual
/-- the value v is the data u; all that it stands in is tracked, and isn't w -/
inductive At (w C : Addr) (H : Hp) : V → U → Prop
  | non : At w C H .non .non
  | bl (b : Bool) : At w C H (.bl b) (.bl b)
  | int (i : Int) : At w C H (.int i) (.int i)
  | str (z : Str) : At w C H (.str z) (.str z)
  | tup {a : Addr} {xs : List V} {us : List U} : H a = some (.tup xs) → a ≠ w → AtL w C H xs us → At w C H (.ref a) (.tup us)
  | lst {a : Addr} {xs : List V} {us : List U} : H a = some (.lst xs) → a ≠ w → AtL w C H xs us → At w C H (.ref a) (.lst us)
  | dct {a b : Addr} {xs : List V} {us : List U} : H a = some (.dK [(.inr "a", .ref b), (.inl 1, .non)]) → a ≠ w → H b = some (.lst xs) → b ≠ w → AtL w C H xs us → At w C H (.ref a) (.dct us)
  | exc {a t : Addr} : H a = some (ExN C t a) → a ≠ w → H t = some (.tup []) → t ≠ w → At w C H (.ref a) .exc
inductive AtL (w C : Addr) (H : Hp) : List V → List U → Prop
  | nil : AtL w C H [] []
  | cons {v : V} {u : U} {vs : List V} {us : List U} : At w C H v u → AtL w C H vs us → AtL w C H (v :: vs) (u :: us)
end
section
variable {w C : Addr} {H H' : Hp}
mutual
theorem At.keep (k : ∀ b o, b ≠ w → H b = some o → H' b = some o) : ∀ {u : U} {v : V}, At w C H v u → At w C H' v u
  | _, _, .non => .non
  | _, _, .bl b => .bl b
  | _, _, .int i => .int i
  | _, _, .str z => .str z
  | _, _, .tup h n l => .tup (k _ _ n h) n (AtL.keep k l)
  | _, _, .lst h n l => .lst (k _ _ n h) n (AtL.keep k l)
  | _, _, .dct h n h2 n2 l => .dct (k _ _ n h) n (k _ _ n2 h2) n2 (AtL.keep k l)
  | _, _, .exc h n h2 n2 => .exc (k _ _ n h) n (k _ _ n2 h2) n2
theorem AtL.keep (k : ∀ b o, b ≠ w → H b = some o → H' b = some o) : ∀ {us : List U} {vs : List V}, AtL w C H vs us → AtL w C H' vs us
  | _, _, .nil => .nil
  | _, _, .cons x l => .cons (x.keep k) (AtL.keep k l)
end
theorem key_ne : ([((.inr "a" : Key), V.ref 0)] : List (Key × V)) ≠ [] := fun e => by cases e
mutual
theorem At.one : ∀ {u u' : U} {v : V}, At w C H v u → At w C H v u' → u = u'
  | _, _, _, .non, y => by cases y; rfl
  | _, _, _, .bl b, y => by cases y; rfl
  | _, _, _, .int i, y => by cases y; rfl
  | _, _, _, .str z, y => by cases y; rfl
  | _, _, _, .tup h n l, y => by
    cases y with
    | tup h' _ l' => rw [h] at h'; cases h'; rw [AtL.one l l']
    | lst h' _ _ => rw [h] at h'; cases h'
    | dct h' _ _ _ _ => rw [h] at h'; cases h'
    | exc h' _ _ _ => rw [h] at h'; cases h'
  | _, _, _, .lst h n l, y => by
    cases y with
    | tup h' _ l' => rw [h] at h'; cases h'
    | lst h' _ l' => rw [h] at h'; cases h'; rw [AtL.one l l']
    | dct h' _ _ _ _ => rw [h] at h'; cases h'
    | exc h' _ _ _ => rw [h] at h'; cases h'
  | _, _, _, .dct h n h2 n2 l, y => by
    cases y with
    | tup h' _ l' => rw [h] at h'; cases h'
    | lst h' _ l' => rw [h] at h'; cases h'
    | dct h' _ h2' _ l' =>
      rw [h] at h'
      cases h'
      rw [h2] at h2'
      cases h2'
      rw [AtL.one l l']
    | exc h' _ _ _ => rw [h] at h'; cases h'
  | _, _, _, .exc h n _ _, y => by
    cases y with
    | tup h' _ l' => rw [h] at h'; cases h'
    | lst h' _ l' => rw [h] at h'; cases h'
    | dct h' _ _ _ _ => rw [h] at h'; cases h'
    | exc h' _ _ _ => rfl
theorem AtL.one : ∀ {us us' : List U} {vs : List V}, AtL w C H vs us → AtL w C H vs us' → us = us'
  | _, _, _, .nil, y => by cases y; rfl
  | _, _, _, .cons x l, y => by
    cases y with
    | cons x' l' => rw [At.one x x', AtL.one l l']
end
theorem AtL.length : ∀ {us : List U} {vs : List V}, AtL w C H vs us → vs.length = us.length
  | _, _, .nil => rfl
  | _, _, .cons x l => by rw [List.length_cons, List.length_cons, AtL.length l]
theorem AtL.get : ∀ {us : List U} {vs : List V} {i : Nat} {u : U}, AtL w C H vs us → us[i]? = some u → ∃ v, vs[i]? = some v ∧ At w C H v u
  | _, _, _, _, .nil, e => by simp at e
  | _, _, 0, _, .cons x l, e => by
    have := Option.some.inj e
    subst this
    exact ⟨_, rfl, x⟩
  | _, _, i + 1, _, .cons x l, e => AtL.get (i := i) l e
theorem AtL.append : ∀ {us us' : List U} {vs vs' : List V}, AtL w C H vs us → AtL w C H vs' us' → AtL w C H (vs ++ vs') (us ++ us')
  | _, _, _, _, .nil, y => y
  | _, _, _, _, .cons x l, y => .cons x (AtL.append l y)
theorem AtL.take : ∀ {us : List U} {vs : List V} (n : Nat), AtL w C H vs us → AtL w C H (vs.take n) (us.take n)
  | _, _, 0, _ => .nil
  | _, _, _ + 1, .nil => .nil
  | _, _, n + 1, .cons x l => .cons x (AtL.take n l)
theorem AtL.drop : ∀ {us : List U} {vs : List V} (n : Nat), AtL w C H vs us → AtL w C H (vs.drop n) (us.drop n)
  | _, _, 0, l => l
  | _, _, _ + 1, .nil => .nil
  | _, _, n + 1, .cons x l => AtL.drop n l
end
/-! ### its repr -/
mutual
def shown (nm : Str) : U → Str
  | .non => "None"
  | .bl b => if b then "True" else "False"
  | .int i => toString i
  | .str z => reprText z
  | .tup us => tupleText (shownL nm us)
  | .lst us => listText (shownL nm us)
  | .dct us => dictText [reprText "a" ++ ": " ++ listText (shownL nm us), (toString (1 : Int) : Str) ++ ": " ++ "None"]
  | .exc => nm ++ "()"
def shownL (nm : Str) : List U → List Str
  | [] => []
  | u :: us => shown nm u :: shownL nm us
end
mutual
def dep : U → Nat
  | .tup us | .lst us => depL us + 1
  | .dct us => depL us + 2
  | .exc => 3
  | _ => 0
def depL : List U → Nat
  | [] => 0
  | u :: us => max (dep u) (depL us)
end
mutual
/-- all its integers are small -/
def smallU : U → Prop
  | .int i => i.natAbs.log2 < 1920
  | .tup us | .lst us | .dct us => smallL us
  | _ => True
def smallL : List U → Prop
  | [] => True
  | u :: us => smallU u ∧ smallL us
end
end Hu
namespace Hu
open PySem PySem.Spec PyProof.Rows L2
section
variable {P : Program} {wd : World} {K : PySem.W.Frag} {w C : Addr} {H : Hp} {h₀ : Heap} {nm : Str}
/-- an empty tuple -/
def Emp (h : Heap) (b : Addr) : Prop := ∃ o m, h.get? b = some o ∧ o.cls = .type "tuple" ∧ o.data = .seq #[] m
def Inn (w C : Addr) (H : Hp) (h : Heap) (n : Nat) (bs : List Addr) : Prop := ∀ b ∈ bs, (∃ u, At w C H (.ref b) u ∧ dep u ≤ n) ∨ Emp h b
theorem Inn.mono {n m : Nat} {bs : List Addr} (x : Inn w C H h₀ n bs) (l : n ≤ m) : Inn w C H h₀ m bs := fun b hb => by
  rcases x b hb with ⟨u, a, d⟩ | e
  · exact .inl ⟨u, a, Nat.le_trans d l⟩
  · exact .inr e
theorem Inn.append {n : Nat} {bs cs : List Addr} (x : Inn w C H h₀ n bs) (y : Inn w C H h₀ n cs) : Inn w C H h₀ n (bs ++ cs) := fun b hb =>
  (List.mem_append.mp hb).elim (x b) (y b)
theorem Inn.not_mem {n : Nat} {bs : List Addr} {a : Addr} {u : U} (x : Inn w C H h₀ n bs) (y : At w C H (.ref a) u) (l : n < dep u) (e : ¬ Emp h₀ a) : a ∉ bs := fun hm => by
  rcases x a hm with ⟨u', y', l'⟩ | q
  · have := y.one y'
    subst this
    omega
  · exact e q
theorem Inn.cons {n : Nat} {bs : List Addr} {a : Addr} {u : U} (x : Inn w C H h₀ n bs) (y : At w C H (.ref a) u) (l : n ≤ dep u) : Inn w C H h₀ (dep u) (a :: bs) := fun b hb => by
  rcases List.mem_cons.mp hb with e | hb
  · subst e
    exact .inl ⟨u, y, Nat.le_refl _⟩
  · exact (x.mono l) b hb
theorem shownL_mem {us : List U} {t : Str} (h : t ∈ shownL nm us) : ∃ u ∈ us, t = shown nm u := by
  induction us with
  | nil => simp [shownL] at h
  | cons u us ih =>
    rw [shownL] at h
    rcases List.mem_cons.mp h with e | h
    · exact ⟨u, List.mem_cons_self, e⟩
    · obtain ⟨x, hx, e⟩ := ih h
      exact ⟨x, List.mem_cons_of_mem _ hx, e⟩
/-- the repr of a list of items within a list object at b -/
theorem list_reprs {b : Addr} {xs : List V} {its : List Value} {us : List U} {bs : List Addr} {n d : Nat} (hb : h₀.get? b = some { cls := .type "list", data := .seq its.toArray n }) (hna : b ∉ bs)
    (hk : ReprAllK P wd bs h₀ d its (shownL nm us)) : ReprK P wd (b :: bs) h₀ (d + 1) (.ref b) (listText (shownL nm us)) := by
  cases its with
  | nil =>
    cases us with
    | nil =>
      show ReprK P wd (b :: bs) h₀ (d + 1) (.ref b) (listText [])
      rw [listText_nil]
      exact ReprK.listEmpty hb rfl rfl
    | cons u us => rw [shownL] at hk; cases hk
  | cons x l => exact ReprK.list hb rfl rfl hna (by simpa using hk.length_eq) (fun i y e => hk.item i y (by simpa using e))
theorem rep_tup (ok : HOk P wd H h₀) {a : Addr} {xs : List V} {us : List U} (h : H a = some (.tup xs)) (n : a ≠ w) (l : AtL w C H xs us)
    (rec : ∀ its, Vals xs its → ∃ bs, Inn w C H h₀ (depL us) bs ∧ ReprAllK P wd bs h₀ (depL us) its (shownL nm us)) :
    ∃ bs, Inn w C H h₀ (dep (.tup us)) bs ∧ ReprK P wd bs h₀ (dep (.tup us)) (.ref a) (shown nm (.tup us)) := by
  obtain ⟨_, its, rv, o, h1, h2, m, h3⟩ := ok a _ h
  obtain ⟨bs, hb, hk⟩ := rec its rv
  have y : At w C H (.ref a) (.tup us) := .tup h n l
  have hd : depL us < dep (.tup us) := by simp only [dep]; omega
  by_cases e : its = []
  · subst e
    have hl := rv.length
    have hu := AtL.length l
    have ex : us = [] := List.length_eq_zero_iff.mp (by rw [← hu, hl]; rfl)
    subst ex
    refine ⟨[a], fun b hb => .inl ⟨_, by rw [List.mem_singleton.mp hb]; exact y, Nat.le_refl _⟩, ?_⟩
    simp only [shown, dep]
    exact ReprK.tuple (as := []) h1 h2 h3 (by simp) (by rw [shownL]; exact .nil)
  · have hna : a ∉ bs := hb.not_mem y hd fun ⟨o', m', q1, q2, q3⟩ => by
      rw [h1] at q1
      cases q1
      rw [h3] at q3
      injection q3 with q3 _
      exact e (by simpa using congrArg Array.toList q3)
    refine ⟨a :: bs, hb.cons y (Nat.le_of_lt hd), ?_⟩
    simp only [shown, dep]
    exact ReprK.tuple h1 h2 h3 hna (by simpa using hk)
theorem rep_lst (ok : HOk P wd H h₀) {a : Addr} {xs : List V} {us : List U} (h : H a = some (.lst xs)) (n : a ≠ w) (l : AtL w C H xs us)
    (rec : ∀ its, Vals xs its → ∃ bs, Inn w C H h₀ (depL us) bs ∧ ReprAllK P wd bs h₀ (depL us) its (shownL nm us)) :
    ∃ bs, Inn w C H h₀ (dep (.lst us)) bs ∧ ReprK P wd bs h₀ (dep (.lst us)) (.ref a) (shown nm (.lst us)) := by
  obtain ⟨_, its, m, rv, h1⟩ := ok a _ h
  obtain ⟨bs, hb, hk⟩ := rec its rv
  have y : At w C H (.ref a) (.lst us) := .lst h n l
  have hd : depL us < dep (.lst us) := by simp only [dep]; omega
  have hna : a ∉ bs := hb.not_mem y hd fun ⟨o', m', q1, q2, q3⟩ => by
    rw [h1] at q1
    cases q1
    simp at q2
  refine ⟨a :: bs, hb.cons y (Nat.le_of_lt hd), ?_⟩
  simp only [shown, dep]
  exact list_reprs (xs := []) h1 hna hk
theorem pairs2 {el : List DictEntry} {k1 k2 : Key} {x1 x2 : Value} (g : Pairs (mixKind P wd) el [(k1, x1), (k2, x2)]) : ∃ e1 e2 : DictEntry, el = [e1, e2] ∧ keyIs k1 e1.key = true ∧ e1.val = x1 ∧ keyIs k2 e2.key = true ∧ e2.val = x2 := by
  cases g with
  | cons a1 b1 g =>
    cases g with
    | cons a2 b2 g =>
      cases g
      exact ⟨_, _, rfl, a1, b1, a2, b2⟩
theorem kv2 {k1 k2 : Key} {v1 v2 : V} {vs : List (Key × Value)} (kv : KV [(k1, v1), (k2, v2)] vs) : ∃ x1 x2, vs = [(k1, x1), (k2, x2)] ∧ RelV v1 x1 ∧ RelV v2 x2 := by
  cases kv with
  | @cons _ q1 _ _ r1 kv =>
    cases kv with
    | @cons _ q2 _ _ r2 kv =>
      cases kv
      obtain ⟨a1, b1⟩ := q1
      obtain ⟨a2, b2⟩ := q2
      obtain ⟨e1, r1⟩ := r1
      obtain ⟨e2, r2⟩ := r2
      cases e1
      cases e2
      exact ⟨_, _, rfl, r1, r2⟩
theorem dct_parts (ok : HOk P wd H h₀) {a b : Addr} {xs : List V} {us : List U} (h : H a = some (.dK [(.inr "a", .ref b), (.inl 1, .non)])) (n : a ≠ w) (h2 : H b = some (.lst xs)) (n2 : b ≠ w) (l : AtL w C H xs us)
    (rec : ∀ its, Vals xs its → ∃ bs, Inn w C H h₀ (depL us) bs ∧ ReprAllK P wd bs h₀ (depL us) its (shownL nm us)) :
    ∃ bs o es ep, Inn w C H h₀ (depL us + 1) bs ∧ a ∉ bs ∧ h₀.get? a = some o ∧ o.cls = .type "dict" ∧ o.data = .dict es ep ∧ (a == sysModules) = false ∧
      ReprEntriesK P wd bs h₀ (depL us + 1) es.toList [reprText "a" ++ ": " ++ listText (shownL nm us), (toString (1 : Int) : Str) ++ ": " ++ "None"] := by
  obtain ⟨bs, hB, kb⟩ := rep_lst ok h2 n2 l rec
  have y : At w C H (.ref a) (.dct us) := .dct h n h2 n2 l
  have hda : dep (.lst us) < dep (.dct us) := by simp only [dep]; omega
  obtain ⟨_, hsys, vs, kv, o, es, ep, g1, g2, g3, _, g4, _⟩ := ok a _ h
  have hna : a ∉ bs := hB.not_mem y hda fun ⟨o', m', q1, q2, q3⟩ => by
    rw [g1] at q1
    cases q1
    rw [g3] at q3
    cases q3
  obtain ⟨x1, x2, rfl, r1, r2⟩ := kv2 kv
  cases r1
  cases r2
  obtain ⟨e1, e2, ee, a1, b1, a2, b2⟩ := pairs2 g4
  simp only [shown, dep] at kb hB
  refine ⟨bs, o, es, ep, hB, hna, g1, g2.1, g3, hsys, ?_⟩
  rw [ee]
  rcases keyIs_shape a1 with ⟨i, t, q, _⟩ | ⟨z, t, q, ek⟩
  · cases q
  · cases q
    rcases keyIs_shape a2 with ⟨i, t', q, ek2⟩ | ⟨z, t', q, _⟩
    · cases q
      refine .cons ?_ ?_ (.cons ?_ ?_ .nil)
      · rw [ek]
        exact .of_is (ReprIs.str _ t (by rw [sizeLine_eq]; decide +kernel)) _ _ _
      · rw [b1]
        exact kb
      · rw [ek2]
        exact .of_is (ReprIs.int t' (by decide)) _ _ _
      · rw [b2]
        exact .of_is ReprIs.none _ _ _
    · cases q
theorem rep_dct (ok : HOk P wd H h₀) {a b : Addr} {xs : List V} {us : List U} (h : H a = some (.dK [(.inr "a", .ref b), (.inl 1, .non)])) (n : a ≠ w) (h2 : H b = some (.lst xs)) (n2 : b ≠ w) (l : AtL w C H xs us)
    (rec : ∀ its, Vals xs its → ∃ bs, Inn w C H h₀ (depL us) bs ∧ ReprAllK P wd bs h₀ (depL us) its (shownL nm us)) :
    ∃ bs, Inn w C H h₀ (dep (.dct us)) bs ∧ ReprK P wd bs h₀ (dep (.dct us)) (.ref a) (shown nm (.dct us)) := by
  obtain ⟨bs, o, es, ep, hB, hna, g1, g2, g3, hsys, hE⟩ := dct_parts ok h n h2 n2 l rec
  refine ⟨a :: bs, hB.cons (.dct h n h2 n2 l) (by simp only [dep]; omega), ?_⟩
  simp only [shown, dep]
  exact ReprK.dict (d := depL us + 1) g1 g2 g3 hsys hna hE
theorem exc_at (ok : HOk P wd H h₀) {a t : Addr} (h : H a = some (ExN C t a)) (h2 : H t = some (.tup [])) : HxExc C a t h₀ := by
  obtain ⟨⟨o, vs, q1, q2, q3, q4, q5⟩, _, _⟩ := ok a _ h
  obtain ⟨_, its, rv, o', g1, g2, m, g3⟩ := ok t _ h2
  cases rv
  exact ⟨⟨o, vs, q1, q2, q3, q4, q5⟩, o', m, g1, g2, g3⟩
theorem rep_exc (ok : HOk P wd H h₀) (X : K.In h₀) (R : HxRepr K C nm) {a t : Addr} (h : H a = some (ExN C t a)) (n : a ≠ w) (h2 : H t = some (.tup [])) (n2 : t ≠ w) : ∃ bs, Inn w C H h₀ (dep .exc) bs ∧ ReprK P wd bs h₀ (dep .exc) (.ref a) (shown nm .exc) := by
  have hx := exc_at ok h h2
  refine ⟨[a, t], fun b hb => ?_, ?_⟩
  · rcases List.mem_cons.mp hb with e | hb
    · subst e
      exact .inl ⟨.exc, .exc h n h2 n2, Nat.le_refl _⟩
    · rw [List.mem_singleton.mp hb]
      obtain ⟨_, o, m, q1, q2, q3⟩ := hx
      exact .inr ⟨o, m, q1, q2, q3⟩
  · simp only [shown, dep]
    exact hx_repr X hx R (fun _ h => nomatch h)
theorem rep_cons {u : U} {us : List U} {x : Value} {xs : List Value} (h1 : ∃ bs, Inn w C H h₀ (dep u) bs ∧ ReprK P wd bs h₀ (dep u) x (shown nm u)) (h2 : ∃ bs, Inn w C H h₀ (depL us) bs ∧ ReprAllK P wd bs h₀ (depL us) xs (shownL nm us)) :
    ∃ bs, Inn w C H h₀ (depL (u :: us)) bs ∧ ReprAllK P wd bs h₀ (depL (u :: us)) (x :: xs) (shownL nm (u :: us)) := by
  obtain ⟨b1, i1, k1⟩ := h1
  obtain ⟨b2, i2, k2⟩ := h2
  refine ⟨b1 ++ b2, ?_, ?_⟩
  · simp only [depL]
    exact (i1.mono (Nat.le_max_left _ _)).append (i2.mono (Nat.le_max_right _ _))
  · simp only [depL, shownL]
    exact .cons ((k1.more fun b hb => List.mem_append_left _ hb).level_le (Nat.le_max_left _ _)) (k2.more_le (fun b hb => List.mem_append_right _ hb) (Nat.le_max_right _ _))
theorem small_dct {us : List U} (hz : (shown nm (.dct us)).length ≤ sizeLine) : ∀ t ∈ shownL nm us, t.length ≤ sizeLine := fun t ht => by
  simp only [shown] at hz
  have hz1 := dictText_mem_le (ps := [reprText "a" ++ ": " ++ listText (shownL nm us), (toString (1 : Int) : Str) ++ ": " ++ "None"]) (List.mem_cons_self)
  rw [strLen_append] at hz1
  have := listText_mem_le ht
  omega
def Rp (P : Program) (wd : World) (w C : Addr) (H : Hp) (h₀ : Heap) (nm : Str) (u : U) : Prop := ∀ (v : V) (x : Value), At w C H v u → RelV v x → smallU u → (shown nm u).length ≤ sizeLine → ∃ bs, Inn w C H h₀ (dep u) bs ∧ ReprK P wd bs h₀ (dep u) x (shown nm u)
theorem list_rp : ∀ (us : List U) (vs : List V) (xs : List Value), (∀ u ∈ us, Rp P wd w C H h₀ nm u) → AtL w C H vs us → Vals vs xs → smallL us → (∀ t ∈ shownL nm us, t.length ≤ sizeLine) →
    ∃ bs, Inn w C H h₀ (depL us) bs ∧ ReprAllK P wd bs h₀ (depL us) xs (shownL nm us)
  | [], _, _, _, l, r, _, _ => by
    cases l
    cases r
    exact ⟨[], (fun _ h => nomatch h), by simp only [shownL]; exact .nil⟩
  | u :: us, _, _, ih, l, r, hs, hz => by
    cases l with
    | cons x l =>
      cases r with
      | cons rx rl =>
        simp only [smallL] at hs
        simp only [shownL] at hz
        exact rep_cons (ih u List.mem_cons_self _ _ x rx hs.1 (hz _ List.mem_cons_self)) (list_rp us _ _ (fun y hy => ih y (List.mem_cons_of_mem _ hy)) l rl hs.2 (fun t ht => hz t (List.mem_cons_of_mem _ ht)))
theorem dep_mem {us : List U} {u : U} (h : u ∈ us) : dep u ≤ depL us := by
  induction us with
  | nil => cases h
  | cons x us ih =>
    simp only [depL]
    rcases List.mem_cons.mp h with e | h
    · subst e
      exact Nat.le_max_left _ _
    · exact Nat.le_trans (ih h) (Nat.le_max_right _ _)
theorem rp_all (ok : HOk P wd H h₀) (X : K.In h₀) (R : HxRepr K C nm) : ∀ (n : Nat) (u : U), dep u ≤ n → Rp P wd w C H h₀ nm u := by
  intro n
  induction n with
  | zero =>
    intro u hd v x h r hs hz
    cases h with
    | non => cases r; exact ⟨[], (fun _ h => nomatch h), by simp only [shown]; exact .of_is ReprIs.none _ _ _⟩
    | bl b => cases r; exact ⟨[], (fun _ h => nomatch h), by simp only [shown]; exact .of_is (ReprIs.bool b) _ _ _⟩
    | int i => obtain ⟨t, rfl⟩ := r; exact ⟨[], (fun _ h => nomatch h), by simp only [shown]; exact .of_is (ReprIs.int t (by simpa only [smallU] using hs)) _ _ _⟩
    | str z => obtain ⟨t, rfl⟩ := r; exact ⟨[], (fun _ h => nomatch h), by simp only [shown]; exact .of_is (ReprIs.str z t (by simpa only [shown] using hz)) _ _ _⟩
    | tup => simp only [dep] at hd; omega
    | lst => simp only [dep] at hd; omega
    | dct => simp only [dep] at hd; omega
    | exc => simp only [dep] at hd; omega
  | succ n ih =>
    intro u hd v x h r hs hz
    cases h with
    | non => cases r; exact ⟨[], (fun _ h => nomatch h), by simp only [shown]; exact .of_is ReprIs.none _ _ _⟩
    | bl b => cases r; exact ⟨[], (fun _ h => nomatch h), by simp only [shown]; exact .of_is (ReprIs.bool b) _ _ _⟩
    | int i => obtain ⟨t, rfl⟩ := r; exact ⟨[], (fun _ h => nomatch h), by simp only [shown]; exact .of_is (ReprIs.int t (by simpa only [smallU] using hs)) _ _ _⟩
    | str z => obtain ⟨t, rfl⟩ := r; exact ⟨[], (fun _ h => nomatch h), by simp only [shown]; exact .of_is (ReprIs.str z t (by simpa only [shown] using hz)) _ _ _⟩
    | @tup a xs us h1 n1 l =>
      cases r
      simp only [dep] at hd
      exact rep_tup ok h1 n1 l fun its rv => list_rp us _ _ (fun y hy => ih y (by have := dep_mem hy; omega)) l rv (by simpa only [smallU] using hs) (fun t ht => Nat.le_trans (tupleText_mem_le ht) (by simpa only [shown] using hz))
    | @lst a xs us h1 n1 l =>
      cases r
      simp only [dep] at hd
      exact rep_lst ok h1 n1 l fun its rv => list_rp us _ _ (fun y hy => ih y (by have := dep_mem hy; omega)) l rv (by simpa only [smallU] using hs) (fun t ht => Nat.le_trans (listText_mem_le ht) (by simpa only [shown] using hz))
    | @dct a b xs us h1 n1 h2 n2 l =>
      cases r
      simp only [dep] at hd
      exact rep_dct ok h1 n1 h2 n2 l fun its rv => list_rp us _ _ (fun y hy => ih y (by have := dep_mem hy; omega)) l rv (by simpa only [smallU] using hs) (small_dct hz)
    | exc h1 n1 h2 n2 =>
      cases r
      exact rep_exc ok X R h1 n1 h2 n2
end
end Hu
/-! a def run where the guards around it are known to be none: for what asks for a repr -/
namespace Gd
open PySem PySem.Spec PyProof.Rows L2
/-- one run of a def's body, at one place -/
theorem run_at {CX : CXT} {P : Program} {wd : World} {F : PySem.W.Frag} {mg : Str → Option Value} {base : Heap} {k : Nat} {fa : Addr} {nm qn : Str} {prm : Arguments} {code : List Stmt} {sc : Scope} {d1 d2 d3 d4 d5 d6 d7 : Value} {an od : Option Addr}
    {slots : Array (Option Value)} {N ps : List Str} (at_f : F.lookup fa = some ⟨d7, od, .func (PySem.W.fnOf nm qn prm code sc d1 d2 d3 d4 an d5 d6), slots⟩) (rec : PySem.W.codeIn F d5 qn = true) (sco : FnScope N ps sc)
    {A : Around} {outer : List Env} {s : Shared} {H : Hp} {args : Args} {us : List Value} {vs : List V} {Q : VK} {E : XK} (room : Room (k + 1) A) (ev : Env0 P wd F mg base A outer s H) (bd : BindsTo s (PySem.W.fnOf nm qn prm code sc d1 d2 d3 d4 an d5 d6) args (ps.zip us))
    (rv : Vals vs us) (len : vs.length = ps.length) (body : Room k (A.deeper (envOfC qn sc s.heap.objs.size fa d5)) → ∃ t, PSs (cxOf CX P wd F mg base N qn sc fa d5 A outer s H E) code t ∧ t { nx := fun _ H' => Q .non H', rt := Q } (start N vs) H) :
    codeAny (model P wd) A (.call (.ref fa) args) (CR CX outer P wd H s Q E) s := by
  obtain ⟨t, body1, body2⟩ := body (room.deeper _)
  have inF : F.In s.heap := ev.mod.kin.keeps fun b o q => And.left (ev.bs b o q)
  have kinds : ∀ y ∈ ps.zip us, sc.names.lookup y.1 = some .local ∨ (sc.names.lookup y.1 = some .cell ∧ ((cellsFrom (s.heap.objs.size + 1) sc.names []).lookup y.1).isSome = true) := by
    rintro ⟨n, v⟩ hy
    rcases sco.par n (And.left (List.of_mem_zip hy)) with z | z
    · exact Or.inl z
    · exact Or.inr ⟨z, PySem.W.cellsFrom_some _ _ _ (Or.inl z)⟩
  refine codeAny_call_function room.depth (inF _ _ at_f) rfl sco.co sco.gen rfl (PySem.W.codeRec_of inF rec) (bd _ _ _ _ (wpAny_newFunctionEnv_cells sco.kind kinds fun env he s1 x => ?_))
  subst he
  have noLimit : s.heap.NoLimit := ev.mod.nolimit.keeps fun b o q => And.left (ev.bs b o q)
  refine ⟨noLimit.keeps x.toInCall.keep, codeAny_func (wpAny_mono (body1.run [] s1 (start N vs) H _ (inv_start sco room.hd ev len rv x) body2) (fun fl s' q => ?_) fun _ _ z => z)⟩
  cases fl with
  | ret u => obtain ⟨v, σ', H', J, r, q⟩ := q; exact ⟨v, H', J.os, J.bare, J.base, J.hok, r, q⟩
  | next => obtain ⟨σ', H', J, q⟩ := q; exact ⟨V.non, H', J.os, J.bare, J.base, J.hok, rfl, q⟩
  | brk => exact (Exists.elim q fun _ q => Exists.elim q fun _ q => q.2).elim
  | cont => exact (Exists.elim q fun _ q => Exists.elim q fun _ q => q.2).elim
/-- the end of a law's call: nothing that stood is changed -/
theorem law_end {P : Program} {wd : World} {s₁ s' : Shared} {H : Hp} {r : Result} (only : ∀ b, H b = none ∨ ∃ o xs, H b = some (.frz o (.lst xs))) (hok : HOk P wd H s₁.heap)
    (h : CR CX0 [] P wd H s₁ (fun v _ => v = .bl true) (fun _ _ _ => False) r s') : r = .ok (.ret (.bool true)) ∧ OldK s₁.heap s'.heap ∧ s'.os = s₁.os ∧ AllBare s'.gens := by
  match r, h with
  | .ok (.ret u), ⟨v, H', os, gens, un, ok2, ru, ev⟩ =>
    have ev : v = V.bl true := ev
    subst ev
    cases (show u = Value.bool true from ru)
    have none_in : ∀ b : Addr, b ∉ ([] : List Addr) := fun b => List.not_mem_nil
    refine ⟨rfl, OldK.of_keep fun b o e => ?_, os, gens⟩
    rcases only b with z | ⟨ob, xs, z⟩
    · exact un.keep b o e z (none_in b) (none_in b)
    · have here := (hok b _ z).1
      have there := (ok2 b _ (un.frzs b ob _ z)).1
      rw [e] at here
      cases here
      exact there
theorem law_at {P : Program} {wd : World} {F : PySem.W.Frag} {mg mb : Str → Option Value} {fa a : Addr} {s₁ : Shared} {vs : List Value} {ns : List Int} (inF : F.In s₁.heap) (main : s₁.heap.Ns mainGlobals mg) (bns : s₁.heap.Ns builtinsNs mb) (boot : ∀ x : Str, x ≠ "__name__" → mb x = bootBuiltins x)
    (lim : s₁.heap.NoLimit) (gens : s₁.gens = #[]) (script : s₁.heap.get? a = some { cls := .type "list", data := .seq vs.toArray }) (areI : IntsAre vs ns) (few : ns.length ≤ sizeLine)
    (go : ∀ (base : Heap) (H : Hp), F.In base → base.Ns mainGlobals mg → Env0 P wd F mg base callerA [] s₁ H → SqL F H a (ns.map V.int) → codeAny (model P wd) callerA (.call (.ref fa) ⟨[.ref a], []⟩) (CR CX0 [] P wd H s₁ (fun v _ => v = .bl true) (fun _ _ _ => False)) s₁) :
    codeAny (model P wd) callerA (.call (.ref fa) ⟨[.ref a], []⟩) (fun r s' => r = .ok (.ret (.bool true)) ∧ OldK s₁.heap s'.heap ∧ s'.os = s₁.os ∧ AllBare s'.gens) s₁ := by
  have rel := vals_ints areI
  have size := areI.length
  have main_case : ∀ H : Hp, (∀ b u, H b = some u → b = a ∧ F.lookup a = none ∧ u = .frz { cls := .type "list", data := .seq vs.toArray } (.lst (ns.map V.int))) → SqL F H a (ns.map V.int) →
      codeAny (model P wd) callerA (.call (.ref fa) ⟨[.ref a], []⟩) (fun r s' => r = .ok (.ret (.bool true)) ∧ OldK s₁.heap s'.heap ∧ s'.os = s₁.os ∧ AllBare s'.gens) s₁ := by
    intro H only sq
    have here : ∀ {b : Addr} {o : Obj}, s₁.heap.get? b = some o → (b = a → F.lookup a = none → False) → (hidT s₁.heap H).get? b = some o := fun {b o} e no => by
      refine hidT_get e ?_
      cases q : H b with
      | none => rfl
      | some u => exact (no (only b u q).1 (only b u q).2.1).elim
    have spaces : ∀ {b : Addr} {m : Str → Option Value}, s₁.heap.Ns b m → (hidT s₁.heap H).Ns b m := fun {b m} z => by
      obtain ⟨o, es, ep, e, d, r⟩ := z
      refine ⟨o, es, ep, here e (fun q _ => ?_), d, r⟩
      rw [q, script] at e
      cases e
      cases d
    have inB : F.In (hidT s₁.heap H) := fun b o e => here (inF b o e) fun q z => by
      rw [q, z] at e
      cases e
    have hok : HOk P wd H s₁.heap := fun b u e => by
      obtain ⟨rfl, _, rfl⟩ := only b u e
      exact ⟨script, by rw [List.length_map]; exact few, vs, _, rel, script⟩
    have env : Env0 P wd F mg (hidT s₁.heap H) callerA [] s₁ H :=
      ⟨rfl, ⟨inB, spaces main, ⟨mb, spaces bns, boot⟩, Exists.elim lim fun m z => ⟨m, spaces z.1, z.2⟩⟩, fun b o e => of_hidT e, Nat.le_of_eq (hidT_size _ _), trivial, fun b z => (List.not_mem_nil (show b ∈ ([] : List Addr) from z)).elim, hok, .of_eq gens⟩
    refine codeAny_mono (go _ H inB (spaces main) env sq) fun r s' z => law_end (fun b => ?_) hok z
    cases q : H b with
    | none => exact .inl rfl
    | some u => exact .inr ⟨_, _, congrArg some (only b u q).2.2⟩
  cases q : F.lookup a with
  | some o =>
    have e := (inF a o q).symm.trans script
    cases e
    exact main_case (fun _ => none) (fun _ _ z => by cases z) (.inr ⟨_, vs.toArray, _, q, rfl, rfl, rfl, by rw [List.size_toArray, size]; exact few, by simpa using rel⟩)
  | none =>
    refine main_case (fun b => if b = a then some (.frz { cls := .type "list", data := .seq vs.toArray } (.lst (ns.map V.int))) else none) (fun b u z => ?_) (.inl (.inr ⟨_, if_pos rfl⟩))
    by_cases e : b = a
    · have z2 := (if_pos e).symm.trans z
      exact ⟨e, q, (Option.some.inj z2).symm⟩
    · have z2 := (if_neg e).symm.trans z
      cases z2
/-- what the head leaves, from the law's run at the caller -/
theorem walk_at {l : PySem.W.OpenLaw} {n : Nat} {q : Program} {loose : List Str} {XP : (Str → Option Value) → Heap → Prop} {YP : World → Heap → Prop} {d : DefRec} {F : Params → PySem.W.Frag} (most : l.most = some n) (line : n ≤ sizeLine) (plain : d.params.defaults = [])
    (inF : ∀ (w : World) (h : Heap), YP w h → (F w.params).In h)
    (go : ∀ (w : World) (mg : Str → Option Value) (fa : Addr) (h : Heap), (F w.params).In h → h.Ns mainGlobals mg → mg d.name = some (.ref fa) →
      ∀ (s : Shared) (a : Addr) (ns : List Int) (base : Heap) (H : Hp), (F w.params).In base → base.Ns mainGlobals mg → Env0 l.prog w (F w.params) mg base callerA [] s H → SqL (F w.params) H a (ns.map V.int) →
        codeAny (model l.prog w) callerA (.call (.ref fa) ⟨[.ref a], []⟩) (CR CX0 [] l.prog w H s (fun v _ => v = .bl true) (fun _ _ _ => False)) s) :
    PySem.W.WalkO q loose XP YP l.row.toRowW d [] (fun f vs => PySem.call f vs) :=
  Att.attach_call most plain fun w s₀ s₁ mg mb fa o pm cd doc a vs ns G Y ho hd hcd hmg obj areI len gens =>
    law_at (inF w _ Y) G.T.g G.T.b G.T.builtins G.T.nolimit gens obj areI (Nat.le_trans len line) fun base H => go w mg fa _ (inF w _ Y) G.T.g hmg s₁ a ns base H
end Gd
namespace Hu
open PySem PySem.Spec PyProof.Rows L2
section
variable {X : Cx} {w C : Addr} {nm : Str}
/-- repr(x), any value of the law's, where nothing is shown around -/
theorem call_reprU {k : Nat} (room : Room k X.A) (bare : X.A.guards = some []) (R : HxRepr X.K C nm) :
    CallR X (.builtin "repr") (fun xs H Q => ∃ (v : V) (u : U) (w : Addr), xs = [v] ∧ At w C H v u ∧ smallU u ∧ dep u ≤ 60 ∧ (shown nm u).length ≤ sizeLine ∧ Q (.str (shown nm u)) H) := by
  intro pins s σ H xs us Q I r h
  obtain ⟨v, u, w, rfl, hat, hs, hd, hz, q⟩ := h
  obtain ⟨x, rfl, rx⟩ := vals1 r
  have hu := room.units
  have ok := I.hok
  have X0 := I.kIn
  have fin : ∀ (h' : Heap) (t : Tok) (tk : Nat), (∀ b o, s.heap.get? b = some o → h'.get? b = some o) → EP X pins σ Q (.str (shown nm u) t) { s with heap := h', toks := tk } := fun h' t tk kp =>
    ⟨.str (shown nm u), H, I.un (Un.kept kp) (I.hok.kept kp), ⟨t, rfl⟩, q⟩
  have rp : ∀ (us : List U) (vs : List V) (its : List Value), depL us ≤ 60 → AtL w C H vs us → Vals vs its → smallL us → (∀ t ∈ shownL nm us, t.length ≤ sizeLine) → ∃ bs, Inn w C H s.heap (depL us) bs ∧ ReprAllK X.prog X.w bs s.heap (depL us) its (shownL nm us) :=
    fun us vs its hd l rv hs hz => list_rp us vs its (fun y hy => rp_all ok X0 R 60 y (Nat.le_trans (dep_mem hy) hd)) l rv hs hz
  cases hat with
  | non =>
    cases rx
    simp only [shown] at fin
    exact PySem.P.repr_of_none (fin s.heap _ _ fun _ _ e => e)
  | bl b =>
    cases rx
    simp only [shown] at fin
    exact PySem.P.repr_of_bool (fin s.heap _ _ fun _ _ e => e)
  | int i =>
    obtain ⟨t, rfl⟩ := rx
    simp only [shown] at fin
    exact PySem.P.repr_of_int (by simpa only [smallU] using hs) (fin s.heap _ _ fun _ _ e => e)
  | str z =>
    obtain ⟨t, rfl⟩ := rx
    simp only [shown] at fin hz
    exact PySem.P.repr_of_str (fin s.heap _ _ fun _ _ e => e) hz
  | @tup a xs us h1 n1 l =>
    cases rx
    simp only [dep] at hd
    have hz' : (tupleText (shownL nm us)).length ≤ sizeLine := by simpa only [shown] using hz
    obtain ⟨_, its, rv, o, g1, g2, m, g3⟩ := ok a _ h1
    obtain ⟨bs, hb, hk⟩ := rp us xs its (by omega) l rv (by simpa only [smallU] using hs) (fun t ht => Nat.le_trans (tupleText_mem_le ht) hz')
    have hna : ∃ bs, a ∉ bs ∧ ReprAllK X.prog X.w bs s.heap (depL us) its (shownL nm us) := by
      by_cases e : its = []
      · subst e
        have hl := rv.length
        have ex : us = [] := List.length_eq_zero_iff.mp (by rw [← AtL.length l, hl]; rfl)
        subst ex
        exact ⟨[], by simp, by rw [shownL]; exact .nil⟩
      · refine ⟨bs, hb.not_mem (.tup h1 n1 l) (by simp only [dep]; omega) fun ⟨o', m', q1, q2, q3⟩ => ?_, hk⟩
        rw [g1] at q1
        cases q1
        rw [g3] at q3
        injection q3 with q3 _
        exact e (by simpa using congrArg Array.toList q3)
    obtain ⟨bs, hna, hk⟩ := hna
    simp only [shown] at fin
    exact call_repr_slot (by omega) ⟨o, g1, g2⟩ F.slot_tuple_repr (call_tuple_reprK g1 g2 g3 hna (by simpa using hk) (A := X.A.in1) bare (fun b _ => Clear.nil b) (by show X.A.units + 1 + _ < _; omega) (fun _ _ e => e) (fun h' u tk kp => ⟨_, _, rfl, fin h' u tk kp⟩) hz')
  | @lst a xs us h1 n1 l =>
    cases rx
    simp only [dep] at hd
    have hz' : (listText (shownL nm us)).length ≤ sizeLine := by simpa only [shown] using hz
    obtain ⟨_, its, m, rv, g1⟩ := ok a _ h1
    obtain ⟨bs, hb, hk⟩ := rp us xs its (by omega) l rv (by simpa only [smallU] using hs) (fun t ht => Nat.le_trans (listText_mem_le ht) hz')
    have hna : a ∉ bs := hb.not_mem (.lst h1 n1 l) (by simp only [dep]; omega) fun ⟨o', m', q1, q2, q3⟩ => by
      rw [g1] at q1
      cases q1
      simp at q2
    simp only [shown] at fin
    refine call_repr_slot (by omega) ⟨_, g1, rfl⟩ F.slot_list_repr.toG ?_
    cases its with
    | nil =>
      cases us with
      | nil =>
        simp only [shownL, listText_nil] at fin
        exact call_list_repr_empty ⟨_, g1, rfl⟩ g1 rfl ⟨_, _, rfl, fin s.heap _ _ fun _ _ e => e⟩
      | cons u us => rw [shownL] at hk; cases hk
    | cons y l2 =>
      exact call_list_reprK (A := X.A.in1) g1 rfl rfl hna (by simpa using hk.length_eq) (fun i y e => hk.item i y (by simpa using e)) bare (fun b _ => Clear.nil b) (by show X.A.units + 1 + _ < _; omega) (fun _ _ e => e) (fun h' u tk kp => ⟨_, _, rfl, fin h' u tk kp⟩) hz'
  | @dct a b xs us h1 n1 h2 n2 l =>
    cases rx
    simp only [dep] at hd
    have hz' : (dictText [reprText "a" ++ ": " ++ listText (shownL nm us), (toString (1 : Int) : Str) ++ ": " ++ "None"]).length ≤ sizeLine := by simpa only [shown] using hz
    obtain ⟨bs, o, es, ep, hB, hna, g1, g2, g3, hsys, hE⟩ := dct_parts ok h1 n1 h2 n2 l fun its rv => rp us xs its (by omega) l rv (by simpa only [smallU] using hs) (small_dct hz)
    simp only [shown] at fin
    exact call_repr_slot (by omega) ⟨o, g1, g2⟩ F.slot_dict_repr (call_dict_reprK (A := X.A.in1) g1 g2 g3 hsys hna hE bare (fun b _ => Clear.nil b) (by show X.A.units + 1 + _ < _; omega) (fun _ _ e => e) (fun h' u tk kp => ⟨_, _, rfl, fin h' u tk kp⟩) hz')
  | exc h1 n1 h2 n2 =>
    cases rx
    have hx := exc_at ok h1 h2
    simp only [shown] at fin hz
    exact hx_reprTop X0 hx R hz bare (by omega) fin
end
end Hu
/-! isinstance of any value of the law's, and the error that it may be -/
namespace Hu
open PySem PySem.Spec PyProof.Rows L2
/-- the class of the errors among the values: how isinstance asks them, what repr tells -/
structure Xc (K : PySem.W.Frag) (mg : Str → Option Value) (x : Str) (C : Addr) (nm : Str) : Prop where
  g : mg x = some (.ref C)
  x : PySem.W.excIn K C [.type "ValueError", .type "Exception", .type "BaseException", .type "object"] "ValueError.__new__" = true
  k : PySem.W.keepIn K (.ref C) = true
  c : L2.ExcC K C
  r : HxRepr K C nm
  ki : PySem.W.kitOne K (.ref C) (.type "int") = some false
  kb : PySem.W.kitOne K (.ref C) (.type "bool") = some false
  ks : PySem.W.kitOne K (.ref C) (.type "str") = some false
  kt : PySem.W.kitOne K (.ref C) (.type "tuple") = some false
def tyU : U → String
  | .non => "NoneType"
  | .bl _ => "bool"
  | .int _ => "int"
  | .str _ => "str"
  | .tup _ => "tuple"
  | .lst _ => "list"
  | .dct _ => "dict"
  | .exc => "?"
def isS (S T : String) : Bool := S == T || (S == "bool" && T == "int")
/-- isinstance(u, T), T one of int, bool, str, tuple -/
def isT (u : U) (T : String) : Bool := isS (tyU u) T
theorem kit_is {S T : String} (hS : S ∈ ["NoneType", "bool", "int", "str", "tuple", "list", "dict"]) (hT : T ∈ ["int", "bool", "str", "tuple"]) : kitB S T = some (isS S T) := by
  have : (["NoneType", "bool", "int", "str", "tuple", "list", "dict"].all fun S => ["int", "bool", "str", "tuple"].all fun T => decide (kitB S T = some (isS S T))) = true := by decide +kernel
  exact of_decide_eq_true (List.all_eq_true.mp (List.all_eq_true.mp this S hS) T hT)
theorem ExN.inst {P : Program} {wd : World} {H : Hp} {h : Heap} {C a t : Addr} (ok : HOk P wd H h) (e : H a = some (ExN C t a)) : ∃ o, PySem.W.InstAt h a o C none := by
  obtain ⟨⟨o, vs, h1, h2, h3, _, h5⟩, _, _⟩ := ok a _ e
  refine ⟨o, ?_⟩
  obtain ⟨oc, od, oda, osl⟩ := o
  dsimp only at h2 h3 h5
  subst h2 h3 h5
  exact ⟨h1, rfl, rfl, trivial⟩
section
variable {X : Cx} {w C : Addr} {nm x : Str}
/-- isinstance(v, T) -/
theorem call_isiU (T : String) (E : Xc X.K X.mg x C nm) (hT : T ∈ ["int", "bool", "str", "tuple"]) :
    CallR X (.builtin "isinstance") (fun xs H Q => ∃ (v : V) (u : U) (w : Addr), xs = [v, .ty T] ∧ At w C H v u ∧ Q (.bl (isT u T)) H) := by
  intro pins s σ H xs us Q I r h
  obtain ⟨v, u, w, rfl, hat, q⟩ := h
  have plain : ∀ S, TyX X.K H v (.type S) → kitB S T = some (isT u T) → wpAny (model X.prog X.w) X.A (call (.builtin "isinstance") us) (EP X pins σ Q) X.xe s := fun S ty kb =>
    call_isi pins s σ H _ us Q I r ⟨v, .ty T, .type S, .type T, isT u T, rfl, .ty T, ty, kit_ty kb, q⟩
  cases hat with
  | non => exact plain _ (.base .non) (kit_is (by simp) hT)
  | bl b => exact plain _ (.base (.bl b)) (kit_is (by simp) hT)
  | int i => exact plain _ (.base (.int i)) (kit_is (by simp) hT)
  | str z => exact plain _ (.base (.str z)) (kit_is (by simp) hT)
  | tup h _ _ => exact plain _ (.base (.tup h)) (kit_is (by simp) hT)
  | lst h _ _ => exact plain _ (.base (.lst h)) (kit_is (by simp) hT)
  | dct h _ _ _ _ => exact plain _ (.base (.dK h)) (kit_is (by simp) hT)
  | exc h n _ _ =>
    obtain ⟨u1, u2, rfl, r1, r2⟩ := vals2 r
    cases r1
    cases r2
    obtain ⟨o, J⟩ := ExN.inst I.hok h
    have c := E.c
    have e : PySem.W.kitOne X.K (.ref C) (.type T) = some false ∧ isT .exc T = false := by
      simp only [List.mem_cons, List.not_mem_nil, or_false] at hT
      rcases hT with rfl | rfl | rfl | rfl
      · exact ⟨E.ki, by decide +kernel⟩
      · exact ⟨E.kb, by decide +kernel⟩
      · exact ⟨E.ks, by decide +kernel⟩
      · exact ⟨E.kt, by decide +kernel⟩
    rw [e.2] at q
    exact PySem.W.kia_one (PySem.W.handS_kitx_exc c.hg c.hk c.hs c.hd c.ha c.hn c.ht c.hm) I.kIn J e.1 (fun z => nomatch z) fun tk => ⟨.bl false, H, I.tok tk, rfl, q⟩
/-- an error as a value: X() -/
theorem pe_exc0 {y : Str} {p pos : Pos} (E : Xc X.K X.mg y C nm) (hg : Gl X y) (hdb : (y == ("__debug__" : Str)) = false := by decide) :
    PE X (.Call (.Name y p) [] [] pos) (fun σ H Q => ∀ a t, H a = none → H t = none → a ≠ t → Q (.ref a) (upd (upd H t (.tup [])) a (ExN C t a))) := by
  refine ⟨fun pins s σ H Q I h => ?_⟩
  refine wpAny_Call_Name_kw (ld_glob I hg E.g ?_ hdb)
  refine PySem.W.callWith_K0 I.kIn E.k ?_
  show wpAny _ _ (call (.ref C) []) _ _ _
  obtain ⟨bm, N, nm, qn, bs, hdct, sn, sub, ab, col, dd, k0, k1, k2, k3, k5, mN, hC, hN, hni, T⟩ := exc_obj I.kIn E.x
  refine wpAny_call_exc_subT PySem.F.excBase_ValueError T hC hN hni (fun h' a hm => ?_) (Nat.zero_le _)
  have hn : H a = none := I.hok.gone hm.new
  obtain ⟨t, ht, htn, htt⟩ := hm.there
  have hn2 : H t = none := I.hok.gone htn
  have nat : a ≠ t := fun e => by
    rw [e, htt] at ht
    cases ht
  have na : upd H t (.tup []) a = none := by
    rw [upd_ne nat]
    exact hn
  have ok1 : HOk X.prog X.w (upd H t (.tup [])) h' := I.hok.laidN hm.keeps hn2 ⟨Nat.zero_le _, [], .nil, _, htt, rfl, _, rfl⟩
  have ok2 : HOk X.prog X.w (upd (upd H t (.tup [])) a (ExN C t a)) h' := ok1.laidN (fun _ _ q => q) na ⟨⟨_, _, ht, rfl, rfl, rfl, rfl⟩, ⟨_, ht⟩, fun _ _ ⟨o, vs, q, r⟩ k => ⟨o, vs, k o q, r⟩⟩
  have same : ∀ b o, H b = some o → upd (upd H t (.tup [])) a (ExN C t a) b = some o := fun b o q => by
    rw [upd_ne (ne_of_none q hn), upd_ne (ne_of_none q hn2)]
    exact q
  have I2 : Inv X pins σ (upd (upd H t (.tup [])) a (ExN C t a)) { s with heap := h' } := I.un (t' := s.toks)
    { keep := fun b u q _ _ _ => hm.keeps b u q
      slot := fun b u q _ _ _ => ⟨u.slots, hm.keeps b u q⟩
      free := fun b u q n _ => by
        rw [upd_ne (fun e => by rw [e, hm.new] at q; cases q), upd_ne (fun e => by rw [e, htn] at q; cases q)]
        exact n
      there := fun b u q _ => ⟨u, hm.keeps b u q⟩
      tups := fun b xs q => same b _ q
      frzs := fun b o u q => same b _ q
      tbls := fun b ps q => ⟨#[], by rw [same b _ q]; simp⟩ } ok2
  exact ⟨.ref a, _, I2, rfl, h a t hn hn2 nat⟩
end
end Hu
namespace Hs
open PySem PySem.Spec PyProof.Rows L2
def topS (i : Nat) : Stmt := PySem.Challenge.pw_homeshold_k01_forms_judged_and_majoritie.main.body.getD i (.Pass ⟨0, 0, 0, 0⟩)
abbrev sMixed : Stmt := topS 33
abbrev sWell : Stmt := topS 34
abbrev sFilled : Stmt := topS 35
abbrev sDraw : Stmt := topS 36
/-! ### heaps -/
/-- all that was tracked stands as it was, but for what stands at w -/
def Keep (w : Addr) (H H' : Hp) : Prop := ∀ b o, b ≠ w → H b = some o → H' b = some o
theorem Keep.refl (w : Addr) (H : Hp) : Keep w H H := fun _ _ _ h => h
theorem Keep.trans {w : Addr} {H H1 H2 : Hp} (a : Keep w H H1) (b : Keep w H1 H2) : Keep w H H2 := fun c o n h => b c o n (a c o n h)
theorem Keep.of_same {w : Addr} {H H' : Hp} (s : Same H H') : Keep w H H' := fun b o _ h => s b o h
theorem Keep.updw {w : Addr} {H : Hp} {o : HO} : Keep w H (upd H w o) := fun b u n h => by
  rw [upd_ne n]
  exact h
theorem same_upd {H : Hp} {p : Addr} {o : HO} (h : H p = none) : Same H (upd H p o) := fun b x e => by
  rw [upd_ne (ne_of_none e h)]
  exact e
theorem Keep.new {w : Addr} {H : Hp} {p : Addr} {o : HO} (h : H p = none) : Keep w H (upd H p o) := .of_same (same_upd h)
/-- where a well stands: w the well, c its cells -/
structure WA where
  (w c : Addr)
/-- a well: a list of the cells, how many were taken, what is left of a cell, the mix -/
structure Well (H : Hp) (a : WA) : Prop where
  ex : ∃ (cells : List Int) (pos : Nat) (rest mix : Int), H a.w = some (.lst [.ref a.c, .int (pos : Int), .int rest, .int mix]) ∧ H a.c = some (.lst (cells.map V.int)) ∧ a.c ≠ a.w ∧ (cells.length ≤ 63)
/-- what a draw leaves -/
structure Drawn (a : WA) (H H' : Hp) : Prop where
  keep : Keep a.w H H'
  well : Well H' a
variable {a : WA} {H H' H1 H2 : Hp} {p : Addr} {o : HO}
theorem Drawn.refl (h : Well H a) : Drawn a H H := ⟨.refl _ _, h⟩
theorem Drawn.trans (x : Drawn a H H1) (y : Drawn a H1 H2) : Drawn a H H2 := ⟨x.keep.trans y.keep, y.well⟩
theorem Well.same (h : Well H a) (s : Same H H') : Well H' a := by
  obtain ⟨cells, pos, rest, mix, h1, h2, n, l⟩ := h.ex
  exact ⟨cells, pos, rest, mix, s _ _ h1, s _ _ h2, n, l⟩
theorem Drawn.same (x : Drawn a H H1) (y : Same H1 H2) : Drawn a H H2 := ⟨x.keep.trans (.of_same y), x.well.same y⟩
theorem Drawn.new (x : Drawn a H H1) (h : H1 p = none) : Drawn a H (upd H1 p o) := x.same (same_upd h)
theorem Well.at (h : Well H a) : ∃ o, H a.w = some o := by
  obtain ⟨cells, pos, rest, mix, h1, _⟩ := h.ex
  exact ⟨_, h1⟩
theorem Well.ne (h : Well H a) (n : H p = none) : p ≠ a.w ∧ p ≠ a.c := by
  obtain ⟨cells, pos, rest, mix, h1, h2, _⟩ := h.ex
  exact ⟨(ne_of_none h1 n).symm, (ne_of_none h2 n).symm⟩
theorem Drawn.free (e : Drawn a H H') (hw : Well H a) (h : H' p = Option.none) : H p = Option.none := by
  by_cases q : p = a.w
  · subst q
    obtain ⟨o, h1⟩ := e.well.at
    rw [h1] at h
    cases h
  · cases z : H p with
    | none => rfl
    | some o =>
      rw [e.keep p o q z] at h
      cases h
/-- what is new since H is written -/
theorem Drawn.put (x : Drawn a H H1) (hw : Well H a) (n : H p = none) : Drawn a H (upd H1 p o) := by
  obtain ⟨n1, n2⟩ := hw.ne n
  refine ⟨fun b u nb e => ?_, ?_⟩
  · rw [upd_ne (ne_of_none e n)]
    exact x.keep b u nb e
  · obtain ⟨cells, pos, rest, mix, h1, h2, n, l⟩ := x.well.ex
    exact ⟨cells, pos, rest, mix, by rw [upd_ne n1.symm]; exact h1, by rw [upd_ne n2.symm]; exact h2, n, l⟩
theorem Drawn.there (x : Drawn a H H1) (hw : Well H a) {u : HO} (n : p ≠ a.w) (e : H p = some u) : H1 p = some u := x.keep p u n e
/-- the names of the built-ins that the text leaves alone -/
structure Bt (mg : Str → Option Value) : Prop where
  int : mg "int" = none
  len : mg "len" = none
  range : mg "range" = none
  all : mg "all" = none
  isi : mg "isinstance" = none
  tup : mg "tuple" = none
  lst : mg "list" = none
  str : mg "str" = none
  max : mg "max" = none
  boo : mg "bool" = none
  sum : mg "sum" = none
  rep : mg "repr" = none
section
variable {P : Program} {w : World} {K : PySem.W.Frag} {mg : Str → Option Value} {base : Heap}
/-! ### the draws -/
def spMixed : Sp := fun vs H Q _ => ∃ n : Int, vs = [.int n] ∧ ∀ r : Int, Q (.int r) H
theorem scMixed : FnScope ["number"] ["number"] (defScope sMixed) := ⟨rfl, rfl, rfl, by decide +kernel, rfl, by decide +kernel, by decide +kernel⟩
theorem fmod_lt {a b : Int} (h : 0 < b) : 0 ≤ a.fmod b ∧ a.fmod b < b := by
  rw [Int.fmod_eq_emod_of_nonneg _ (Int.le_of_lt h)]
  exact ⟨Int.emod_nonneg _ (by omega), Int.emod_lt_of_pos _ h⟩
theorem nz {j : Int} (h : decide (j = 0) = false) : j ≠ 0 := of_decide_eq_false h
theorem ok_mixed {f : Addr} {fd : FuncData} (F : Fun K "_law_mixed" "_law_mixed" sMixed f fd) (B : Bt mg) : FnOk P w K mg base CX0 1 f fd ["number"] spMixed := by
  refine F.ok scMixed (fun vs H Q E h => ?_) (fun cdv A outer s H vs Q E hr h => ?_)
  · obtain ⟨n, rfl, _⟩ := h
    rfl
  · obtain ⟨n, rfl, k⟩ := h
    have hI := B.int
    refine ⟨_, pss_cons (ps_set (i := 0) scMixed.nd rfl (.inl rfl) (pe_op op_modN (pe_callTy call_int1 (by rfl) hI boot_int (pa_cons (pe_op op_add (pe_op op_mul (pv 0) pe_int) pe_int) pa_nil)) pe_int))
      (pss_cons (ps_set (i := 0) scMixed.nd rfl (.inl rfl) (pe_op op_modN (pe_callTy call_int1 (by rfl) hI boot_int (pa_cons (pe_op op_add (pe_op op_mul (pv 0) (pe_op op_add (pe_op op_fdivN (pv 0) pe_int) pe_int)) pe_int) pa_nil)) pe_int))
      (pss_one (ps_ret (pe_op op_add (pe_op op_mul (pv 0) pe_int) (pe_op op_modN (pe_callTy call_int1 (by rfl) hI boot_int (pa_cons (pe_op op_add (pe_op op_mul (pv 0) (pe_op op_add (pe_op op_fdivN (pv 0) pe_int) pe_int)) pe_int) pa_nil)) pe_int))))), ?_⟩
    refine ⟨_, rfl, _, _, rfl, rfl, .inr (by decide), _, _, rfl, rfl, .inl ⟨_, rfl, _, _, rfl, rfl, nz rfl, ?_⟩⟩
    have b1 := fmod_lt (a := n * 48271 + 11) (b := 2147483647) (by decide)
    refine ⟨_, rfl, _, rfl, _, _, rfl, rfl, ⟨by decide, by decide⟩, _, _, rfl, rfl, _, _, rfl, rfl, .inl ⟨by omega, by omega⟩, _, _, rfl, rfl, .inl ⟨_, rfl, _, _, rfl, rfl, nz rfl, ?_⟩⟩
    have b2 := fmod_lt (a := (n * 48271 + 11).fmod 2147483647 * (((n * 48271 + 11).fmod 2147483647).fdiv 1009 + 69621) + 7919) (b := 2147483647) (by decide)
    refine ⟨_, rfl, _, _, rfl, rfl, .inl ⟨by omega, by omega⟩, _, rfl, _, rfl, _, _, rfl, rfl, ⟨by decide, by decide⟩, _, _, rfl, rfl, _, _, rfl, rfl, .inl ⟨by omega, by omega⟩, _, _, rfl, rfl, .inl ⟨_, rfl, _, _, rfl, rfl, nz rfl, ?_⟩⟩
    exact ⟨_, _, rfl, rfl, k _⟩
/-- a def of the text, found by its name -/
structure Df (K : PySem.W.Frag) (mg : Str → Option Value) (x : Str) (st : Stmt) (ps : List Str) (f : Addr) (fd : FuncData) : Prop where
  F : Fun K x x st f fd
  b : Binds K fd ps []
  g : mg x = some (.ref f)
def spFilled : Sp := fun vs H Q _ => ∃ wl : WA, vs = [.ref wl.w] ∧ Well H wl ∧ ∀ (r : Int) (H' : Hp), Drawn wl H H' → Q (.int r) H'
theorem scFilled : FnScope ["well", "cell"] ["well"] (defScope sFilled) := ⟨rfl, rfl, rfl, by decide +kernel, rfl, by decide +kernel, by decide +kernel⟩
theorem ok_filled {f fM : Addr} {fd fdM : FuncData} (F : Fun K "_law_filled" "_law_filled" sFilled f fd) (B : Bt mg) (DM : Df K mg "_law_mixed" sMixed ["number"] fM fdM) : FnOk P w K mg base CX0 2 f fd ["well"] spFilled := by
  have GM : FnOk P w K mg base CX0 1 fM fdM ["number"] spMixed := ok_mixed DM.F B
  refine F.ok scFilled (fun vs H Q E h => ?_) (fun cdv A outer s H vs Q E hr h => ?_)
  · obtain ⟨n, rfl, _⟩ := h
    rfl
  · obtain ⟨wl, rfl, W, k⟩ := h
    have hI := B.int
    have hL := B.len
    refine ⟨_, pss_cons (ps_asg (pe_op op_add (pe_ix ix_list (pv 0) pe_int (fun _ _ => rfl)) pe_int) (pg_sub (pv 0) pe_int set_list))
      (pss_cons (ps_if (pt_cmpR op_le (pe_ix ix_list (pv 0) pe_int (fun _ _ => rfl)) (pe_callB call_len_seq (by rfl) hL PySem.boot_len (pa_cons (pe_ix ix_list (pv 0) pe_int (fun _ _ => rfl)) pa_nil)) (nomark _))
        (pss_cons (ps_set (i := 1) scFilled.nd rfl (.inl rfl) (pe_ix ix_list (pe_ix ix_list (pv 0) pe_int (fun _ _ => rfl)) (pe_op op_sub (pe_ix ix_list (pv 0) pe_int (fun _ _ => rfl)) pe_int) (fun _ _ => rfl)))
          (pss_cons (ps_asg (pe_op op_modN (pe_callTy call_int1 (by rfl) hI boot_int (pa_cons (pe_op op_add (pe_op op_add (pe_op op_mul (pe_ix ix_list (pv 0) pe_int (fun _ _ => rfl)) pe_int) (pv 1)) pe_int) pa_nil)) pe_int) (pg_sub (pv 0) pe_int set_list))
            (pss_cons (ps_if (pt_cmpR op_ge (pv 1) (pe_op op_pow pe_int pe_int) (nomark _)) (pss_one (ps_ret (pv 1))) pss_nil)
              (pss_one (ps_ret (pe_call GM hr (by rfl) DM.g DM.F.kp DM.b .nil pass0 (pa_cons (pe_op op_add (pv 1) (pe_op op_mul pe_int (pe_ix ix_list (pv 0) pe_int (fun _ _ => rfl)))) pa_nil))))))) pss_nil)
      (pss_one (ps_ret (pe_call GM hr (by rfl) DM.g DM.F.kp DM.b .nil pass0 (pa_cons (pe_op op_add (pe_ix ix_list (pv 0) pe_int (fun _ _ => rfl)) (pe_op op_mul pe_int (pe_ix ix_list (pv 0) pe_int (fun _ _ => rfl)))) pa_nil))))), ?_⟩
    obtain ⟨wl, c⟩ := wl
    obtain ⟨cells, pos, rest, mix, h1, h2, n, l⟩ := W.ex
    dsimp only at h1 h2 n
    refine ⟨_, rfl, wl, _, _, _, rfl, rfl, SqL.of h1, atI_nat (j := 1) rfl, _, _, rfl, rfl, ?_⟩
    refine ⟨_, rfl, wl, _, _, _, rfl, rfl, h1, rfl, ?_⟩
    have u1 := upd_same (H := H) (a := wl) (o := .lst [.ref c, .int ((pos : Int) + 1), .int rest, .int mix])
    have u2 : upd H wl (.lst [.ref c, .int ((pos : Int) + 1), .int rest, .int mix]) c = some (.lst (cells.map V.int)) := by
      rw [upd_ne n]
      exact h2
    refine ⟨_, rfl, wl, _, _, _, rfl, rfl, SqL.of u1, atI_nat (j := 1) rfl, _, rfl, wl, _, _, _, rfl, rfl, SqL.of u1, atI_nat (j := 0) rfl, c, _, rfl, .inl (SqL.of u2), _, _, rfl, rfl, _, rfl, ?_⟩
    refine ite2 (fun q => ?_) (fun q => ?_)
    · have q1 : (pos : Int) + 1 ≤ ((cells.map V.int).length : Int) := of_decide_eq_true q
      rw [List.length_map] at q1
      have q2 : pos < cells.length := by omega
      have e1 : (cells.map V.int)[pos]? = some (.int cells[pos]) := by
        rw [List.getElem?_map, List.getElem?_eq_getElem q2]
        rfl
      refine ⟨_, rfl, wl, _, _, _, rfl, rfl, SqL.of u1, atI_nat (j := 0) rfl, _, rfl, wl, _, _, _, rfl, rfl, SqL.of u1, atI_nat (j := 1) rfl, _, _, rfl, rfl, c, _, _, _, rfl, rfl, SqL.of u2, at_of (by omega) e1, ?_⟩
      refine ⟨_, rfl, wl, _, _, _, rfl, rfl, SqL.of u1, atI_nat (j := 3) rfl, _, _, rfl, rfl, .inr (by decide), _, rfl, _, _, rfl, rfl, _, _, rfl, rfl, .inl ⟨_, rfl, _, _, rfl, rfl, nz rfl, ?_⟩⟩
      refine ⟨_, rfl, wl, _, _, _, rfl, rfl, u1, rfl, ?_⟩
      have D : ∀ z : Int, Drawn ⟨wl, c⟩ H (upd (upd H wl (.lst [.ref c, .int ((pos : Int) + 1), .int rest, .int mix])) wl (.lst [.ref c, .int ((pos : Int) + 1), .int rest, .int z])) := fun z => by
        rw [upd_upd]
        refine ⟨.updw, ⟨cells, pos + 1, rest, z, ?_, ?_, n, l⟩⟩
        · exact upd_same
        · rw [upd_ne n]
          exact h2
      refine ⟨_, rfl, _, _, rfl, rfl, ⟨by decide, by decide, by decide⟩, _, _, rfl, rfl, _, rfl, ite2 (fun q => ?_) (fun q => ?_)⟩
      · exact ⟨_, rfl, k _ _ (D _)⟩
      · refine ⟨_, rfl, _, rfl, wl, _, _, _, rfl, rfl, SqL.of upd_same, atI_nat (j := 1) rfl, _, _, rfl, rfl, .inl (by decide), _, _, rfl, rfl, ?_⟩
        exact ⟨_, rfl, fun r => k _ _ (D _)⟩
    · have D : Drawn ⟨wl, c⟩ H (upd H wl (.lst [.ref c, .int ((pos : Int) + 1), .int rest, .int mix])) := ⟨.updw, ⟨cells, pos + 1, rest, mix, upd_same, u2, n, l⟩⟩
      refine ⟨_, rfl, wl, _, _, _, rfl, rfl, SqL.of u1, atI_nat (j := 3) rfl, _, rfl, wl, _, _, _, rfl, rfl, SqL.of u1, atI_nat (j := 1) rfl, _, _, rfl, rfl, .inl (by decide), _, _, rfl, rfl, ?_⟩
      exact ⟨_, rfl, fun r => k _ _ D⟩
def spDraw : Sp := fun vs H Q _ => ∃ (wl : WA) (m : Int), vs = [.ref wl.w, .int m] ∧ Well H wl ∧ 0 < m ∧ m < 2 ^ 62 ∧ ∀ (d : Int) (H' : Hp), 0 ≤ d → d < m → Drawn wl H H' → Q (.int d) H'
theorem scDraw : FnScope ["well", "many", "told"] ["well", "many"] (defScope sDraw) := ⟨rfl, rfl, rfl, by decide +kernel, rfl, by decide +kernel, by decide +kernel⟩
theorem ok_draw {f fM fF : Addr} {fd fdM fdF : FuncData} (F : Fun K "_law_draw" "_law_draw" sDraw f fd) (B : Bt mg) (DM : Df K mg "_law_mixed" sMixed ["number"] fM fdM) (DF : Df K mg "_law_filled" sFilled ["well"] fF fdF) : FnOk P w K mg base CX0 3 f fd ["well", "many"] spDraw := by
  have GF : FnOk P w K mg base CX0 2 fF fdF ["well"] spFilled := ok_filled DF.F B DM
  refine F.ok scDraw (fun vs H Q E h => ?_) (fun cdv A outer s H vs Q E hr h => ?_)
  · obtain ⟨n, m, rfl, _⟩ := h
    rfl
  · obtain ⟨wl, m, rfl, W, m0, m1, k⟩ := h
    have hI := B.int
    refine ⟨_, Evl.pss_cut (ps_if (pt_cmpR op_eq (pe_ix ix_list (pv 0) pe_int (fun _ _ => rfl)) pe_int (nomark _)) (pss_one (ps_asg (pe_call GF hr (by rfl) DF.g DF.F.kp DF.b .nil pass0 (pa_cons (pv 0) pa_nil)) (pg_sub (pv 0) pe_int set_list))) pss_nil)
      (pss_cons (ps_set (i := 2) scDraw.nd rfl (.inl rfl) (pe_op op_modN (pe_callTy call_int1 (by rfl) hI boot_int (pa_cons (pe_ix ix_list (pv 0) pe_int (fun _ _ => rfl)) pa_nil)) (pv 1)))
      (pss_cons (ps_asg (pe_op op_fdivW (pe_callTy call_int1 (by rfl) hI boot_int (pa_cons (pe_ix ix_list (pv 0) pe_int (fun _ _ => rfl)) pa_nil)) (pv 1)) (pg_sub (pv 0) pe_int set_list))
      (pss_one (ps_ret (pv 2))))), ?_⟩
    refine ⟨fun σ' H' => σ' = [some (.ref wl.w), some (.int m), none] ∧ Drawn wl H H', ?_, ?_⟩
    · obtain ⟨cells, pos, rest, mix, h1, h2, n, l⟩ := W.ex
      refine ⟨_, rfl, wl.w, _, _, _, rfl, rfl, SqL.of h1, atI_nat (j := 2) rfl, rfl, _, rfl, ite2 (fun q => ?_) (fun q => ⟨rfl, .refl W⟩)⟩
      refine ⟨_, rfl, wl, rfl, W, fun r H1 D => ?_⟩
      obtain ⟨cells, pos, rest, mix, h1, h2, n, l⟩ := D.well.ex
      refine ⟨_, rfl, wl.w, _, _, _, rfl, rfl, h1, rfl, rfl, D.keep.trans .updw, cells, pos, r, mix, upd_same, ?_, n, l⟩
      rw [upd_ne n]
      exact h2
    · rintro σ' H1 ⟨rfl, D⟩
      obtain ⟨cells, pos, rest, mix, h1, h2, n, l⟩ := D.well.ex
      have b1 := fmod_lt (a := rest) m0
      refine ⟨_, rfl, wl.w, _, _, _, rfl, rfl, SqL.of h1, atI_nat (j := 2) rfl, .inl ⟨_, rfl, _, rfl, _, _, rfl, rfl, (by show m ≠ 0; omega), ?_⟩⟩
      refine ⟨_, rfl, wl.w, _, _, _, rfl, rfl, SqL.of h1, atI_nat (j := 2) rfl, .inl ⟨_, rfl, _, rfl, _, _, rfl, rfl, wide_div m0 (b := 62) (by omega) (by decide) (by decide), ?_⟩⟩
      refine ⟨_, rfl, wl.w, _, _, _, rfl, rfl, h1, rfl, ?_⟩
      refine ⟨_, rfl, k _ _ b1.1 b1.2 ⟨D.keep.trans .updw, cells, pos, _, mix, upd_same, ?_, n, l⟩⟩
      rw [upd_ne n]
      exact h2
end
end Hs
namespace Hs
open PySem PySem.Spec PyProof.Rows L2
abbrev sIsInt : Stmt := topS 13
abbrev sFromOne : Stmt := topS 14
abbrev sPair : Stmt := topS 15
abbrev sIsSigns : Stmt := topS 16
abbrev sAscending : Stmt := topS 17
abbrev sHome : Stmt := topS 18
abbrev sHand : Stmt := topS 19
abbrev sName : Stmt := topS 20
abbrev sText : Stmt := topS 21
abbrev sPiece : Stmt := topS 22
abbrev sBlockId : Stmt := topS 23
abbrev sRow : Stmt := topS 24
abbrev sStamp : Stmt := topS 25
abbrev sHead : Stmt := topS 26
abbrev sMembers : Stmt := topS 27
abbrev sMajority : Stmt := topS 28
abbrev sFew : Stmt := topS 29
abbrev sChopped : Stmt := topS 30
abbrev sJoined : Stmt := topS 31
abbrev lNumber : Stmt := topS 37
abbrev sSigns : Stmt := topS 38
abbrev sString : Stmt := topS 39
abbrev lName : Stmt := topS 40
abbrev lAny : Stmt := topS 42
abbrev lNodes : Stmt := topS 43
abbrev lChanged : Stmt := topS 44
abbrev lSpoilt : Stmt := topS 45
abbrev lId : Stmt := topS 46
abbrev lStamp : Stmt := topS 47
abbrev lRow : Stmt := topS 48
abbrev lMembers : Stmt := topS 49
abbrev lCount : Stmt := topS 50
abbrev lLong : Stmt := topS 51
abbrev lRising : Stmt := topS 52
abbrev lNameFits : Stmt := topS 53
abbrev lHandFits : Stmt := topS 54
abbrev lSignsFit : Stmt := topS 55
abbrev lIdFits : Stmt := topS 56
abbrev lStampFits : Stmt := topS 57
abbrev lRowFits : Stmt := topS 58
abbrev lMembersFit : Stmt := topS 59
abbrev lThing : Stmt := topS 60
abbrev lFlagsDue : Stmt := topS 61
abbrev lFlagsTold : Stmt := topS 62
abbrev lCounted : Stmt := topS 63
abbrev lMembersHold : Stmt := topS 64
abbrev lTextRefused : Stmt := topS 65
abbrev lPiecesRefused : Stmt := topS 66
abbrev lPiecesFit : Stmt := topS 67
abbrev lLaw : Stmt := topS 68
/-- an own error class without an __init__, over ValueError -/
structure Ec (K : PySem.W.Frag) (mg : Str → Option Value) (x : Str) (C : Addr) : Prop where
  g : mg x = some (.ref C)
  x : PySem.W.excIn K C [.type "ValueError", .type "Exception", .type "BaseException", .type "object"] "ValueError.__new__" = true
  k : PySem.W.keepIn K (.ref C) = true
  b : PySem.W.subIn K (.ref C) (.type "BaseException") = some true
  t : PySem.W.typeIn K (.ref C) = some (.type "type")
  e : PySem.W.exmOne K (.ref C) (.ref C) = some true
section
variable {X : Cx} {C : Addr} {bmB : List Value} {B newId initId : String}
/-- X() -/
theorem pmk_own0 {x : Str} {p pos : Pos} (F : ExcBaseFacts B newId initId bmB) (q : PySem.W.excIn X.K C bmB newId = true) (gC : X.mg x = some (.ref C)) (kC : PySem.W.keepIn X.K (.ref C) = true) (r : Raises X (.ref C)) (hg : Gl X x)
    (hdb : (x == ("__debug__" : Str)) = false := by decide) : PMk X (.Call (.Name x p) [] [] pos) (fun _ H Q => Q (.ref C) none H) := by
  intro pins s σ H Q I h
  refine wpAny_Call_Name_kw (ld_glob I hg gC ?_ hdb)
  refine PySem.W.callWith_K0 I.kIn kC ?_
  show wpAny _ _ (call (.ref C) []) _ _ _
  obtain ⟨bm, N, nm, qn, bs, hdct, sn, sub, ab, col, dd, k0, k1, k2, k3, k5, mN, hC, hN, hni, T⟩ := exc_obj I.kIn q
  refine wpAny_call_exc_subT F T hC hN hni (fun h' e hm => ?_) (Nat.zero_le _)
  exact mk_of I hm r h (I.hok.gone hm.new)
end
/-! ### signs -/
def okc (c : Nat) : Bool := decide (32 ≤ c) && decide (c ≤ 126)
def okz (z : Str) : Bool := (TL.tl z).all okc
theorem lt1 (a b : Nat) : decide (([a] : List Nat) < [b]) = decide (a < b) := by
  by_cases h : a < b
  · rw [decide_eq_true h]
    exact decide_eq_true (List.cons_lt_cons_iff.mpr (.inl h))
  · rw [decide_eq_false h]
    refine decide_eq_false fun q => ?_
    rcases List.cons_lt_cons_iff.mp q with q | ⟨_, q⟩
    · exact h q
    · exact absurd q (List.not_lt_nil _)
theorem not_lt1 (a b : Nat) : (!decide (([b] : List Nat) < [a])) = decide (a ≤ b) := by
  rw [lt1]
  by_cases h : b < a
  · rw [decide_eq_true h, decide_eq_false (by omega)]
    rfl
  · rw [decide_eq_false h, decide_eq_true (by omega)]
    rfl
def bit : Nat := 1000000
theorem bit_line : bit < sizeLine := by
  rw [sizeLine_eq]
  decide
theorem boot_str : bootBuiltins "str" = some (.type "str") := by decide +kernel
theorem boot_tuple' : bootBuiltins "tuple" = some (.type "tuple") := by decide +kernel
theorem boot_isi : bootBuiltins "isinstance" = some (.builtin "isinstance") := by decide +kernel
theorem boot_all' : bootBuiltins "all" = some (.builtin "all") := by decide +kernel
theorem kit_ss : kitB "str" "str" = some true := by decide +kernel
theorem codes_get {z : Str} {i c : Nat} (h : z.cps[i]? = some c) : (TL.tl z)[i]? = some c := by
  show z.cps.toList[i]? = some c
  rw [Array.getElem?_toList]
  exact h
section
variable {P : Program} {w : World} {K : PySem.W.Frag} {mg : Str → Option Value} {base : Heap}
/-! ### the law's signs -/
def signsZ : Str := (" !\"#$&'()*+,-./0123456789:;<=>?@ABCDEFGHIJKLMNOPQRSTUVWXYZ[\\]^_`" : Str) ++ ("abcdefghijklmnopqrstuvwxyz{|}~" : Str)
def okS (c : Nat) : Bool := okc c && decide (c ≠ 37)
theorem signs_len : (TL.tl signsZ).length = 94 := by decide +kernel
theorem signs_ok : (TL.tl signsZ).all okS = true := by decide +kernel
theorem scSigns : FnScope ["signs"] [] (defScope sSigns) := ⟨rfl, rfl, rfl, by decide +kernel, rfl, by decide +kernel, by decide +kernel⟩
def spSigns : Sp := fun vs H Q _ => vs = [] ∧ Q (.str signsZ) H
theorem ok_signs {f : Addr} {fd : FuncData} (F : Fun K "_law_signs" "_law_signs" sSigns f fd) : FnOk P w K mg base CX0 1 f fd [] spSigns := by
  refine F.ok scSigns (fun vs H Q E h => ?_) (fun cdv A outer s H vs Q E hr h => ?_)
  · rw [h.1]
    rfl
  · obtain ⟨rfl, k⟩ := h
    refine ⟨_, pss_cons (ps_set (i := 0) scSigns.nd rfl (.inl rfl) pe_str) (pss_one (ps_ret (pe_op op_add_str (pv 0) pe_str))), ?_⟩
    exact ⟨_, rfl, _, _, rfl, rfl, (by rw [sizeLine_eq]; decide +kernel), k⟩
/-- a text of signs but the percent sign -/
def lawz (z : Str) : Prop := ∀ c ∈ TL.tl z, okS c = true
theorem lawz.ok {z : Str} (h : lawz z) : okz z = true := List.all_eq_true.mpr fun c hc => by
  have := h c hc
  unfold okS at this
  rw [Bool.and_eq_true] at this
  exact this.1
theorem sgn_tl (c : Nat) : TL.tl (⟨#[c]⟩ : Str) = [c] := rfl
theorem join_tl (zs : List Str) : TL.tl (Txt.join ("" : Str) zs) = (zs.map TL.tl).flatten := by
  rw [TL.join_eq, TL.tl_join]
  have e : TL.tl ("" : Str) = [] := rfl
  rw [e]
  generalize zs.map TL.tl = l
  induction l with
  | nil => rfl
  | cons p r ih =>
    cases r with
    | nil => simp [TL.joinL]
    | cons q r =>
      show p ++ ([] ++ TL.joinL [] (q :: r)) = _
      rw [ih]
      rfl
def spString : Sp := fun vs H Q _ => ∃ (wl : WA) (m : Int), vs = [.ref wl.w, .int m] ∧ Well H wl ∧ m ≤ 1000 ∧ -1000 ≤ m ∧ ∀ (z : Str) (H' : Hp), z.length = m.toNat → lawz z → Drawn wl H H' → Q (.str z) H'
theorem scString : FnScope ["well", "many", "signs", "k"] ["well", "many"] (defScope sString) := ⟨rfl, rfl, rfl, by decide +kernel, rfl, by decide +kernel, by decide +kernel⟩
/-- the defs that draw -/
structure Dr (P : Program) (w : World) (K : PySem.W.Frag) (mg : Str → Option Value) (base : Heap) (fM fF fD fG fT : Addr) (dM dF dD dG dT : FuncData) : Prop where
  M : Df K mg "_law_mixed" sMixed ["number"] fM dM
  F : Df K mg "_law_filled" sFilled ["well"] fF dF
  D : Df K mg "_law_draw" sDraw ["well", "many"] fD dD
  G : Df K mg "_law_signs" sSigns [] fG dG
  T : Df K mg "_law_string" sString ["well", "many"] fT dT
  B : Bt mg
theorem cell_strs {D : Addr} {H : Hp} {zs : List Str} (h : H D = some (.lst (zs.map V.str))) : SqL K H D (zs.map V.str) := SqL.of h
theorem ok_string {fM fF fD fG fT : Addr} {dM dF dD dG dT : FuncData} (R : Dr P w K mg base fM fF fD fG fT dM dF dD dG dT) : FnOk P w K mg base CX0 4 fT dT ["well", "many"] spString := by
  have GD : FnOk P w K mg base CX0 3 fD dD ["well", "many"] spDraw := ok_draw R.D.F R.B R.M R.F
  have GG : FnOk P w K mg base CX0 3 fG dG [] spSigns := (ok_signs R.G.F).mono (by decide)
  refine R.T.F.ok scString (fun vs H Q E h => ?_) (fun cdv A outer s H vs Q E hr h => ?_)
  · obtain ⟨n, m, rfl, _⟩ := h
    rfl
  · obtain ⟨wl, m, rfl, W, m1, m2, k⟩ := h
    have hR := R.B.range
    refine ⟨_, pss_cons (ps_set (i := 2) scString.nd rfl (.inr rfl) (pe_call0 GG hr (by rfl) R.G.g R.G.F.kp R.G.b .nil pass0))
      (pss_one (ps_ret (pe_join pe_str (pe_lc (own := [("k", 3)]) (g := gName 3) (tt := tYes) rfl scString.nd (pi_range1 (by rfl) hR (pa_cons (pv 1) pa_nil)) (blkOk_by (N := ["well", "many", "signs", "k"]) (sc := defScope sString) (by decide +kernel))
        (fun _ _ _ _ _ => pg_name (i := 3) scString.nd rfl (Or.inl rfl)) (fun _ _ _ _ _ => pts_nil)
        (fun _ _ _ _ _ => pe_ix ix_str (pv 2) (pe_call GD hr (by rfl) R.D.g R.D.F.kp R.D.b .nil pass0 (pa_cons (pv 0) (pa_cons pe_int pa_nil))) (fun _ _ => rfl)))))), ?_⟩
    refine ⟨rfl, ⟨_, rfl⟩, _, rfl, m, rfl, by omega, by omega, fun D hD => ?_⟩
    refine lc_range (lo := 0) (n := m.toNat) (fun i H' => Drawn wl H H' ∧ ∃ zs : List Str, H' D = some (.lst (zs.map V.str)) ∧ zs.length = i ∧ ∀ z ∈ zs, ∃ c, z = ⟨#[c]⟩ ∧ okS c = true)
      ⟨(Drawn.refl W).new hD, [], upd_same, rfl, fun z hz => by cases hz⟩ ?_ ?_
    · rintro i H1 hi ⟨D1, zs, hz, hl, hc⟩
      have nD := (W.ne hD).1
      refine ⟨rfl, _, rfl, _, rfl, wl, 94, rfl, D1.well, by decide, by decide, fun d H2 d0 d1 D2 => ?_⟩
      have hd : d.toNat < (TL.tl signsZ).length := by
        rw [signs_len]
        omega
      have ho : okS (TL.tl signsZ)[d.toNat] = true := List.all_eq_true.mp signs_ok _ (List.getElem_mem hd)
      refine ⟨signsZ, d, (TL.tl signsZ)[d.toNat], rfl, rfl, ?_, ?_, zs.map V.str, D2.keep D _ nD hz, ?_, ?_⟩
      · rw [TL.len_tl, signs_len, sizeLine_eq]
        decide
      · have e : d = ((d.toNat : Nat) : Int) := by omega
        have hg : (TL.tl signsZ)[d.toNat]? = some (TL.tl signsZ)[d.toNat] := List.getElem?_eq_getElem hd
        have := atI_nat hg
        rw [← e] at this
        exact this
      · rw [List.length_map]
        have := bit_line
        unfold bit at this
        omega
      · refine ⟨(D1.trans D2).put W hD, zs ++ [⟨#[(TL.tl signsZ)[d.toNat]]⟩], ?_, ?_, ?_⟩
        · rw [upd_same, List.map_append]
          rfl
        · rw [List.length_append, hl]
          rfl
        · intro z hz
          rcases List.mem_append.mp hz with hz | hz
          · exact hc z hz
          · exact ⟨_, List.mem_singleton.mp hz, ho⟩
    · rintro H1 ⟨D1, zs, hz, hl, hc⟩
      have hs : ∀ l : List Str, (∀ z ∈ l, ∃ c, z = ⟨#[c]⟩ ∧ okS c = true) → (l.map (·.length)).sum = l.length ∧ ((l.map TL.tl).flatten).length = l.length ∧ ∀ c ∈ (l.map TL.tl).flatten, okS c = true := by
        intro l
        induction l with
        | nil => exact fun _ => ⟨rfl, rfl, fun c hc => by cases hc⟩
        | cons a r ih =>
          intro h
          obtain ⟨i1, i2, i3⟩ := ih fun z hz => h z (List.mem_cons_of_mem _ hz)
          obtain ⟨c, ec, oc⟩ := h a List.mem_cons_self
          subst ec
          refine ⟨?_, ?_, ?_⟩
          · rw [List.map_cons, List.sum_cons, i1, List.length_cons]
            show 1 + r.length = r.length + 1
            omega
          · show (TL.tl (⟨#[c]⟩ : Str) ++ (r.map TL.tl).flatten).length = _
            rw [sgn_tl, List.length_append, i2, List.length_cons]
            show 1 + r.length = r.length + 1
            omega
          · intro b hb
            have hb' : b ∈ TL.tl (⟨#[c]⟩ : Str) ++ (r.map TL.tl).flatten := hb
            rcases List.mem_append.mp hb' with hb | hb
            · rw [sgn_tl] at hb
              rw [List.mem_singleton.mp hb]
              exact oc
            · exact i3 b hb
      obtain ⟨h1, h2, h3⟩ := hs zs hc
      refine ⟨_, D, zs, rfl, rfl, .inl (SqL.of hz), ?_, k _ _ ?_ ?_ D1⟩
      · show (zs.map (·.length)).sum + zs.length * 0 ≤ 16777216
        omega
      · rw [TL.len_tl, join_tl, h2, hl]
      · intro c hc
        rw [join_tl] at hc
        exact h3 c hc
/-! ### the well -/
def spWell (K : PySem.W.Frag) : Sp := fun vs H Q _ => ∃ (a : Addr) (ns : List Int), vs = [.ref a] ∧ SqL K H a (ns.map V.int) ∧ ∀ (wl : WA) (H' : Hp), Same H H' → Well H' wl → Q (.ref wl.w) H'
theorem scWell : FnScope ["script", "cell"] ["script"] (defScope sWell) := ⟨rfl, rfl, rfl, by decide +kernel, rfl, by decide +kernel, by decide +kernel⟩
theorem ok_well {f : Addr} {fd : FuncData} (F : Fun K "_law_well" "_law_well" sWell f fd) (B : Bt mg) : FnOk P w K mg base CX0 1 f fd ["script"] (spWell K) := by
  refine F.ok scWell (fun vs H Q E h => ?_) (fun cdv A outer s H vs Q E hr h => ?_)
  · obtain ⟨n, m, rfl, _⟩ := h
    rfl
  · obtain ⟨a, ns, rfl, hS, k⟩ := h
    have hI := B.int
    refine ⟨_, pss_one (ps_ret (pe_lst (pa_cons (pe_lc (own := [("cell", 1)]) (g := gName 1) (tt := tYes) rfl scWell.nd (pi_list (pe_slice sl_list (pv 0) po_none (po_some pe_int))) (blkOk_by (N := ["script", "cell"]) (sc := defScope sWell) (by decide +kernel))
        (fun _ _ _ _ _ => pg_name (i := 1) scWell.nd rfl (Or.inl rfl)) (fun _ _ _ _ _ => pts_nil) (fun _ _ _ _ _ => pe_callTy call_int1 (by rfl) hI boot_int (pa_cons (pv 1) pa_nil)))
      (pa_cons pe_int (pa_cons pe_int (pa_cons pe_int pa_nil)))))), ?_⟩
    refine ⟨_, rfl, _, rfl, a, _, rfl, hS, fun p hp => ?_⟩
    have ec : cutV (ns.map V.int) none (some 63) = (ns.take 63).map V.int := by
      unfold cutV
      rw [HT.sIx_none, show HT.sIx (ns.map V.int).length (ns.map V.int).length (some 63) = min 63 (ns.map V.int).length from HT.sIx_nat _ _ 63]
      show List.take (min 63 (ns.map V.int).length - 0) (List.drop 0 (ns.map V.int)) = _
      rw [List.drop_zero, Nat.sub_zero, List.map_take, List.take_eq_take_iff]
      omega
    rw [ec]
    have l63 : (ns.take 63).length ≤ 63 := by
      rw [List.length_take]
      omega
    clear ec
    generalize ns.take 63 = cs at l63
    have s1 : Same H (upd H p (.lst (cs.map V.int))) := same_upd hp
    refine ⟨p, rfl, ⟨_, SqL.of upd_same⟩, fun D hD => ?_⟩
    have nDp : p ≠ D := ne_of_none upd_same hD
    refine lc_list (K := K) (a := p) (xs := cs.map V.int) (fun i H' => Same H H' ∧ H' p = some (.lst (cs.map V.int)) ∧ H' D = some (.lst ((cs.take i).map V.int)))
      ⟨s1.trans (same_upd hD), by rw [upd_ne nDp, upd_same], upd_same⟩ (fun i H' _ p => SqL.of p.2.1) ?_ ?_
    · rintro i x H1 hi ⟨sm, h1, h2⟩
      rw [List.getElem?_map] at hi
      cases e : cs[i]? with
      | none =>
        rw [e] at hi
        cases hi
      | some n =>
        rw [e] at hi
        have ex := Option.some.inj hi
        subst ex
        have hl := (List.getElem?_eq_some_iff.mp e).1
        refine ⟨rfl, _, rfl, .inl ⟨_, rfl, _, h2, ?_, fun b o hb => ?_, ?_, ?_⟩⟩
        · rw [List.length_map, List.length_take]
          have := bit_line
          unfold bit at this
          omega
        · rw [upd_ne (ne_of_none hb (s1.free hD))]
          exact sm _ _ hb
        · rw [upd_ne nDp]
          exact h1
        · rw [upd_same, List.take_add_one, e, List.map_append]
          rfl
    · rintro H1 ⟨sm, h1, h2⟩
      rw [List.length_map, List.take_length] at h2
      refine ⟨by show 4 ≤ sizeLine; decide, fun q hq => ?_⟩
      have nDq : D ≠ q := ne_of_none h2 hq
      refine k ⟨q, D⟩ _ (sm.trans (same_upd hq)) ⟨cs, 0, 0, 1, ?_, ?_, nDq, l63⟩
      · exact upd_same
      · rw [upd_ne nDq]
        exact h2
end
end Hs
/-! what is true of any value: read as values -/
namespace Hu
open PySem
mutual
/-- how long it is when shown, at most -/
def wt : U → Nat
  | .non => 4
  | .bl _ => 5
  | .int _ => 80
  | .str z => 2 * z.length + 2
  | .tup us => wtL us + 3
  | .lst us => wtL us + 2
  | .dct us => wtL us + 30
  | .exc => 30
def wtL : List U → Nat
  | [] => 0
  | u :: us => wt u + 2 + wtL us
end
mutual
/-- its signs are a text's or line feeds, its integers small -/
def clean : U → Prop
  | .int i => i.natAbs < 2 ^ 65
  | .str z => ∀ c ∈ TL.tl z, Hs.okS c = true ∨ c = 10
  | .tup us | .lst us | .dct us => cleanL us
  | _ => True
def cleanL : List U → Prop
  | [] => True
  | u :: us => clean u ∧ cleanL us
end
structure Fine (u : U) : Prop where
  w : wt u ≤ 1000000
  c : clean u
theorem wt_pos : ∀ u : U, 1 ≤ wt u := fun u => by cases u <;> simp only [wt] <;> omega
theorem wt_mem : ∀ {us : List U} {u : U}, u ∈ us → wt u ≤ wtL us
  | _ :: us, _, .head _ => by simp only [wtL]; omega
  | _ :: us, _, .tail _ h => by have := wt_mem h; simp only [wtL]; omega
theorem wt_len : ∀ us : List U, 2 * us.length ≤ wtL us
  | [] => Nat.zero_le _
  | u :: us => by have := wt_len us; simp only [wtL, List.length_cons]; omega
theorem clean_mem : ∀ {us : List U} {u : U}, cleanL us → u ∈ us → clean u
  | _ :: _, _, h, .head _ => h.1
  | _ :: _, _, h, .tail _ q => clean_mem h.2 q
theorem Fine.tup {us : List U} (h : Fine (.tup us)) : ∀ u ∈ us, Fine u := fun u hu => ⟨by have := h.w; have := wt_mem hu; simp only [wt] at *; omega, clean_mem (by simpa only [clean] using h.c) hu⟩
theorem Fine.len {us : List U} (h : Fine (.tup us)) : us.length ≤ 500000 := by
  have := h.w
  have := wt_len us
  simp only [wt] at *
  omega
theorem Fine.str {z : Str} (h : Fine (.str z)) : z.length ≤ 500000 := by
  have := h.w
  simp only [wt] at *
  omega
theorem isT_int {u : U} (h : (isT u "int" && !isT u "bool") = true) : ∃ i, u = .int i := by
  cases u with
  | int i => exact ⟨i, rfl⟩
  | _ => simp [isT, isS, tyU] at h
theorem isT_str {u : U} (h : isT u "str" = true) : ∃ z, u = .str z := by
  cases u with
  | str z => exact ⟨z, rfl⟩
  | _ => simp [isT, isS, tyU] at h
theorem isT_tup {u : U} (h : isT u "tuple" = true) : ∃ us, u = .tup us := by
  cases u with
  | tup us => exact ⟨us, rfl⟩
  | _ => simp [isT, isS, tyU] at h
end Hu
namespace Hs
open PySem PySem.Spec PyProof.Rows L2 Hu
section
variable {K : PySem.W.Frag} {σ : L2.St} {H H' : Hp} {ta tb tc te tl : TE} {r r' : R2} {x y z v : V} {w C : Addr} {u : U} {us : List U} {xs : List V}
open Evl
theorem ex_at (e : Ex H H') (h : At w C H v u) : At w C H' v u := h.keep fun b o _ q => e b o q
theorem ex_atl (e : Ex H H') (h : AtL w C H xs us) : AtL w C H' xs us := h.keep fun b o _ q => e b o q
theorem ev_chain {a b : Bool} (ha : Ev ta σ H x) (hb : Ev tb σ H y) (hc : Ev tc σ H z) (h1 : RV r x y H (.bl a)) (h2 : a = true → RV r' y z H (.bl b)) : Ev (tChain r r' ta tb tc) σ H (.bl (a && b)) := fun H1 e Q q =>
  ha H1 e _ fun H2 e2 => hb H2 (e.trans e2) _ fun H3 e3 => h1 H3 ((e.trans e2).trans e3) _ fun H4 e4 => ⟨a, rfl, by
    cases a with
    | false => exact q H4 ((e2.trans e3).trans e4)
    | true => exact hc H4 (((e.trans e2).trans e3).trans e4) _ fun H5 e5 => h2 rfl H5 ((((e.trans e2).trans e3).trans e4).trans e5) _ fun H6 e6 => q H6 ((((e2.trans e3).trans e4).trans e5).trans e6)⟩
theorem rv_le {i j : Int} : RV (rI0 fun i j => .bl (decide (i ≤ j))) (.int i) (.int j) H (.bl (decide (i ≤ j))) := rv_I0
abbrev rIsi (C : Addr) (T : String) : List V → Hp → VK → Prop := fun xs H Q => ∃ (v : V) (u : U) (w : Addr), xs = [v, .ty T] ∧ At w C H v u ∧ Q (.bl (isT u T)) H
theorem ev_isi {T : String} (h : Ev te σ H v) (hat : At w C H v u) : Ev (tCB (rIsi C T) (tCons te (tCons (tC (.ty T)) tNil))) σ H (.bl (isT u T)) :=
  ev_cb (ea_cons h (ea_cons ev_c ea_nil)) fun H1 e Q q => ⟨v, u, w, rfl, ex_at e hat, q H1 (Ex.refl H1)⟩
abbrev rLenQ (K : PySem.W.Frag) : List V → Hp → VK → Prop := fun xs H Q => ∃ p ys, xs = [.ref p] ∧ (SqL K H p ys ∨ SqT K H p ys) ∧ Q (.int ys.length) H
theorem ev_lenT {a : Addr} (h : Ev te σ H (.ref a)) (hx : H a = some (.tup xs)) : Ev (tCB (rLenQ K) (tCons te tNil)) σ H (.int (xs.length : Int)) :=
  ev_cb (ea_cons h ea_nil) fun H1 e Q q => ⟨a, xs, rfl, .inr (st_of (e _ _ hx)), q H1 (Ex.refl H1)⟩
abbrev rLenZ : List V → Hp → VK → Prop := fun xs H Q => ∃ z : Str, xs = [.str z] ∧ z.length ≤ sizeLine ∧ Q (.int z.length) H
theorem ev_lenS {z : Str} (h : Ev te σ H (.str z)) (hz : z.length ≤ sizeLine) : Ev (tCB rLenZ (tCons te tNil)) σ H (.int (z.length : Int)) :=
  ev_cb (ea_cons h ea_nil) fun H1 e Q q => ⟨z, rfl, hz, q H1 (Ex.refl H1)⟩
theorem ev_ixT {a : Addr} {j : Nat} (h : Ev te σ H (.ref a)) (hx : H a = some (.tup xs)) (hj : xs[j]? = some v) : Ev (tOp (rIxT K) te (tC (.int (j : Int)))) σ H v :=
  ev_op h ev_c (rv_ixT (st_of hx) (atI_nat hj))
theorem et_yes : EvT tYes σ H true := fun H1 _ Q q => q H1 (Ex.refl H1)
theorem len_fine {n : Nat} (h : n ≤ 1000000) : n ≤ sizeLine := Nat.le_trans h (Nat.le_of_lt bit_line)
/-- all([f(x) for x in a tuple]) -/
theorem ev_allT {a : Addr} {j : Nat} {vs : List Nat} {g : U → Bool} (h : Ev tl σ H (.ref a)) (hx : H a = some (.tup xs)) (hz : us.length ≤ 500000) (hl : AtL w C H xs us) (hw : ∀ x, wipe ((wipe σ vs).set j (some x)) vs = wipe σ vs)
    (he : ∀ (x : V) (u : U), u ∈ us → At w C H x u → Ev te ((wipe σ vs).set j (some x)) H (.bl (g u))) :
    Ev (tCB (rAll K) (tCons (tLc (iTup K tl) (gName j) tYes te vs) tNil)) σ H (.bl (us.all g)) := fun H0 e Q q => h H0 e _ fun H1 e1 => ⟨a, rfl, ⟨xs, st_of ((e.trans e1) _ _ hx)⟩, fun Dl hD =>
  lc_tup (xs := xs) (fun i H' => Ex H1 H' ∧ H' Dl = some (.lst ((us.take i).map fun u => V.bl (g u)))) ⟨Ex.new hD, upd_same⟩ (fun i H' _ p => st_of (((e.trans e1).trans p.1) _ _ hx)) (fun i x H2 hi p => by
    obtain ⟨p1, p2⟩ := p
    have hlen := AtL.length hl
    have hu : i < us.length := by
      have := (List.getElem?_eq_some_iff.mp hi).1
      omega
    obtain ⟨x', hx', hax⟩ := AtL.get hl (List.getElem?_eq_getElem hu)
    rw [hi] at hx'
    cases hx'
    refine ⟨hw x, he x us[i] (List.getElem_mem hu) hax H2 ((e.trans e1).trans p1) _ fun H3 e3 => ⟨_, e3 _ _ p2, ?_, fun q o hq => ?_, ?_⟩⟩
    · rw [List.length_map, List.length_take]
      have := bit_line
      unfold bit at this
      omega
    · rw [upd_ne (ne_of_none hq hD)]
      exact e3 _ _ (p1 _ _ hq)
    · rw [upd_same, List.take_add_one, List.getElem?_eq_getElem hu, List.map_append]
      rfl) (fun H' p => ⟨Dl, us.map g, rfl, sq_of (by
        rw [p.2, AtL.length hl, List.take_length, List.map_map]
        rfl), by
        have e2 : (us.map g).all id = us.all g := by
          rw [List.all_map]
          rfl
        rw [e2]
        exact q _ (e1.trans p.1)⟩)⟩
/-- all([f(c) for c in a string]) -/
theorem ev_allS {z : Str} {j : Nat} {vs : List Nat} {g : Nat → Bool} (h : Ev tl σ H (.str z)) (hz : z.length ≤ 500000) (hw : ∀ x, wipe ((wipe σ vs).set j (some x)) vs = wipe σ vs)
    (he : ∀ c ∈ TL.tl z, Ev te ((wipe σ vs).set j (some (.str ⟨#[c]⟩))) H (.bl (g c))) :
    Ev (tCB (rAll K) (tCons (tLc (iStr tl) (gName j) tYes te vs) tNil)) σ H (.bl ((TL.tl z).all g)) := fun H0 e Q q => h H0 e _ fun H1 e1 => ⟨z, rfl, fun Dl hD =>
  lc_it walk_str (fun i H' => Ex H1 H' ∧ H' Dl = some (.lst (((TL.tl z).take i).map fun u => V.bl (g u)))) ⟨Ex.new hD, upd_same⟩ (fun _ _ _ _ => True.intro) (fun i x H2 H2' hi p y => by
    obtain ⟨p1, p2⟩ := p
    obtain ⟨rfl, c, hc, rfl⟩ := y
    have hc' := codes_get hc
    have hl : i < (TL.tl z).length := (List.getElem?_eq_some_iff.mp hc').1
    refine ⟨hw _, he c (List.mem_of_getElem? hc') H2' ((e.trans e1).trans p1) _ fun H3 e3 => ⟨_, e3 _ _ p2, ?_, fun q o hq => ?_, ?_⟩⟩
    · rw [List.length_map, List.length_take]
      have := bit_line
      unfold bit at this
      have hq := TL.len_tl z
      omega
    · rw [upd_ne (ne_of_none hq hD)]
      exact e3 _ _ (p1 _ _ hq)
    · rw [upd_same, List.take_add_one, hc', List.map_append]
      rfl) (fun H' p => ⟨Dl, (TL.tl z).map g, rfl, sq_of (by
        rw [p.2, show z.cps.size = (TL.tl z).length from (TL.len_tl z).symm, List.take_length, List.map_map]
        rfl), by
        have e2 : ((TL.tl z).map g).all id = (TL.tl z).all g := by
          rw [List.all_map]
          rfl
        rw [e2]
        exact q _ (e1.trans p.1)⟩)⟩
end
/-! ### judges: a flag of any value, nothing is changed -/
def spJ (C : Addr) (g : U → Bool) : Sp := fun vs H Q _ => ∃ (v : V) (u : U) (w : Addr), vs = [v] ∧ At w C H v u ∧ Fine u ∧ ∀ H', Same H H' → Q (.bl (g u)) H'
structure Jd (P : Program) (w : World) (K : PySem.W.Frag) (mg : Str → Option Value) (base : Heap) (C : Addr) (k : Nat) (x : Str) (p : Str) (f : Addr) (fd : FuncData) (g : U → Bool) : Prop where
  ok : FnOk P w K mg base CX0 k f fd [p] (spJ C g)
  g : mg x = some (.ref f)
  kp : PySem.W.keepIn K (.ref f) = true
  b : Binds K fd [p] []
section
variable {P : Program} {wd : World} {K : PySem.W.Frag} {mg : Str → Option Value} {base : Heap} {C : Addr}
theorem Jd.imp {x p : Str} {k : Nat} {f : Addr} {fd : FuncData} {g g' : U → Bool} (J : Jd P wd K mg base C k x p f fd g) (h : ∀ u, Fine u → g u = g' u) : Jd P wd K mg base C k x p f fd g' :=
  ⟨J.ok.imp fun vs H Q E ⟨v, u, w, e, a, fi, q⟩ => ⟨v, u, w, e, a, fi, fun H' s => by rw [h u fi]; exact q H' s⟩, J.g, J.kp, J.b⟩
theorem spv_J {g : U → Bool} {H : Hp} {v : V} {u : U} {w : Addr} (hat : At w C H v u) (fi : Fine u) : Evl.SpV (spJ C g) [v] H (.bl (g u)) := fun H1 e Q q E => ⟨v, u, w, rfl, ex_at e hat, fi, q⟩
theorem ev_J {g : U → Bool} {H : Hp} {v : V} {u : U} {w : Addr} {σ : L2.St} {te : TE} {E : XK} (h : Evl.Ev te σ H v) (hat : At w C H v u) (fi : Fine u) : Evl.Ev (tCall (spJ C g) [] E (tCons te tNil)) σ H (.bl (g u)) :=
  Evl.ev_call (Evl.ea_cons h Evl.ea_nil) (spv_J hat fi)
theorem lenJ {g : U → Bool} {p : Str} : ∀ vs H Q E, spJ C g vs H Q E → vs.length = [p].length := fun vs H Q E h => by
  obtain ⟨v, u, w, rfl, _⟩ := h
  rfl
end
section
variable {X : Cx} {C : Addr} {CX : CXT} {E : XK}
theorem pe_J {x p : Str} {k j : Nat} {f : Addr} {fd : FuncData} {g : U → Bool} {e : Expr} {te : TE} {ps pos : Pos} (J : Jd X.prog X.w X.K X.mg X.base C k x p f fd g) (hr : Room j X.A) (h : k ≤ j) (hg : Gl X x) (hx : Passes CX0 X E) (he : PE X e te) (hdb : (x == ("__debug__" : Str)) = false := by decide)
    (hst : starEach [e] X.env = (false, eval e X.env) :: starEach [] X.env := by rfl) (hpl : (backTo pos (starEach [] X.env)).any (·.1) = false := by rfl) :
    PE X (.Call (.Name x ps) [e] [] pos) (tCall (spJ C g) [] E (tCons te tNil)) :=
  pe_call J.ok (hr.mono h) hg J.g J.kp J.b .nil hx (pa_cons he pa_nil hst) hdb hst hpl
end
end Hs
/-! the program's flags of any value -/
namespace Hs
open PySem PySem.Spec PyProof.Rows L2 Hu Evl
/-- what the text leaves to the built-ins, and its errors -/
structure Bs (K : PySem.W.Frag) (mg : Str → Option Value) (C : Addr) : Prop where
  B : Bt mg
  E : Xc K mg "NoTable" C "NoTable"
/-- the numbers that the text names -/
structure Cn (mg : Str → Option Value) : Prop where
  homes : ∃ t, mg "MOST_HOMES" = some (.int 9 t)
  hands : ∃ t, mg "MOST_HANDS" = some (.int 99 t)
  pieces : ∃ t, mg "MOST_PIECES" = some (.int 12 t)
  signs : ∃ t, mg "PIECE_SIGNS" = some (.int 8 t)
  names : ∃ t, mg "NAME_SIGNS" = some (.int 8 t)
  text : ∃ t, mg "TEXT_SIGNS" = some (.int 96 t)
theorem boot_bool' : bootBuiltins "bool" = some (.type "bool") := by decide +kernel
theorem boot_int' : bootBuiltins "int" = some (.type "int") := by decide +kernel
section
variable {X : Cx} {C : Addr} {e : Expr} {te : TE} {p p2 pos : Pos}
theorem pe_isiX {T : String} {T' : Str} (S : Bs X.K X.mg C) (hg : Gl X "isinstance") (hgT : Gl X T') (hT : X.mg T' = none) (bT : bootBuiltins T' = some (.type T)) (hm : T ∈ ["int", "bool", "str", "tuple"]) (he : PE X e te) (hn : T' ≠ "__name__") (hd : (T' == ("__debug__" : Str)) = false)
    (hst : starEach [e] X.env = (false, eval e X.env) :: starEach [] X.env := by rfl) (hst2 : starEach [e, .Name T' p2] X.env = (false, eval e X.env) :: starEach [.Name T' p2] X.env := by rfl) (hpl : (backTo pos (starEach [.Name T' p2] X.env)).any (·.1) = false := by rfl)
    (hst3 : starEach [.Name T' p2] X.env = (false, eval (.Name T' p2) X.env) :: starEach [] X.env := by rfl) :
    PE X (.Call (.Name "isinstance" p) [e, .Name T' p2] [] pos) (tCB (rIsi C T) (tCons te (tCons (tC (.ty T)) tNil))) :=
  pe_callB (call_isiU T S.E hm) hg S.B.isi boot_isi (pa_cons he (pa_cons (pe_bltn hgT hT bT (show RelV (.ty T) (.type T) from rfl) hn hd) pa_nil hst3) hst2) (by decide) (by decide) hst2 hpl
end
def iv (u : U) (p : Int → Bool) : Bool := match u with | .int i => p i | _ => false
def sv (u : U) (p : Str → Bool) : Bool := match u with | .str z => p z | _ => false
def tv (u : U) (p : List U → Bool) : Bool := match u with | .tup us => p us | _ => false
def gInt (u : U) : Bool := iv u fun _ => true
def gFrom (u : U) : Bool := iv u fun i => decide (1 ≤ i)
def gHome (u : U) : Bool := iv u fun i => decide (0 ≤ i) && decide (i < 9)
def gHand (u : U) : Bool := iv u fun i => decide (1 ≤ i) && decide (i ≤ 99)
def gPair (u : U) : Bool := tv u fun us => decide (us.length = 2)
def gSigns (u : U) : Bool := sv u okz
def lowc (c : Nat) : Bool := decide (97 ≤ c) && decide (c ≤ 122)
def gNam (u : U) : Bool := sv u fun z => (decide (1 ≤ z.length) && decide (z.length ≤ 8)) && (TL.tl z).all lowc
def gText (u : U) : Bool := sv u fun z => okz z && decide (z.length ≤ 96)
def gPiece (u : U) : Bool := sv u fun z => okz z && (decide (1 ≤ z.length) && decide (z.length ≤ 8))
def two (us : List U) (p : U → U → Bool) : Bool := match us with | [a, b] => p a b | _ => false
def gId (u : U) : Bool := tv u fun us => two us fun a b => gHand a && gFrom b
def gRow (u : U) : Bool := match u with | .non => true | .tup us => decide (us.length ≤ 12) && us.all gId | _ => false
def gStamp (u : U) : Bool := tv u fun us => two us fun a b => iv a fun i => iv b fun j => (decide (i = 0) && decide (j = 0)) || (decide (1 ≤ i) && (decide (1 ≤ j) && decide (j ≤ 99)))
def gHead (u : U) : Bool := tv u fun us => two us fun a b => gStamp a && gRow b
def intU (u : U) : Int := match u with | .int i => i | _ => 0
def ascI (ns : List Int) : Bool := (List.range (ns.length - 1)).all fun k => decide (ns.getD k 0 < ns.getD (k + 1) 0)
def gMembers (u : U) : Bool := tv u fun us => ((decide (1 ≤ us.length) && decide (us.length ≤ 9)) && us.all gHome) && ascI (us.map intU)
section
variable {P : Program} {wd : World} {K : PySem.W.Frag} {mg : Str → Option Value} {base : Heap} {C : Addr}
theorem scIsInt : FnScope ["thing"] ["thing"] (defScope sIsInt) := ⟨rfl, rfl, rfl, by decide +kernel, rfl, by decide +kernel, by decide +kernel⟩
theorem gInt_is (u : U) : (isT u "int" && !isT u "bool") = gInt u := by
  cases u <;> simp [isT, isS, tyU, gInt, iv]
theorem jd_int {f : Addr} {fd : FuncData} (D : Df K mg "is_integer" sIsInt ["thing"] f fd) (S : Bs K mg C) : Jd P wd K mg base C 1 "is_integer" "thing" f fd gInt := by
  refine ⟨D.F.ok scIsInt lenJ (fun cdv A outer s H vs Q E hr h => ?_), D.g, D.F.kp, D.b⟩
  obtain ⟨v, u, w, rfl, hat, fi, k⟩ := h
  refine ⟨_, pss_one (ps_ret (pe_and (pe_isiX S (by rfl) (by rfl) S.B.int boot_int' (by decide) (pv 0) (by decide) (by decide)) (pe_one (pe_not (pe_isiX S (by rfl) (by rfl) S.B.boo boot_bool' (by decide) (pv 0) (by decide) (by decide)))))), ?_⟩
  refine s_ret (ev_andV (ev_isi (ev_var rfl) hat) fun _ => ev_notV (ev_isi (ev_var rfl) hat)) fun H1 e => ?_
  rw [gInt_is]
  exact k H1 e
theorem scFrom : FnScope ["thing"] ["thing"] (defScope sFromOne) := ⟨rfl, rfl, rfl, by decide +kernel, rfl, by decide +kernel, by decide +kernel⟩
theorem gInt_int {u : U} (h : gInt u = true) : ∃ i, u = .int i := by
  cases u with
  | int i => exact ⟨i, rfl⟩
  | _ => cases h
theorem at_int {w : Addr} {H : Hp} {v : V} {i : Int} (h : At w C H v (.int i)) : v = .int i := by
  cases h
  rfl
theorem at_str {w : Addr} {H : Hp} {v : V} {z : Str} (h : At w C H v (.str z)) : v = .str z := by
  cases h
  rfl
theorem at_tup {w : Addr} {H : Hp} {v : V} {us : List U} (h : At w C H v (.tup us)) : ∃ a xs, v = .ref a ∧ H a = some (.tup xs) ∧ a ≠ w ∧ AtL w C H xs us := by
  cases h with
  | tup h n l => exact ⟨_, _, rfl, h, n, l⟩
/-- one more test of an integer -/
theorem iv_and (u : U) (p : Int → Bool) : (gInt u && iv u p) = iv u p := by
  cases u <;> rfl
theorem jd_from {f fI : Addr} {fd fdI : FuncData} (D : Df K mg "is_from_one" sFromOne ["thing"] f fd) (S : Bs K mg C) (J : Jd P wd K mg base C 1 "is_integer" "thing" fI fdI gInt) : Jd P wd K mg base C 2 "is_from_one" "thing" f fd gFrom := by
  refine ⟨D.F.ok scFrom lenJ (fun cdv A outer s H vs Q E hr h => ?_), D.g, D.F.kp, D.b⟩
  obtain ⟨v, u, w, rfl, hat, fi, k⟩ := h
  refine ⟨_, pss_one (ps_ret (pe_and (pe_J J hr (by decide) (by rfl) pass0 (pv 0)) (pe_one (pe_cmpR op_ge (pv 0) pe_int (nomark _))))), ?_⟩
  refine s_ret (ev_andV (b := gFrom u) (ev_J (ev_var rfl) hat fi) fun q => ?_) fun H1 e => ?_
  · obtain ⟨i, rfl⟩ := gInt_int q
    cases at_int hat
    exact ev_op (ev_var rfl) ev_c rv_I0
  · unfold gFrom
    rw [iv_and]
    exact k H1 e
theorem scHome : FnScope ["thing"] ["thing"] (defScope sHome) := ⟨rfl, rfl, rfl, by decide +kernel, rfl, by decide +kernel, by decide +kernel⟩
theorem jd_home {f fI : Addr} {fd fdI : FuncData} (D : Df K mg "is_home" sHome ["thing"] f fd) (S : Bs K mg C) (N : Cn mg) (J : Jd P wd K mg base C 1 "is_integer" "thing" fI fdI gInt) : Jd P wd K mg base C 2 "is_home" "thing" f fd gHome := by
  refine ⟨D.F.ok scHome lenJ (fun cdv A outer s H vs Q E hr h => ?_), D.g, D.F.kp, D.b⟩
  obtain ⟨v, u, w, rfl, hat, fi, k⟩ := h
  obtain ⟨t, h9⟩ := N.homes
  refine ⟨_, pss_one (ps_ret (pe_and (pe_J J hr (by decide) (by rfl) pass0 (pv 0)) (pe_one (pe_chain op_le op_lt pe_int (pv 0) (pe_glob (v := .int 9) rfl h9 ⟨_, rfl⟩))))), ?_⟩
  refine s_ret (ev_andV (b := gHome u) (ev_J (ev_var rfl) hat fi) fun q => ?_) fun H1 e => ?_
  · obtain ⟨i, rfl⟩ := gInt_int q
    cases at_int hat
    exact ev_chain ev_c (ev_var rfl) ev_c rv_I0 fun _ => rv_I0
  · unfold gHome
    rw [iv_and]
    exact k H1 e
theorem scHand : FnScope ["thing"] ["thing"] (defScope sHand) := ⟨rfl, rfl, rfl, by decide +kernel, rfl, by decide +kernel, by decide +kernel⟩
theorem jd_hand {f fI : Addr} {fd fdI : FuncData} (D : Df K mg "is_hand" sHand ["thing"] f fd) (S : Bs K mg C) (N : Cn mg) (J : Jd P wd K mg base C 1 "is_integer" "thing" fI fdI gInt) : Jd P wd K mg base C 2 "is_hand" "thing" f fd gHand := by
  refine ⟨D.F.ok scHand lenJ (fun cdv A outer s H vs Q E hr h => ?_), D.g, D.F.kp, D.b⟩
  obtain ⟨v, u, w, rfl, hat, fi, k⟩ := h
  obtain ⟨t, h9⟩ := N.hands
  refine ⟨_, pss_one (ps_ret (pe_and (pe_J J hr (by decide) (by rfl) pass0 (pv 0)) (pe_one (pe_chain op_le op_le pe_int (pv 0) (pe_glob (v := .int 99) rfl h9 ⟨_, rfl⟩))))), ?_⟩
  refine s_ret (ev_andV (b := gHand u) (ev_J (ev_var rfl) hat fi) fun q => ?_) fun H1 e => ?_
  · obtain ⟨i, rfl⟩ := gInt_int q
    cases at_int hat
    exact ev_chain ev_c (ev_var rfl) ev_c rv_I0 fun _ => rv_I0
  · unfold gHand
    rw [iv_and]
    exact k H1 e
theorem scPair : FnScope ["thing"] ["thing"] (defScope sPair) := ⟨rfl, rfl, rfl, by decide +kernel, rfl, by decide +kernel, by decide +kernel⟩
theorem tv_and (u : U) (p : List U → Bool) : (isT u "tuple" && tv u p) = tv u p := by
  cases u <;> simp [isT, isS, tyU, tv]
theorem sv_and (u : U) (p : Str → Bool) : (isT u "str" && sv u p) = sv u p := by
  cases u <;> simp [isT, isS, tyU, sv]
theorem dec_eq {n m : Nat} : decide (V.int (n : Int) = V.int (m : Int)) = decide (n = m) := by
  by_cases h : n = m
  · rw [decide_eq_true h, h, decide_eq_true rfl]
  · rw [decide_eq_false h, decide_eq_false]
    intro e
    have := V.int.inj e
    omega
theorem jd_pair {f : Addr} {fd : FuncData} (D : Df K mg "is_pair" sPair ["thing"] f fd) (S : Bs K mg C) : Jd P wd K mg base C 1 "is_pair" "thing" f fd gPair := by
  refine ⟨D.F.ok scPair lenJ (fun cdv A outer s H vs Q E hr h => ?_), D.g, D.F.kp, D.b⟩
  obtain ⟨v, u, w, rfl, hat, fi, k⟩ := h
  refine ⟨_, pss_one (ps_ret (pe_and (pe_isiX S (by rfl) (by rfl) S.B.tup boot_tuple' (by decide) (pv 0) (by decide) (by decide)) (pe_one (pe_cmpR op_eq (pe_callB call_len_seq (by rfl) S.B.len PySem.boot_len (pa_cons (pv 0) pa_nil)) pe_int (nomark _))))), ?_⟩
  refine s_ret (ev_andV (b := gPair u) (ev_isi (ev_var rfl) hat) fun q => ?_) fun H1 e => ?_
  · obtain ⟨us, rfl⟩ := isT_tup q
    obtain ⟨a, xs, rfl, ha, _, hl⟩ := at_tup hat
    have := ev_op (r := rEq) (σ := [some (V.ref a)]) (ev_lenT (K := K) (te := tVar 0) (ev_var rfl) ha) (ev_c (v := .int 2)) (rv_eq rfl)
    rw [show (2 : Int) = ((2 : Nat) : Int) from rfl, dec_eq, AtL.length hl] at this
    exact this
  · unfold gPair
    rw [tv_and]
    exact k H1 e
theorem scSig : FnScope ["thing", "sign"] ["thing"] (defScope sIsSigns) := ⟨rfl, rfl, rfl, by decide +kernel, rfl, by decide +kernel, by decide +kernel⟩
abbrev rLeS : R2 := fun x y H Q => ∃ i j : Str, x = .str i ∧ y = .str j ∧ Q (.bl (!decide (j.cps.toList < i.cps.toList))) H
theorem rv_leS {a b : Nat} {H : Hp} : RV rLeS (.str ⟨#[a]⟩) (.str ⟨#[b]⟩) H (.bl (decide (a ≤ b))) := fun H1 _ Q q => ⟨_, _, rfl, rfl, by
  show Q (.bl (!decide (([b] : List Nat) < [a]))) H1
  rw [not_lt1]
  exact q H1 (Ex.refl H1)⟩
theorem jd_signs {f : Addr} {fd : FuncData} (D : Df K mg "is_signs" sIsSigns ["thing"] f fd) (S : Bs K mg C) : Jd P wd K mg base C 1 "is_signs" "thing" f fd gSigns := by
  refine ⟨D.F.ok scSig lenJ (fun cdv A outer s H vs Q E hr h => ?_), D.g, D.F.kp, D.b⟩
  obtain ⟨v, u, w, rfl, hat, fi, k⟩ := h
  refine ⟨_, pss_one (ps_ret (pe_and (pe_isiX S (by rfl) (by rfl) S.B.str boot_str (by decide) (pv 0) (by decide) (by decide))
    (pe_one (pe_callB (cr_all rfl) (by rfl) S.B.all boot_all' (pa_cons (pe_lc (own := [("sign", 1)]) (g := gName 1) (tt := tYes) rfl scSig.nd (pi_str (pv 0)) (blkOk_by (N := ["thing", "sign"]) (sc := defScope sIsSigns) (by decide +kernel))
      (fun _ _ _ _ _ => pg_name (i := 1) scSig.nd rfl (Or.inl rfl)) (fun _ _ _ _ _ => pts_nil) (fun _ _ _ _ _ => pe_chain op_le_str op_le_str pe_str (pv 1) pe_str)) pa_nil))))), ?_⟩
  refine s_ret (ev_andV (b := gSigns u) (ev_isi (ev_var rfl) hat) fun q => ?_) fun H1 e => ?_
  · obtain ⟨z, rfl⟩ := isT_str q
    cases at_str hat
    exact ev_allS (ev_var rfl) fi.str (fun _ => rfl) fun c _ => ev_chain ev_c (ev_var rfl) ev_c rv_leS fun _ => rv_leS
  · unfold gSigns
    rw [sv_and]
    exact k H1 e
end
end Hs
namespace Hs
open PySem PySem.Spec PyProof.Rows L2 Hu Evl
section
variable {P : Program} {wd : World} {K : PySem.W.Frag} {mg : Str → Option Value} {base : Heap} {C : Addr}
theorem dec_le {n m : Nat} : decide ((n : Int) ≤ (m : Int)) = decide (n ≤ m) := by
  by_cases h : n ≤ m
  · rw [decide_eq_true h, decide_eq_true (by omega)]
  · rw [decide_eq_false h, decide_eq_false (by omega)]
theorem dec_lt {n m : Nat} : decide ((n : Int) < (m : Int)) = decide (n < m) := by
  by_cases h : n < m
  · rw [decide_eq_true h, decide_eq_true (by omega)]
  · rw [decide_eq_false h, decide_eq_false (by omega)]
theorem _root_.Hu.Fine.line {z : Str} (h : Fine (.str z)) : z.length ≤ sizeLine := len_fine (by have := h.str; omega)
theorem scIsText : FnScope ["thing"] ["thing"] (defScope sText) := ⟨rfl, rfl, rfl, by decide +kernel, rfl, by decide +kernel, by decide +kernel⟩
theorem gSigns_str {u : U} (h : gSigns u = true) : ∃ z, u = .str z := by
  cases u with
  | str z => exact ⟨z, rfl⟩
  | _ => cases h
def lenIn (lo hi : Nat) (u : U) : Bool := sv u fun z => decide (lo ≤ z.length) && decide (z.length ≤ hi)
theorem jd_text {f fI : Addr} {fd fdI : FuncData} (D : Df K mg "is_text" sText ["thing"] f fd) (S : Bs K mg C) (N : Cn mg) (J : Jd P wd K mg base C 1 "is_signs" "thing" fI fdI gSigns) : Jd P wd K mg base C 2 "is_text" "thing" f fd gText := by
  refine ⟨D.F.ok scIsText lenJ (fun cdv A outer s H vs Q E hr h => ?_), D.g, D.F.kp, D.b⟩
  obtain ⟨v, u, w, rfl, hat, fi, k⟩ := h
  obtain ⟨t, h9⟩ := N.text
  refine ⟨_, pss_one (ps_ret (pe_and (pe_J J hr (by decide) (by rfl) pass0 (pv 0)) (pe_one (pe_cmpR op_le (pe_callB call_len_str (by rfl) S.B.len PySem.boot_len (pa_cons (pv 0) pa_nil)) (pe_glob (v := .int 96) rfl h9 ⟨_, rfl⟩) (nomark _))))), ?_⟩
  refine s_ret (ev_andV (b := sv u fun z => decide (z.length ≤ 96)) (ev_J (ev_var rfl) hat fi) fun q => ?_) fun H1 e => ?_
  · obtain ⟨z, rfl⟩ := gSigns_str q
    cases at_str hat
    exact ev_is (ev_op (ev_lenS (ev_var rfl) fi.line) ev_c rv_I0) (by rw [show (96 : Int) = ((96 : Nat) : Int) from rfl, dec_le]; rfl)
  · have e2 : (gSigns u && sv u fun z => decide (z.length ≤ 96)) = gText u := by cases u <;> rfl
    rw [e2]
    exact k H1 e
theorem scIsPiece : FnScope ["thing"] ["thing"] (defScope sPiece) := ⟨rfl, rfl, rfl, by decide +kernel, rfl, by decide +kernel, by decide +kernel⟩
theorem jd_piece {f fI : Addr} {fd fdI : FuncData} (D : Df K mg "is_piece" sPiece ["thing"] f fd) (S : Bs K mg C) (N : Cn mg) (J : Jd P wd K mg base C 1 "is_signs" "thing" fI fdI gSigns) : Jd P wd K mg base C 2 "is_piece" "thing" f fd gPiece := by
  refine ⟨D.F.ok scIsPiece lenJ (fun cdv A outer s H vs Q E hr h => ?_), D.g, D.F.kp, D.b⟩
  obtain ⟨v, u, w, rfl, hat, fi, k⟩ := h
  obtain ⟨t, h9⟩ := N.signs
  refine ⟨_, pss_one (ps_ret (pe_and (pe_J J hr (by decide) (by rfl) pass0 (pv 0)) (pe_one (pe_chain op_le op_le pe_int (pe_callB call_len_str (by rfl) S.B.len PySem.boot_len (pa_cons (pv 0) pa_nil)) (pe_glob (v := .int 8) rfl h9 ⟨_, rfl⟩))))), ?_⟩
  refine s_ret (ev_andV (b := lenIn 1 8 u) (ev_J (ev_var rfl) hat fi) fun q => ?_) fun H1 e => ?_
  · obtain ⟨z, rfl⟩ := gSigns_str q
    cases at_str hat
    exact ev_is (ev_chain ev_c (ev_lenS (ev_var rfl) fi.line) ev_c rv_I0 fun _ => rv_I0) (by rw [show (8 : Int) = ((8 : Nat) : Int) from rfl, show (1 : Int) = ((1 : Nat) : Int) from rfl, dec_le, dec_le]; rfl)
  · have e2 : (gSigns u && lenIn 1 8 u) = gPiece u := by cases u <;> rfl
    rw [e2]
    exact k H1 e
theorem scIsName : FnScope ["thing", "sign"] ["thing"] (defScope sName) := ⟨rfl, rfl, rfl, by decide +kernel, rfl, by decide +kernel, by decide +kernel⟩
theorem jd_name {f : Addr} {fd : FuncData} (D : Df K mg "is_name" sName ["thing"] f fd) (S : Bs K mg C) (N : Cn mg) : Jd P wd K mg base C 2 "is_name" "thing" f fd gNam := by
  refine ⟨D.F.ok scIsName lenJ (fun cdv A outer s H vs Q E hr h => ?_), D.g, D.F.kp, D.b⟩
  obtain ⟨v, u, w, rfl, hat, fi, k⟩ := h
  obtain ⟨t, h8⟩ := N.names
  refine ⟨_, pss_cons (ps_if (PW.pt (pw_or (pt_not (pt_val (pe_isiX S (by rfl) (by rfl) S.B.str boot_str (by decide) (pv 0) (by decide) (by decide))))
      (pw_or1 (pt_not (pt_chain op_le op_le pe_int (pe_callB call_len_str (by rfl) S.B.len PySem.boot_len (pa_cons (pv 0) pa_nil)) (pe_glob (v := .int 8) rfl h8 ⟨_, rfl⟩))))))
      (pss_one (ps_ret pe_bl)) pss_nil)
    (pss_one (ps_ret (pe_callB (cr_all rfl) (by rfl) S.B.all boot_all' (pa_cons (pe_lc (own := [("sign", 1)]) (g := gName 1) (tt := tYes) rfl scIsName.nd (pi_str (pv 0)) (blkOk_by (N := ["thing", "sign"]) (sc := defScope sName) (by decide +kernel))
      (fun _ _ _ _ _ => pg_name (i := 1) scIsName.nd rfl (Or.inl rfl)) (fun _ _ _ _ _ => pts_nil) (fun _ _ _ _ _ => pe_chain op_le_str op_le_str pe_str (pv 1) pe_str)) pa_nil)))), ?_⟩
  refine s_if (b := !isT u "str" || !lenIn 1 8 u) (et_or (et_not (et_B (ev_isi (ev_var rfl) hat))) fun q => ?_) (fun q H1 e => ?_) (fun q H1 e => ?_)
  · rw [Bool.not_eq_false'] at q
    obtain ⟨z, rfl⟩ := isT_str q
    cases at_str hat
    exact et_not (et_test (ev_is (ev_chain ev_c (ev_lenS (ev_var rfl) fi.line) ev_c rv_I0 fun _ => rv_I0) (by rw [show (8 : Int) = ((8 : Nat) : Int) from rfl, show (1 : Int) = ((1 : Nat) : Int) from rfl, dec_le, dec_le]; rfl)))
  · refine s_ret ev_c fun H2 e2 => ?_
    have e3 : gNam u = false := by
      cases u with
      | str z =>
        simp [isT, isS, tyU] at q
        show (lenIn 1 8 (.str z) && _) = false
        rw [q]
        rfl
      | _ => rfl
    rw [← e3]
    exact k H2 (e.trans e2)
  · rw [Bool.or_eq_false_iff, Bool.not_eq_false', Bool.not_eq_false'] at q
    obtain ⟨z, rfl⟩ := isT_str q.1
    cases at_str hat
    refine s_ret (ev_allS (g := lowc) (ev_var rfl) fi.str (fun _ => rfl) fun c _ => ev_chain ev_c (ev_var rfl) ev_c rv_leS fun _ => rv_leS) fun H2 e2 => ?_
    have e3 : gNam (.str z) = (TL.tl z).all lowc := by
      show (lenIn 1 8 (.str z) && _) = _
      rw [q.2]
      rfl
    rw [← e3]
    exact k H2 (e.trans e2)
theorem two_of {us : List U} (h : us.length = 2) : ∃ a b, us = [a, b] := by
  match us, h with
  | [a, b], _ => exact ⟨a, b, rfl⟩
theorem atl_two {w : Addr} {H : Hp} {xs : List V} {a b : U} (h : AtL w C H xs [a, b]) : ∃ x y, xs = [x, y] ∧ At w C H x a ∧ At w C H y b := by
  cases h with
  | cons h1 h => cases h with
    | cons h2 h => cases h with
      | nil => exact ⟨_, _, rfl, h1, h2⟩
theorem gPair_two {u : U} (h : gPair u = true) : ∃ a b, u = .tup [a, b] := by
  cases u with
  | tup us =>
    obtain ⟨a, b, rfl⟩ := two_of (of_decide_eq_true h)
    exact ⟨a, b, rfl⟩
  | _ => cases h
theorem pair_at {w : Addr} {H : Hp} {v : V} {a b : U} (h : At w C H v (.tup [a, b])) : ∃ p x y, v = .ref p ∧ H p = some (.tup [x, y]) ∧ At w C H x a ∧ At w C H y b := by
  obtain ⟨p, xs, rfl, hp, _, hl⟩ := at_tup h
  obtain ⟨x, y, rfl, h1, h2⟩ := atl_two hl
  exact ⟨p, x, y, rfl, hp, h1, h2⟩
theorem pair_and (u : U) (p : U → U → Bool) : (gPair u && tv u fun us => two us p) = tv u fun us => two us p := by
  cases u with
  | tup us =>
    match us with
    | [] => rfl
    | [a] => rfl
    | [a, b] => rfl
    | a :: b :: c :: r => simp [gPair, tv, two]
  | _ => rfl
theorem _root_.Hu.Fine.fst {a b : U} (h : Fine (.tup [a, b])) : Fine a := h.tup a (by simp)
theorem _root_.Hu.Fine.snd {a b : U} (h : Fine (.tup [a, b])) : Fine b := h.tup b (by simp)
theorem scId : FnScope ["thing"] ["thing"] (defScope sBlockId) := ⟨rfl, rfl, rfl, by decide +kernel, rfl, by decide +kernel, by decide +kernel⟩
theorem jd_id {f f1 f2 f3 : Addr} {fd d1 d2 d3 : FuncData} (D : Df K mg "is_block_id" sBlockId ["thing"] f fd) (S : Bs K mg C) (JP : Jd P wd K mg base C 1 "is_pair" "thing" f1 d1 gPair) (JH : Jd P wd K mg base C 2 "is_hand" "thing" f2 d2 gHand) (JF : Jd P wd K mg base C 2 "is_from_one" "thing" f3 d3 gFrom) :
    Jd P wd K mg base C 3 "is_block_id" "thing" f fd gId := by
  refine ⟨D.F.ok scId lenJ (fun cdv A outer s H vs Q E hr h => ?_), D.g, D.F.kp, D.b⟩
  obtain ⟨v, u, w, rfl, hat, fi, k⟩ := h
  refine ⟨_, pss_one (ps_ret (pe_and (pe_J JP hr (by decide) (by rfl) pass0 (pv 0)) (pe_and (pe_J JH hr (by decide) (by rfl) pass0 (pe_ix ix_tup (pv 0) pe_int (fun _ _ => rfl))) (pe_one (pe_J JF hr (by decide) (by rfl) pass0 (pe_ix ix_tup (pv 0) pe_int (fun _ _ => rfl))))))), ?_⟩
  refine s_ret (ev_andV (b := gId u) (ev_J (ev_var rfl) hat fi) fun q => ?_) fun H1 e => ?_
  · obtain ⟨a, b, rfl⟩ := gPair_two q
    obtain ⟨p, x, y, rfl, hp, ha, hb⟩ := pair_at hat
    exact ev_andV (ev_J (ev_ixT (j := 0) (ev_var rfl) hp rfl) ha fi.fst) fun _ => ev_J (ev_ixT (j := 1) (ev_var rfl) hp rfl) hb fi.snd
  · unfold gId
    rw [pair_and]
    exact k H1 e
theorem scRow : FnScope ["thing", "item"] ["thing"] (defScope sRow) := ⟨rfl, rfl, rfl, by decide +kernel, rfl, by decide +kernel, by decide +kernel⟩
theorem ev_isN {σ : L2.St} {H : Hp} {te : TE} {v : V} (h : Ev te σ H v) : Ev (tOp rIsN te (tC .non)) σ H (.bl (decide (v = .non))) := ev_op h ev_c fun H1 _ Q q => ⟨rfl, q H1 (Ex.refl H1)⟩
def isNon (u : U) : Bool := match u with | .non => true | _ => false
theorem at_non {w : Addr} {H : Hp} {v : V} {u : U} (h : At w C H v u) : decide (v = .non) = isNon u := by
  cases h <;> rfl
def lenT (hi : Nat) (u : U) : Bool := tv u fun us => decide (us.length ≤ hi)
theorem ev_lenTU {w : Addr} {σ : L2.St} {H : Hp} {te : TE} {a : Addr} {xs : List V} {us : List U} (h : Ev te σ H (.ref a)) (hx : H a = some (.tup xs)) (hl : AtL w C H xs us) : Ev (tCB (rLenQ K) (tCons te tNil)) σ H (.int (us.length : Int)) :=
  ev_is (ev_lenT h hx) (by rw [AtL.length hl])
theorem not_le' {n m : Nat} : decide ((m : Int) < (n : Int)) = !decide (n ≤ m) := by
  by_cases h : n ≤ m
  · rw [decide_eq_true h, decide_eq_false (by omega)]
    rfl
  · rw [decide_eq_false h, decide_eq_true (by omega)]
    rfl
theorem jd_row {f f1 : Addr} {fd d1 : FuncData} (D : Df K mg "is_row" sRow ["thing"] f fd) (S : Bs K mg C) (N : Cn mg) (J : Jd P wd K mg base C 3 "is_block_id" "thing" f1 d1 gId) :
    Jd P wd K mg base C 4 "is_row" "thing" f fd gRow := by
  refine ⟨D.F.ok scRow lenJ (fun cdv A outer s H vs Q E hr h => ?_), D.g, D.F.kp, D.b⟩
  obtain ⟨v, u, w, rfl, hat, fi, k⟩ := h
  obtain ⟨t, h12⟩ := N.pieces
  refine ⟨_, pss_cons (ps_if (pt_cmpR op_isN1 (pv 0) pe_non (nomark _)) (pss_one (ps_ret pe_bl)) pss_nil)
    (pss_cons (ps_if (PW.pt (pw_or (pt_not (pt_val (pe_isiX S (by rfl) (by rfl) S.B.tup boot_tuple' (by decide) (pv 0) (by decide) (by decide))))
      (pw_or1 (pt_cmpR op_gt (pe_callB call_len_seq (by rfl) S.B.len PySem.boot_len (pa_cons (pv 0) pa_nil)) (pe_glob (v := .int 12) rfl h12 ⟨_, rfl⟩) (nomark _)))))
      (pss_one (ps_ret pe_bl)) pss_nil)
    (pss_one (ps_ret (pe_callB (cr_all rfl) (by rfl) S.B.all boot_all' (pa_cons (pe_lc (own := [("item", 1)]) (g := gName 1) (tt := tYes) rfl scRow.nd (pi_tup (pv 0)) (blkOk_by (N := ["thing", "item"]) (sc := defScope sRow) (by decide +kernel))
      (fun _ _ _ _ _ => pg_name (i := 1) scRow.nd rfl (Or.inl rfl)) (fun _ _ _ _ _ => pts_nil) (fun _ _ _ _ _ => pe_J J hr (by decide) (by rfl) pass0 (pv 1))) pa_nil))))), ?_⟩
  refine s_if (b := isNon u) (et_test (ev_is (ev_isN (ev_var rfl)) (by rw [at_non hat]))) (fun q H1 e => ?_) (fun q H1 e => ?_)
  · refine s_ret ev_c fun H2 e2 => ?_
    have := k H2 (e.trans e2)
    cases u with
    | non => exact this
    | _ => cases q
  · have hat1 := ex_at e hat
    refine s_if (b := !isT u "tuple" || !lenT 12 u) (et_or (et_not (et_B (ev_isi (ev_var rfl) hat1))) fun q => ?_) (fun q H2 e2 => ?_) (fun q H2 e2 => ?_)
    · rw [Bool.not_eq_false'] at q
      obtain ⟨us, rfl⟩ := isT_tup q
      obtain ⟨a, xs, rfl, ha, _, hl⟩ := at_tup hat1
      exact et_test (ev_is (ev_op (ev_lenTU (K := K) (ev_var rfl) ha hl) ev_c rv_I0) (by rw [show (12 : Int) = ((12 : Nat) : Int) from rfl, not_le']; rfl))
    · refine s_ret ev_c fun H3 e3 => ?_
      have e4 : gRow u = false := by
        cases u with
        | tup us =>
          simp [isT, isS, tyU] at q
          show (lenT 12 (.tup us) && _) = false
          rw [q]
          rfl
        | non => cases (show true = false from by assumption)
        | _ => rfl
      rw [← e4]
      exact k H3 ((e.trans e2).trans e3)
    · rw [Bool.or_eq_false_iff, Bool.not_eq_false', Bool.not_eq_false'] at q
      obtain ⟨us, rfl⟩ := isT_tup q.1
      obtain ⟨a, xs, rfl, ha, _, hl⟩ := at_tup (ex_at e2 hat1)
      refine s_ret (ev_allT (g := gId) (ev_var rfl) ha fi.len hl (fun _ => rfl) fun x u hu hx => ev_J (ev_var rfl) hx (fi.tup u hu)) fun H3 e3 => ?_
      have e4 : gRow (.tup us) = us.all gId := by
        show (lenT 12 (.tup us) && _) = _
        rw [q.2]
        rfl
      rw [← e4]
      exact k H3 ((e.trans e2).trans e3)
end
end Hs
namespace Hs
open PySem PySem.Spec PyProof.Rows L2 Hu Evl
section
variable {P : Program} {wd : World} {K : PySem.W.Frag} {mg : Str → Option Value} {base : Heap} {C : Addr}
theorem scStamp : FnScope ["thing"] ["thing"] (defScope sStamp) := ⟨rfl, rfl, rfl, by decide +kernel, rfl, by decide +kernel, by decide +kernel⟩
theorem shp2 (i j : Int) : SeqAt.shaped (.tuple [.int i, .int j]) = true := by
  show ((PyData.tuple [.int i, .int j]).canLay0 && decide ((PyData.tuple [.int i, .int j]).depth ≤ 64)) = true
  simp [PyData.canLay0, PyData.canLayAll0, PyData.depth, PyData.depthAll]
theorem eqv2 (i j k l : Int) : PyData.eqv (.tuple [.int i, .int j]) (.tuple [.int k, .int l]) = (decide (i = k) && decide (j = l)) := by
  simp only [PyData.eqv, PyData.eqvAll, Bool.and_true]
  congr 1
theorem dp2 {H : Hp} {p : Addr} {i j : Int} (h : H p = some (.tup [.int i, .int j])) : Dp K H (.ref p) (.tuple [.int i, .int j]) := .tup (st_of h) (.cons (.int i) (.cons (.int j) .nil))
theorem rv_eq2 {H : Hp} {p q : Addr} {i j k l : Int} (hp : H p = some (.tup [.int i, .int j])) (hq : H q = some (.tup [.int k, .int l])) : RV (rEqD K) (.ref p) (.ref q) H (.bl (decide (i = k) && decide (j = l))) := fun H1 e Q f =>
  ⟨_, _, dp2 (e _ _ hp), dp2 (e _ _ hq), shp2 _ _, shp2 _ _, by rw [eqv2]; exact f H1 (Ex.refl H1)⟩
theorem room_hu {k : Nat} {A : Around} (r : Room k A) : A.units + 64 < cLine := r.units
/-- a pair of integers -/
def ints2 (u : U) : Bool := tv u fun us => two us fun a b => gInt a && gInt b
theorem ints2_two {u : U} (h : ints2 u = true) : ∃ i j, u = .tup [.int i, .int j] := by
  cases u with
  | tup us =>
    match us, h with
    | [a, b], h =>
      have h1 : (gInt a && gInt b) = true := h
      rw [Bool.and_eq_true] at h1
      obtain ⟨i, rfl⟩ := gInt_int h1.1
      obtain ⟨j, rfl⟩ := gInt_int h1.2
      exact ⟨i, j, rfl⟩
  | _ => cases h
theorem jd_stamp {f f1 f2 f3 f4 : Addr} {fd d1 d2 d3 d4 : FuncData} (D : Df K mg "is_stamp" sStamp ["thing"] f fd) (S : Bs K mg C) (JP : Jd P wd K mg base C 1 "is_pair" "thing" f1 d1 gPair) (JI : Jd P wd K mg base C 1 "is_integer" "thing" f2 d2 gInt)
    (JF : Jd P wd K mg base C 2 "is_from_one" "thing" f3 d3 gFrom) (JH : Jd P wd K mg base C 2 "is_hand" "thing" f4 d4 gHand) : Jd P wd K mg base C 3 "is_stamp" "thing" f fd gStamp := by
  refine ⟨D.F.ok scStamp lenJ (fun cdv A outer s H vs Q E hr h => ?_), D.g, D.F.kp, D.b⟩
  obtain ⟨v, u, w, rfl, hat, fi, k⟩ := h
  refine ⟨_, pss_cons (ps_if (PW.pt (pw_or (pt_not (pt_val (pe_J JP hr (by decide) (by rfl) pass0 (pv 0)))) (pw_or (pt_not (pt_val (pe_J JI hr (by decide) (by rfl) pass0 (pe_ix ix_tup (pv 0) pe_int (fun _ _ => rfl)))))
      (pw_or1 (pt_not (pt_val (pe_J JI hr (by decide) (by rfl) pass0 (pe_ix ix_tup (pv 0) pe_int (fun _ _ => rfl)))))))))
      (pss_one (ps_ret pe_bl)) pss_nil)
    (pss_one (ps_ret (pe_or (pe_cmpR (op_eqD (room_hu hr)) (pv 0) (pe_tup (pa_cons pe_int (pa_cons pe_int pa_nil))) (nomark _)) (pe_one (pe_and (pe_J JF hr (by decide) (by rfl) pass0 (pe_ix ix_tup (pv 0) pe_int (fun _ _ => rfl)))
      (pe_one (pe_J JH hr (by decide) (by rfl) pass0 (pe_ix ix_tup (pv 0) pe_int (fun _ _ => rfl))))))))), ?_⟩
  have e0 : (!gPair u || (!(tv u fun us => two us fun a b => gInt a) || !ints2 u)) = !ints2 u := by
    cases u with
    | tup us =>
      match us with
      | [] => rfl
      | [a] => rfl
      | [a, b] =>
        show (!true || (!gInt a || !(gInt a && gInt b))) = !(gInt a && gInt b)
        cases gInt a <;> cases gInt b <;> rfl
      | a :: b :: c :: r => simp [gPair, tv, two, ints2]
    | _ => rfl
  refine s_if (b := !gPair u || (!(tv u fun us => two us fun a b => gInt a) || !ints2 u)) (et_or (et_not (et_B (ev_J (ev_var rfl) hat fi))) fun q => ?_) (fun q H1 e => ?_) (fun q H1 e => ?_)
  · rw [Bool.not_eq_false'] at q
    obtain ⟨a, b, rfl⟩ := gPair_two q
    obtain ⟨p, x, y, rfl, hp, ha, hb⟩ := pair_at hat
    refine et_or (et_not (et_B (ev_J (g := gInt) (u := a) (ev_ixT (j := 0) (ev_var rfl) hp rfl) ha fi.fst))) fun q2 => et_is (et_not (et_B (ev_J (g := gInt) (u := b) (ev_ixT (j := 1) (ev_var rfl) hp rfl) hb fi.snd))) ?_
    have q3 : (!gInt a) = false := q2
    rw [Bool.not_eq_false'] at q3
    show (!gInt b) = !(gInt a && gInt b)
    rw [q3]
    rfl
  · refine s_ret ev_c fun H2 e2 => ?_
    rw [e0] at q
    have e4 : gStamp u = false := by
      cases u with
      | tup us =>
        match us with
        | [] => rfl
        | [a] => rfl
        | [a, b] =>
          have q' : (!(gInt a && gInt b)) = true := q
          show (iv a fun i => iv b fun j => _) = false
          cases a <;> try rfl
          cases b <;> first | rfl | cases q'
        | a :: b :: c :: r => rfl
      | _ => rfl
    rw [← e4]
    exact k H2 (e.trans e2)
  · rw [e0, Bool.not_eq_false'] at q
    obtain ⟨i, j, rfl⟩ := ints2_two q
    obtain ⟨p, x, y, rfl, hp, ha, hb⟩ := pair_at (ex_at e hat)
    have hx := at_int ha
    have hy := at_int hb
    subst hx hy
    refine s_ret (ev_orV (ev_opU (ev_var rfl) (eu_tup (ea_cons ev_c (ea_cons ev_c ea_nil)) (by decide)) fun q H1 hq e1 => rv_eq2 (e1 _ _ hp) hq) fun _ => ev_andV (ev_J (ev_ixT (j := 0) (ev_var rfl) hp rfl) ha fi.fst) fun _ => ev_J (ev_ixT (j := 1) (ev_var rfl) hp rfl) hb fi.snd) fun H2 e2 => ?_
    exact k H2 (e.trans e2)
theorem scHead : FnScope ["thing"] ["thing"] (defScope sHead) := ⟨rfl, rfl, rfl, by decide +kernel, rfl, by decide +kernel, by decide +kernel⟩
theorem jd_head {f f1 f2 f3 : Addr} {fd d1 d2 d3 : FuncData} (D : Df K mg "is_head" sHead ["thing"] f fd) (S : Bs K mg C) (JP : Jd P wd K mg base C 1 "is_pair" "thing" f1 d1 gPair) (JH : Jd P wd K mg base C 3 "is_stamp" "thing" f2 d2 gStamp) (JF : Jd P wd K mg base C 4 "is_row" "thing" f3 d3 gRow) :
    Jd P wd K mg base C 5 "is_head" "thing" f fd gHead := by
  refine ⟨D.F.ok scHead lenJ (fun cdv A outer s H vs Q E hr h => ?_), D.g, D.F.kp, D.b⟩
  obtain ⟨v, u, w, rfl, hat, fi, k⟩ := h
  refine ⟨_, pss_one (ps_ret (pe_and (pe_J JP hr (by decide) (by rfl) pass0 (pv 0)) (pe_and (pe_J JH hr (by decide) (by rfl) pass0 (pe_ix ix_tup (pv 0) pe_int (fun _ _ => rfl))) (pe_one (pe_J JF hr (by decide) (by rfl) pass0 (pe_ix ix_tup (pv 0) pe_int (fun _ _ => rfl))))))), ?_⟩
  refine s_ret (ev_andV (b := gHead u) (ev_J (ev_var rfl) hat fi) fun q => ?_) fun H1 e => ?_
  · obtain ⟨a, b, rfl⟩ := gPair_two q
    obtain ⟨p, x, y, rfl, hp, ha, hb⟩ := pair_at hat
    exact ev_andV (ev_J (ev_ixT (j := 0) (ev_var rfl) hp rfl) ha fi.fst) fun _ => ev_J (ev_ixT (j := 1) (ev_var rfl) hp rfl) hb fi.snd
  · unfold gHead
    rw [pair_and]
    exact k H1 e
/-! ### rising -/
def spAsc : Sp := fun vs H Q _ => ∃ (a : Addr) (ns : List Int), vs = [.ref a] ∧ H a = some (.tup (ns.map V.int)) ∧ 1 ≤ ns.length ∧ ns.length ≤ 1000 ∧ ∀ H', Same H H' → Q (.bl (ascI ns)) H'
theorem scAsc : FnScope ["things", "k"] ["things"] (defScope sAscending) := ⟨rfl, rfl, rfl, by decide +kernel, rfl, by decide +kernel, by decide +kernel⟩
theorem scRising : FnScope ["things", "k"] ["things"] (defScope lRising) := ⟨rfl, rfl, rfl, by decide +kernel, rfl, by decide +kernel, by decide +kernel⟩
theorem given_all (n : Nat) (v : Nat → V) : given n (fun _ => true) v = (List.range n).map v := by
  unfold given
  rw [List.filter_eq_self.mpr fun _ _ => rfl]
theorem getD_at {ns : List Int} {i : Nat} (h : i < ns.length) : (ns.map V.int)[i]? = some (.int (ns.getD i 0)) := by
  rw [List.getElem?_map, List.getD_eq_getElem?_getD, List.getElem?_eq_getElem h]
  rfl
theorem ev_cb1 {r : List V → Hp → VK → Prop} {σ : L2.St} {H : Hp} {te : TE} {xs : List V} {z : V} (h : EvL te σ H xs) (hr : ∀ p H1, H1 p = some (.lst xs) → Ex H H1 → ∀ Q : VK, (∀ H2, Ex H1 H2 → Q z H2) → r [.ref p] H1 Q) : Ev (tCB r (tCons te tNil)) σ H z :=
  fun H0 e Q q => h H0 e _ fun p H1 hp e1 h1 => hr p H1 h1 (e.trans e1) Q fun H2 e2 => q H2 (e1.trans e2)
theorem asc_reads {σ : L2.St} {H : Hp} {a : Addr} {ns : List Int} (h0 : σ = [some (.ref a), none]) (ha : H a = some (.tup (ns.map V.int))) (h1 : 1 ≤ ns.length) (h2 : ns.length ≤ 1000) :
    Ev (tCB (rAll K) (tCons (tLc (iRng1 (tCons (tOp (rI0 fun i j => .int (i - j)) (tCB (rLenQ K) (tCons (tVar 0) tNil)) (tC (.int 1))) tNil)) (gName 1) tYes (tOp (rI0 fun i j => .bl (decide (i < j))) (tOp (rIxT K) (tVar 0) (tVar 1)) (tOp (rIxT K) (tVar 0) (tOp (rI0 fun i j => .int (i + j)) (tVar 1) (tC (.int 1))))) [1]) tNil)) σ H (.bl (ascI ns)) := by
  subst h0
  have hl : (ns.map V.int).length = ns.length := List.length_map ..
  have hn : (((ns.map V.int).length : Nat) : Int) - 1 = ((ns.length - 1 : Nat) : Int) := by
    rw [hl]
    omega
  have main : EvL (tLc (iRng1 (tCons (tOp (rI0 fun i j => .int (i - j)) (tCB (rLenQ K) (tCons (tVar 0) tNil)) (tC (.int 1))) tNil)) (gName 1) tYes (tOp (rI0 fun i j => .bl (decide (i < j))) (tOp (rIxT K) (tVar 0) (tVar 1)) (tOp (rIxT K) (tVar 0) (tOp (rI0 fun i j => .int (i + j)) (tVar 1) (tC (.int 1))))) [1]) [some (.ref a), none] H
      (given ((((ns.map V.int).length : Nat) : Int) - 1).toNat (fun _ => true) fun k => .bl (decide (ns.getD k 0 < ns.getD (k + 1) 0))) :=
    el_lcR1 (σ := [some (.ref a), none]) (j := 1) (vs := [1]) (n := (((ns.map V.int).length : Nat) : Int) - 1) (fun _ => true) (fun k => .bl (decide (ns.getD k 0 < ns.getD (k + 1) 0))) (ea_cons (ev_op (ev_lenT (ev_var rfl) ha) ev_c rv_I0) ea_nil) (by omega) (fun _ => rfl) (fun _ _ _ _ => et_yes) (fun i H2 e2 hi _ => by
      have hi' : i + 1 < ns.length := by omega
      have i1 : atI (ns.map V.int) (i : Int) = some (.int (ns.getD i 0)) := atI_nat (getD_at (by omega))
      have i2 : atI (ns.map V.int) ((i : Int) + 1) = some (.int (ns.getD (i + 1) 0)) := atI_nat (j := i + 1) (getD_at hi')
      exact ev_op (ev_op (ev_var rfl) (ev_var rfl) (rv_ixT (st_of (e2 _ _ ha)) i1)) (ev_op (ev_var rfl) (ev_op (ev_var rfl) ev_c rv_I0) (rv_ixT (st_of (e2 _ _ ha)) i2)) rv_I0)
  refine ev_cb1 main fun p H2 h2 e2 Q q => ⟨p, (List.range (ns.length - 1)).map fun k => decide (ns.getD k 0 < ns.getD (k + 1) 0), rfl, sq_of ?_, ?_⟩
  · rw [h2, hn, given_all, Int.toNat_natCast, List.map_map]
    rfl
  · have e : ((List.range (ns.length - 1)).map fun k => decide (ns.getD k 0 < ns.getD (k + 1) 0)).all id = ascI ns := by
      rw [List.all_map]
      rfl
    rw [e]
    exact q H2 (Ex.refl H2)
theorem ok_asc {f : Addr} {fd : FuncData} (F : Fun K "is_ascending" "is_ascending" sAscending f fd) (B : Bt mg) : FnOk P wd K mg base CX0 1 f fd ["things"] spAsc := by
  refine F.ok scAsc (fun vs H Q E h => ?_) (fun cdv A outer s H vs Q E hr h => ?_)
  · obtain ⟨n, m, rfl, _⟩ := h
    rfl
  · obtain ⟨a, ns, rfl, ha, h1, h2, k⟩ := h
    refine ⟨_, pss_one (ps_ret (pe_callB (cr_all rfl) (by rfl) B.all boot_all' (pa_cons (pe_lc (own := [("k", 1)]) (g := gName 1) (tt := tYes) rfl scAsc.nd (pi_range1 (by rfl) B.range (pa_cons (pe_op op_sub (pe_callB call_len_seq (by rfl) B.len PySem.boot_len (pa_cons (pv 0) pa_nil)) pe_int) pa_nil)) (blkOk_by (N := ["things", "k"]) (sc := defScope sAscending) (by decide +kernel))
      (fun _ _ _ _ _ => pg_name (i := 1) scAsc.nd rfl (Or.inl rfl)) (fun _ _ _ _ _ => pts_nil) (fun _ _ _ _ _ => pe_cmpR op_lt (pe_ix (show IxR _ (rIxT K) from ix_tup) (pv 0) (pv 1) (fun _ _ => rfl)) (pe_ix (show IxR _ (rIxT K) from ix_tup) (pv 0) (pe_op op_add (pv 1) pe_int) (fun _ _ => rfl)) (nomark _))) pa_nil))), ?_⟩
    exact s_ret (asc_reads rfl ha h1 h2) k
theorem ok_rising {f : Addr} {fd : FuncData} (F : Fun K "_law_rising" "_law_rising" lRising f fd) (B : Bt mg) : FnOk P wd K mg base CX0 1 f fd ["things"] spAsc := by
  refine F.ok scRising (fun vs H Q E h => ?_) (fun cdv A outer s H vs Q E hr h => ?_)
  · obtain ⟨n, m, rfl, _⟩ := h
    rfl
  · obtain ⟨a, ns, rfl, ha, h1, h2, k⟩ := h
    refine ⟨_, pss_one (ps_ret (pe_callB (cr_all rfl) (by rfl) B.all boot_all' (pa_cons (pe_lc (own := [("k", 1)]) (g := gName 1) (tt := tYes) rfl scRising.nd (pi_range1 (by rfl) B.range (pa_cons (pe_op op_sub (pe_callB call_len_seq (by rfl) B.len PySem.boot_len (pa_cons (pv 0) pa_nil)) pe_int) pa_nil)) (blkOk_by (N := ["things", "k"]) (sc := defScope lRising) (by decide +kernel))
      (fun _ _ _ _ _ => pg_name (i := 1) scRising.nd rfl (Or.inl rfl)) (fun _ _ _ _ _ => pts_nil) (fun _ _ _ _ _ => pe_cmpR op_lt (pe_ix (show IxR _ (rIxT K) from ix_tup) (pv 0) (pv 1) (fun _ _ => rfl)) (pe_ix (show IxR _ (rIxT K) from ix_tup) (pv 0) (pe_op op_add (pv 1) pe_int) (fun _ _ => rfl)) (nomark _))) pa_nil))), ?_⟩
    exact s_ret (asc_reads rfl ha h1 h2) k
/-! ### members -/
theorem ints_of {w : Addr} {H : Hp} : ∀ {us : List U} {xs : List V}, AtL w C H xs us → us.all gInt = true → xs = (us.map intU).map V.int
  | _, _, .nil, _ => rfl
  | u :: us, _, .cons h l, q => by
    rw [List.all_cons, Bool.and_eq_true] at q
    obtain ⟨i, rfl⟩ := gInt_int q.1
    rw [ints_of l q.2, at_int h]
    rfl
theorem home_int {u : U} (h : gHome u = true) : gInt u = true := by
  cases u with
  | int i => rfl
  | _ => cases h
theorem homes_ints {us : List U} (h : us.all gHome = true) : us.all gInt = true := List.all_eq_true.mpr fun u hu => home_int (List.all_eq_true.mp h u hu)
theorem scMembers : FnScope ["thing", "item"] ["thing"] (defScope sMembers) := ⟨rfl, rfl, rfl, by decide +kernel, rfl, by decide +kernel, by decide +kernel⟩
def lenB (lo hi : Nat) (u : U) : Bool := tv u fun us => decide (lo ≤ us.length) && decide (us.length ≤ hi)
theorem spv_asc {H : Hp} {a : Addr} {ns : List Int} (ha : H a = some (.tup (ns.map V.int))) (h1 : 1 ≤ ns.length) (h2 : ns.length ≤ 1000) : SpV spAsc [.ref a] H (.bl (ascI ns)) := fun H1 e Q q E => ⟨a, ns, rfl, e _ _ ha, h1, h2, q⟩
theorem jd_members {f f1 f2 : Addr} {fd d1 d2 : FuncData} (D : Df K mg "is_members" sMembers ["thing"] f fd) (S : Bs K mg C) (N : Cn mg) (J : Jd P wd K mg base C 2 "is_home" "thing" f1 d1 gHome) (DA : Df K mg "is_ascending" sAscending ["things"] f2 d2) :
    Jd P wd K mg base C 4 "is_members" "thing" f fd gMembers := by
  refine ⟨D.F.ok scMembers lenJ (fun cdv A outer s H vs Q E hr h => ?_), D.g, D.F.kp, D.b⟩
  obtain ⟨v, u, w, rfl, hat, fi, k⟩ := h
  obtain ⟨t, h9⟩ := N.homes
  have GA : FnOk P wd K mg base CX0 3 f2 d2 ["things"] spAsc := (ok_asc DA.F S.B).mono (by decide)
  refine ⟨_, pss_cons (ps_if (PW.pt (pw_or (pt_not (pt_val (pe_isiX S (by rfl) (by rfl) S.B.tup boot_tuple' (by decide) (pv 0) (by decide) (by decide))))
      (pw_or1 (pt_not (pt_chain op_le op_le pe_int (pe_callB call_len_seq (by rfl) S.B.len PySem.boot_len (pa_cons (pv 0) pa_nil)) (pe_glob (v := .int 9) rfl h9 ⟨_, rfl⟩))))))
      (pss_one (ps_ret pe_bl)) pss_nil)
    (pss_one (ps_ret (pe_and (pe_callB (cr_all rfl) (by rfl) S.B.all boot_all' (pa_cons (pe_lc (own := [("item", 1)]) (g := gName 1) (tt := tYes) rfl scMembers.nd (pi_tup (pv 0)) (blkOk_by (N := ["thing", "item"]) (sc := defScope sMembers) (by decide +kernel))
      (fun _ _ _ _ _ => pg_name (i := 1) scMembers.nd rfl (Or.inl rfl)) (fun _ _ _ _ _ => pts_nil) (fun _ _ _ _ _ => pe_J J hr (by decide) (by rfl) pass0 (pv 1))) pa_nil))
      (pe_one (pe_call GA hr (by rfl) DA.g DA.F.kp DA.b .nil pass0 (pa_cons (pv 0) pa_nil)))))), ?_⟩
  refine s_if (b := !isT u "tuple" || !lenB 1 9 u) (et_or (et_not (et_B (ev_isi (ev_var rfl) hat))) fun q => ?_) (fun q H1 e => ?_) (fun q H1 e => ?_)
  · rw [Bool.not_eq_false'] at q
    obtain ⟨us, rfl⟩ := isT_tup q
    obtain ⟨a, xs, rfl, ha, _, hl⟩ := at_tup hat
    exact et_not (et_test (ev_is (ev_chain ev_c (ev_lenTU (K := K) (ev_var rfl) ha hl) ev_c rv_I0 fun _ => rv_I0) (by rw [show (9 : Int) = ((9 : Nat) : Int) from rfl, show (1 : Int) = ((1 : Nat) : Int) from rfl, dec_le, dec_le]; rfl)))
  · refine s_ret ev_c fun H2 e2 => ?_
    have e3 : gMembers u = false := by
      cases u with
      | tup us =>
        simp [isT, isS, tyU] at q
        show ((lenB 1 9 (.tup us) && _) && _) = false
        rw [q]
        rfl
      | _ => rfl
    rw [← e3]
    exact k H2 (e.trans e2)
  · rw [Bool.or_eq_false_iff, Bool.not_eq_false', Bool.not_eq_false'] at q
    obtain ⟨us, rfl⟩ := isT_tup q.1
    obtain ⟨a, xs, rfl, ha, _, hl⟩ := at_tup (ex_at e hat)
    have hb : (decide (1 ≤ us.length) && decide (us.length ≤ 9)) = true := q.2
    rw [Bool.and_eq_true] at hb
    have b1 : 1 ≤ us.length := of_decide_eq_true hb.1
    have b2 : us.length ≤ 9 := of_decide_eq_true hb.2
    refine s_ret (ev_andV (b := ascI (us.map intU)) (ev_allT (g := gHome) (ev_var rfl) ha fi.len hl (fun _ => rfl) fun x u hu hx => ev_J (ev_var rfl) hx (fi.tup u hu)) fun q2 => ?_) fun H2 e2 => ?_
    · have hx := ints_of hl (homes_ints q2)
      rw [hx] at ha
      exact ev_call (ea_cons (ev_var rfl) ea_nil) (spv_asc ha (by rw [List.length_map]; exact b1) (by rw [List.length_map]; omega))
    · have e3 : gMembers (.tup us) = (us.all gHome && ascI (us.map intU)) := by
        show ((lenB 1 9 (.tup us) && us.all gHome) && _) = _
        rw [q.2]
        rfl
      rw [← e3]
      exact k H2 (e.trans e2)
end
end Hs
/-! the law's own flags -/
namespace Hs
open PySem PySem.Spec PyProof.Rows L2 Hu Evl
section
variable {P : Program} {wd : World} {K : PySem.W.Frag} {mg : Str → Option Value} {base : Heap} {C : Addr}
def gCount (u : U) : Bool := iv u fun i => decide (0 ≤ i)
theorem scCount : FnScope ["thing"] ["thing"] (defScope lCount) := ⟨rfl, rfl, rfl, by decide +kernel, rfl, by decide +kernel, by decide +kernel⟩
theorem jl_count {f : Addr} {fd : FuncData} (D : Df K mg "_law_count" lCount ["thing"] f fd) (S : Bs K mg C) : Jd P wd K mg base C 1 "_law_count" "thing" f fd gCount := by
  refine ⟨D.F.ok scCount lenJ (fun cdv A outer s H vs Q E hr h => ?_), D.g, D.F.kp, D.b⟩
  obtain ⟨v, u, w, rfl, hat, fi, k⟩ := h
  refine ⟨_, pss_one (ps_ret (pe_and (pe_isiX S (by rfl) (by rfl) S.B.int boot_int' (by decide) (pv 0) (by decide) (by decide)) (pe_and (pe_not (pe_isiX S (by rfl) (by rfl) S.B.boo boot_bool' (by decide) (pv 0) (by decide) (by decide)))
    (pe_one (pe_cmpR op_ge (pv 0) pe_int (nomark _)))))), ?_⟩
  refine s_ret (ev_andV (b := (!isT u "bool") && gCount u) (ev_isi (ev_var rfl) hat) fun q => ev_andV (b := gCount u) (ev_notV (ev_isi (ev_var rfl) hat)) fun q2 => ?_) fun H1 e => ?_
  · obtain ⟨i, rfl⟩ := isT_int (u := u) (by rw [q, q2]; rfl)
    cases at_int hat
    exact ev_op (ev_var rfl) ev_c rv_I0
  · rw [← Bool.and_assoc, gInt_is]
    unfold gCount
    rw [iv_and]
    exact k H1 e
def spLong (C : Addr) : Sp := fun vs H Q _ => ∃ (v : V) (u : U) (w : Addr), vs = [v, .int 2] ∧ At w C H v u ∧ ∀ H', Same H H' → Q (.bl (gPair u)) H'
theorem scLong : FnScope ["thing", "many"] ["thing", "many"] (defScope lLong) := ⟨rfl, rfl, rfl, by decide +kernel, rfl, by decide +kernel, by decide +kernel⟩
theorem ok_long {f : Addr} {fd : FuncData} (F : Fun K "_law_long" "_law_long" lLong f fd) (S : Bs K mg C) : FnOk P wd K mg base CX0 1 f fd ["thing", "many"] (spLong C) := by
  refine F.ok scLong (fun vs H Q E h => ?_) (fun cdv A outer s H vs Q E hr h => ?_)
  · obtain ⟨v, u, w, rfl, _⟩ := h
    rfl
  obtain ⟨v, u, w, rfl, hat, k⟩ := h
  refine ⟨_, pss_one (ps_ret (pe_and (pe_isiX S (by rfl) (by rfl) S.B.tup boot_tuple' (by decide) (pv 0) (by decide) (by decide)) (pe_one (pe_cmpR op_eq (pe_callB call_len_seq (by rfl) S.B.len PySem.boot_len (pa_cons (pv 0) pa_nil)) (pv 1) (nomark _))))), ?_⟩
  refine s_ret (ev_andV (b := gPair u) (ev_isi (ev_var rfl) hat) fun q => ?_) fun H1 e => ?_
  · obtain ⟨us, rfl⟩ := isT_tup q
    obtain ⟨a, xs, rfl, ha, _, hl⟩ := at_tup hat
    exact ev_is (ev_op (ev_lenTU (K := K) (ev_var rfl) ha hl) (ev_var rfl) (rv_eq rfl)) (by rw [show (2 : Int) = ((2 : Nat) : Int) from rfl, dec_eq]; rfl)
  · unfold gPair
    rw [tv_and]
    exact k H1 e
theorem spv_long {H : Hp} {v : V} {u : U} {w : Addr} (hat : At w C H v u) : SpV (spLong C) [v, .int 2] H (.bl (gPair u)) := fun H1 e Q q E => ⟨v, u, w, rfl, ex_at e hat, q⟩
/-! signs in texts that are written down -/
def lettersZ : Str := "abcdefghijklmnopqrstuvwxyz"
theorem letters_is : lettersZ.cps.toList = List.range' 97 26 := by decide +kernel
theorem in_letters (c : Nat) : decide (c ∈ lettersZ.cps.toList) = lowc c := by
  rw [letters_is]
  unfold lowc
  by_cases h : 97 ≤ c ∧ c ≤ 122
  · rw [decide_eq_true (List.mem_range'_1.mpr (by omega)), decide_eq_true h.1, decide_eq_true h.2]
    rfl
  · rw [decide_eq_false (fun q => h (by have := List.mem_range'_1.mp q; omega))]
    rw [← Bool.decide_and]
    exact (decide_eq_false h).symm
theorem signs_is : signsZ.cps.toList = List.range' 32 5 ++ List.range' 38 89 := by decide +kernel
theorem in_signs (c : Nat) : decide (c ∈ signsZ.cps.toList) = okS c := by
  rw [signs_is]
  have e : okS c = decide ((32 ≤ c ∧ c ≤ 126) ∧ c ≠ 37) := by
    unfold okS okc
    rw [← Bool.decide_and, ← Bool.decide_and]
  rw [e]
  by_cases h : (32 ≤ c ∧ c ≤ 126) ∧ c ≠ 37
  · rw [decide_eq_true h]
    refine decide_eq_true (List.mem_append.mpr ?_)
    by_cases h2 : c < 37
    · exact .inl (List.mem_range'_1.mpr (by omega))
    · exact .inr (List.mem_range'_1.mpr (by omega))
  · rw [decide_eq_false h]
    refine decide_eq_false fun q => h ?_
    rcases List.mem_append.mp q with q | q
    · have := List.mem_range'_1.mp q
      omega
    · have := List.mem_range'_1.mp q
      omega
abbrev rInZ : R2 := fun x y H Q => ∃ (c : Nat) (z : Str), x = .str ⟨#[c]⟩ ∧ y = .str z ∧ Q (.bl (decide (c ∈ z.cps.toList))) H
theorem rv_inZ {c : Nat} {z : Str} {H : Hp} : RV rInZ (.str ⟨#[c]⟩) (.str z) H (.bl (decide (c ∈ z.cps.toList))) := fun H1 _ Q q => ⟨c, z, rfl, rfl, q H1 (Ex.refl H1)⟩
theorem scNameFits : FnScope ["thing", "sign"] ["thing"] (defScope lNameFits) := ⟨rfl, rfl, rfl, by decide +kernel, rfl, by decide +kernel, by decide +kernel⟩
theorem len_tests {n lo hi : Nat} : (decide ((n : Int) < (lo : Int)) || decide ((hi : Int) < (n : Int))) = !(decide (lo ≤ n) && decide (n ≤ hi)) := by
  rw [not_le', not_le', Bool.not_and]
theorem jl_name {f : Addr} {fd : FuncData} (D : Df K mg "_law_name_fits" lNameFits ["thing"] f fd) (S : Bs K mg C) : Jd P wd K mg base C 2 "_law_name_fits" "thing" f fd gNam := by
  refine ⟨D.F.ok scNameFits lenJ (fun cdv A outer s H vs Q E hr h => ?_), D.g, D.F.kp, D.b⟩
  obtain ⟨v, u, w, rfl, hat, fi, k⟩ := h
  refine ⟨_, pss_cons (ps_if (PW.pt (pw_or (pt_not (pt_val (pe_isiX S (by rfl) (by rfl) S.B.str boot_str (by decide) (pv 0) (by decide) (by decide))))
      (pw_or (pt_cmpR op_lt (pe_callB call_len_str (by rfl) S.B.len PySem.boot_len (pa_cons (pv 0) pa_nil)) pe_int (nomark _))
      (pw_or1 (pt_cmpR op_gt (pe_callB call_len_str (by rfl) S.B.len PySem.boot_len (pa_cons (pv 0) pa_nil)) pe_int (nomark _))))))
      (pss_one (ps_ret pe_bl)) pss_nil)
    (pss_one (ps_ret (pe_callB (cr_all rfl) (by rfl) S.B.all boot_all' (pa_cons (pe_lc (own := [("sign", 1)]) (g := gName 1) (tt := tYes) rfl scNameFits.nd (pi_str (pv 0)) (blkOk_by (N := ["thing", "sign"]) (sc := defScope lNameFits) (by decide +kernel))
      (fun _ _ _ _ _ => pg_name (i := 1) scNameFits.nd rfl (Or.inl rfl)) (fun _ _ _ _ _ => pts_nil) (fun _ _ _ _ _ => pe_cmpR op_in_sign (pv 1) pe_str (by rfl))) pa_nil)))), ?_⟩
  refine s_if (b := !isT u "str" || !lenIn 1 8 u) (et_or (et_not (et_B (ev_isi (ev_var rfl) hat))) fun q => ?_) (fun q H1 e => ?_) (fun q H1 e => ?_)
  · rw [Bool.not_eq_false'] at q
    obtain ⟨z, rfl⟩ := isT_str q
    cases at_str hat
    refine et_is (et_or (et_test (ev_op (ev_lenS (ev_var rfl) fi.line) ev_c rv_I0)) fun _ => et_test (ev_op (ev_lenS (ev_var rfl) fi.line) ev_c rv_I0)) ?_
    exact len_tests (lo := 1) (hi := 8)
  · refine s_ret ev_c fun H2 e2 => ?_
    have e3 : gNam u = false := by
      cases u with
      | str z =>
        simp [isT, isS, tyU] at q
        show (lenIn 1 8 (.str z) && _) = false
        rw [q]
        rfl
      | _ => rfl
    rw [← e3]
    exact k H2 (e.trans e2)
  · rw [Bool.or_eq_false_iff, Bool.not_eq_false', Bool.not_eq_false'] at q
    obtain ⟨z, rfl⟩ := isT_str q.1
    cases at_str hat
    refine s_ret (ev_allS (g := lowc) (ev_var rfl) fi.str (fun _ => rfl) fun c _ => ev_is (ev_op (ev_var rfl) ev_c (rv_inZ (z := lettersZ))) (by rw [in_letters])) fun H2 e2 => ?_
    have e3 : gNam (.str z) = (TL.tl z).all lowc := by
      show (lenIn 1 8 (.str z) && _) = _
      rw [q.2]
      rfl
    rw [← e3]
    exact k H2 (e.trans e2)
theorem scHandFits : FnScope ["thing"] ["thing"] (defScope lHandFits) := ⟨rfl, rfl, rfl, by decide +kernel, rfl, by decide +kernel, by decide +kernel⟩
theorem gCount_int {u : U} (h : gCount u = true) : ∃ i : Int, u = .int i ∧ 0 ≤ i := by
  cases u with
  | int i => exact ⟨i, rfl, of_decide_eq_true h⟩
  | _ => cases h
theorem jl_hand {f f1 : Addr} {fd d1 : FuncData} (D : Df K mg "_law_hand_fits" lHandFits ["thing"] f fd) (S : Bs K mg C) (J : Jd P wd K mg base C 1 "_law_count" "thing" f1 d1 gCount) : Jd P wd K mg base C 2 "_law_hand_fits" "thing" f fd gHand := by
  refine ⟨D.F.ok scHandFits lenJ (fun cdv A outer s H vs Q E hr h => ?_), D.g, D.F.kp, D.b⟩
  obtain ⟨v, u, w, rfl, hat, fi, k⟩ := h
  refine ⟨_, pss_one (ps_ret (pe_and (pe_J J hr (by decide) (by rfl) pass0 (pv 0)) (pe_and (pe_cmpR op_le pe_int (pv 0) (nomark _)) (pe_one (pe_cmpR op_le (pv 0) pe_int (nomark _)))))), ?_⟩
  refine s_ret (ev_andV (b := gHand u) (ev_J (ev_var rfl) hat fi) fun q => ?_) fun H1 e => ?_
  · obtain ⟨i, rfl, _⟩ := gCount_int q
    cases at_int hat
    exact ev_andV (ev_op ev_c (ev_var rfl) rv_I0) fun _ => ev_op (ev_var rfl) ev_c rv_I0
  · have e2 : (gCount u && gHand u) = gHand u := by
      cases u with
      | int i =>
        show (decide (0 ≤ i) && (decide (1 ≤ i) && _)) = (decide (1 ≤ i) && _)
        by_cases h : 1 ≤ i
        · rw [decide_eq_true (show 0 ≤ i by omega), Bool.true_and]
        · rw [decide_eq_false h, Bool.false_and, Bool.and_false]
      | _ => rfl
    rw [e2]
    exact k H1 e
/-! ### texts -/
def gSF (lo hi : Nat) (u : U) : Bool := sv u fun z => (decide (lo ≤ z.length) && decide (z.length ≤ hi)) && (TL.tl z).all okS
def spSF (C : Addr) : Sp := fun vs H Q _ => ∃ (v : V) (u : U) (w : Addr) (lo hi : Nat), vs = [v, .int (lo : Int), .int (hi : Int)] ∧ At w C H v u ∧ Fine u ∧ ∀ H', Same H H' → Q (.bl (gSF lo hi u)) H'
theorem scSignsFit : FnScope ["thing", "least", "most", "sign"] ["thing", "least", "most"] (defScope lSignsFit) := ⟨rfl, rfl, rfl, by decide +kernel, rfl, by decide +kernel, by decide +kernel⟩
theorem ok_signsFit {f f1 : Addr} {fd d1 : FuncData} (F : Fun K "_law_signs_fit" "_law_signs_fit" lSignsFit f fd) (S : Bs K mg C) (DG : Df K mg "_law_signs" sSigns [] f1 d1) : FnOk P wd K mg base CX0 2 f fd ["thing", "least", "most"] (spSF C) := by
  have GG : FnOk P wd K mg base CX0 1 f1 d1 [] spSigns := ok_signs DG.F
  refine F.ok scSignsFit (fun vs H Q E h => ?_) (fun cdv A outer s H vs Q E hr h => ?_)
  · obtain ⟨v, u, w, lo, hi, rfl, _⟩ := h
    rfl
  obtain ⟨v, u, w, lo, hi, rfl, hat, fi, k⟩ := h
  refine ⟨_, pss_cons (ps_if (PW.pt (pw_or (pt_not (pt_val (pe_isiX S (by rfl) (by rfl) S.B.str boot_str (by decide) (pv 0) (by decide) (by decide))))
      (pw_or (pt_cmpR op_lt (pe_callB call_len_str (by rfl) S.B.len PySem.boot_len (pa_cons (pv 0) pa_nil)) (pv 1) (nomark _))
      (pw_or1 (pt_cmpR op_gt (pe_callB call_len_str (by rfl) S.B.len PySem.boot_len (pa_cons (pv 0) pa_nil)) (pv 2) (nomark _))))))
      (pss_one (ps_ret pe_bl)) pss_nil)
    (pss_one (ps_ret (pe_callB (cr_all rfl) (by rfl) S.B.all boot_all' (pa_cons (pe_lc (own := [("sign", 3)]) (g := gName 3) (tt := tYes) rfl scSignsFit.nd (pi_str (pv 0)) (blkOk_by (N := ["thing", "least", "most", "sign"]) (sc := defScope lSignsFit) (by decide +kernel))
      (fun _ _ _ _ _ => pg_name (i := 3) scSignsFit.nd rfl (Or.inl rfl)) (fun _ _ _ _ _ => pts_nil) (fun _ _ _ _ _ => pe_cmpR op_in_sign (pv 3) (pe_call0 GG hr (by rfl) DG.g DG.F.kp DG.b .nil pass0) (by rfl))) pa_nil)))), ?_⟩
  refine s_if (b := !isT u "str" || !lenIn lo hi u) (et_or (et_not (et_B (ev_isi (ev_var rfl) hat))) fun q => ?_) (fun q H1 e => ?_) (fun q H1 e => ?_)
  · rw [Bool.not_eq_false'] at q
    obtain ⟨z, rfl⟩ := isT_str q
    cases at_str hat
    exact et_is (et_or (et_test (ev_op (ev_lenS (ev_var rfl) fi.line) (ev_var rfl) rv_I0)) fun _ => et_test (ev_op (ev_lenS (ev_var rfl) fi.line) (ev_var rfl) rv_I0)) len_tests
  · refine s_ret ev_c fun H2 e2 => ?_
    have e3 : gSF lo hi u = false := by
      cases u with
      | str z =>
        have q' : (!true || !lenIn lo hi (.str z)) = true := q
        rw [Bool.not_true, Bool.false_or, Bool.not_eq_true'] at q'
        show (lenIn lo hi (.str z) && _) = false
        rw [q']
        rfl
      | _ => rfl
    rw [← e3]
    exact k H2 (e.trans e2)
  · rw [Bool.or_eq_false_iff, Bool.not_eq_false', Bool.not_eq_false'] at q
    obtain ⟨z, rfl⟩ := isT_str q.1
    cases at_str hat
    refine s_ret (ev_allS (g := okS) (ev_var rfl) fi.str (fun _ => rfl) fun c _ => ev_is (ev_op (ev_var rfl) (ev_call (sp := spSigns) ea_nil fun H1 e Q q E => ⟨rfl, q H1 (Ex.refl H1)⟩) (rv_inZ (z := signsZ))) (by rw [in_signs])) fun H2 e2 => ?_
    have e3 : gSF lo hi (.str z) = (TL.tl z).all okS := by
      show (lenIn lo hi (.str z) && _) = _
      rw [q.2]
      rfl
    rw [← e3]
    exact k H2 (e.trans e2)
theorem okS_okc {c : Nat} (h : okS c = true ∨ c = 10) : okS c = okc c := by
  rcases h with h | rfl
  · rw [h]
    unfold okS at h
    rw [Bool.and_eq_true] at h
    exact h.1.symm
  · rfl
theorem fine_okz {z : Str} (h : Fine (.str z)) : (TL.tl z).all okS = okz z := by
  have hc : ∀ c ∈ TL.tl z, okS c = true ∨ c = 10 := by simpa only [clean] using h.c
  unfold okz
  generalize TL.tl z = l at hc
  induction l with
  | nil => rfl
  | cons c l ih =>
    rw [List.all_cons, List.all_cons, ih fun b hb => hc b (List.mem_cons_of_mem _ hb), okS_okc (hc c List.mem_cons_self)]
theorem sf_text {u : U} (h : Fine u) : gSF 0 96 u = gText u := by
  cases u with
  | str z =>
    show ((decide (0 ≤ z.length) && decide (z.length ≤ 96)) && (TL.tl z).all okS) = (okz z && decide (z.length ≤ 96))
    rw [fine_okz h, decide_eq_true (Nat.zero_le _), Bool.true_and, Bool.and_comm]
  | _ => rfl
theorem sf_piece {u : U} (h : Fine u) : gSF 1 8 u = gPiece u := by
  cases u with
  | str z =>
    show ((decide (1 ≤ z.length) && decide (z.length ≤ 8)) && (TL.tl z).all okS) = (okz z && _)
    rw [fine_okz h, Bool.and_comm]
  | _ => rfl
theorem spv_SF {H : Hp} {v : V} {u : U} {w : Addr} {lo hi : Nat} (hat : At w C H v u) (fi : Fine u) : SpV (spSF C) [v, .int (lo : Int), .int (hi : Int)] H (.bl (gSF lo hi u)) := fun H1 e Q q E => ⟨v, u, w, lo, hi, rfl, ex_at e hat, fi, q⟩
end
end Hs
namespace Hs
open PySem PySem.Spec PyProof.Rows L2 Hu Evl
section
variable {P : Program} {wd : World} {K : PySem.W.Frag} {mg : Str → Option Value} {base : Heap} {C : Addr}
theorem scIdFits : FnScope ["thing"] ["thing"] (defScope lIdFits) := ⟨rfl, rfl, rfl, by decide +kernel, rfl, by decide +kernel, by decide +kernel⟩
/-- a def with the two parameters of _law_long, called with 2 -/
theorem ev_long {σ : L2.St} {H : Hp} {te : TE} {v : V} {u : U} {w : Addr} {E : XK} (h : Ev te σ H v) (hat : At w C H v u) : Ev (tCall (spLong C) [] E (tCons te (tCons (tC (.int 2)) tNil))) σ H (.bl (gPair u)) :=
  ev_call (ea_cons h (ea_cons ev_c ea_nil)) (spv_long hat)
theorem jl_id {f f1 f2 f3 : Addr} {fd d1 d2 d3 : FuncData} (D : Df K mg "_law_id_fits" lIdFits ["thing"] f fd) (S : Bs K mg C) (DL : Df K mg "_law_long" lLong ["thing", "many"] f1 d1) (JH : Jd P wd K mg base C 2 "_law_hand_fits" "thing" f2 d2 gHand) (JC : Jd P wd K mg base C 1 "_law_count" "thing" f3 d3 gCount) :
    Jd P wd K mg base C 3 "_law_id_fits" "thing" f fd gId := by
  have GL : FnOk P wd K mg base CX0 2 f1 d1 ["thing", "many"] (spLong C) := (ok_long DL.F S).mono (by decide)
  refine ⟨D.F.ok scIdFits lenJ (fun cdv A outer s H vs Q E hr h => ?_), D.g, D.F.kp, D.b⟩
  obtain ⟨v, u, w, rfl, hat, fi, k⟩ := h
  refine ⟨_, pss_one (ps_ret (pe_and (pe_call GL hr (by rfl) DL.g DL.F.kp DL.b .nil pass0 (pa_cons (pv 0) (pa_cons pe_int pa_nil))) (pe_and (pe_J JH hr (by decide) (by rfl) pass0 (pe_ix ix_tup (pv 0) pe_int (fun _ _ => rfl)))
    (pe_and (pe_J JC hr (by decide) (by rfl) pass0 (pe_ix ix_tup (pv 0) pe_int (fun _ _ => rfl))) (pe_one (pe_cmpR op_ge (pe_ix ix_tup (pv 0) pe_int (fun _ _ => rfl)) pe_int (nomark _))))))), ?_⟩
  refine s_ret (ev_andV (b := gId u) (ev_long (ev_var rfl) hat) fun q => ?_) fun H1 e => ?_
  · obtain ⟨a, b, rfl⟩ := gPair_two q
    obtain ⟨p, x, y, rfl, hp, ha, hb⟩ := pair_at hat
    refine ev_is (ev_andV (b := gFrom b) (ev_J (ev_ixT (j := 0) (ev_var rfl) hp rfl) ha fi.fst) fun _ => ev_is (ev_andV (b := gFrom b) (ev_J (g := gCount) (ev_ixT (j := 1) (ev_var rfl) hp rfl) hb fi.snd) fun q2 => ?_) ?_) rfl
    · obtain ⟨i, rfl, _⟩ := gCount_int q2
      cases at_int hb
      exact ev_op (ev_ixT (j := 1) (ev_var rfl) hp rfl) ev_c rv_I0
    · congr 1
      cases b with
      | int i =>
        show (decide (0 ≤ i) && decide (1 ≤ i)) = decide (1 ≤ i)
        by_cases h : 1 ≤ i
        · rw [decide_eq_true h, decide_eq_true (show 0 ≤ i by omega)]
          rfl
        · rw [decide_eq_false h, Bool.and_false]
      | _ => rfl
  · unfold gId
    rw [pair_and]
    exact k H1 e
theorem scStampFits : FnScope ["thing"] ["thing"] (defScope lStampFits) := ⟨rfl, rfl, rfl, by decide +kernel, rfl, by decide +kernel, by decide +kernel⟩
def cnt2 (u : U) : Bool := tv u fun us => two us fun a b => gCount a && gCount b
theorem cnt2_two {u : U} (h : cnt2 u = true) : ∃ i j : Int, u = .tup [.int i, .int j] ∧ 0 ≤ i ∧ 0 ≤ j := by
  cases u with
  | tup us =>
    match us, h with
    | [a, b], h =>
      have h1 : (gCount a && gCount b) = true := h
      rw [Bool.and_eq_true] at h1
      obtain ⟨i, rfl, hi⟩ := gCount_int h1.1
      obtain ⟨j, rfl, hj⟩ := gCount_int h1.2
      exact ⟨i, j, rfl, hi, hj⟩
  | _ => cases h
theorem stamp_cnt {u : U} (h : cnt2 u = false) : gStamp u = false := by
  cases u with
  | tup us =>
    match us, h with
    | [], _ => rfl
    | [a], _ => rfl
    | [a, b], h =>
      have h1 : (gCount a && gCount b) = false := h
      cases a <;> try rfl
      cases b <;> try rfl
      rename_i i j
      have h2 : (decide (0 ≤ i) && decide (0 ≤ j)) = false := h1
      show ((decide (i = 0) && decide (j = 0)) || (decide (1 ≤ i) && (decide (1 ≤ j) && decide (j ≤ 99)))) = false
      rw [← Bool.decide_and] at h2
      have h3 := of_decide_eq_false h2
      simp only [← Bool.decide_and, ← Bool.decide_or]
      exact decide_eq_false (by omega)
    | a :: b :: c :: r, _ => rfl
  | _ => rfl
theorem jl_stamp {f f1 f2 f3 : Addr} {fd d1 d2 d3 : FuncData} (D : Df K mg "_law_stamp_fits" lStampFits ["thing"] f fd) (S : Bs K mg C) (DL : Df K mg "_law_long" lLong ["thing", "many"] f1 d1) (JH : Jd P wd K mg base C 2 "_law_hand_fits" "thing" f2 d2 gHand) (JC : Jd P wd K mg base C 1 "_law_count" "thing" f3 d3 gCount) :
    Jd P wd K mg base C 3 "_law_stamp_fits" "thing" f fd gStamp := by
  have GL : FnOk P wd K mg base CX0 2 f1 d1 ["thing", "many"] (spLong C) := (ok_long DL.F S).mono (by decide)
  refine ⟨D.F.ok scStampFits lenJ (fun cdv A outer s H vs Q E hr h => ?_), D.g, D.F.kp, D.b⟩
  obtain ⟨v, u, w, rfl, hat, fi, k⟩ := h
  refine ⟨_, pss_cons (ps_if (PW.pt (pw_or (pt_not (pt_val (pe_call GL hr (by rfl) DL.g DL.F.kp DL.b .nil pass0 (pa_cons (pv 0) (pa_cons pe_int pa_nil))))) (pw_or (pt_not (pt_val (pe_J JC hr (by decide) (by rfl) pass0 (pe_ix ix_tup (pv 0) pe_int (fun _ _ => rfl)))))
      (pw_or1 (pt_not (pt_val (pe_J JC hr (by decide) (by rfl) pass0 (pe_ix ix_tup (pv 0) pe_int (fun _ _ => rfl)))))))))
      (pss_one (ps_ret pe_bl)) pss_nil)
    (pss_cons (ps_if (pt_cmpR op_eq (pe_ix ix_tup (pv 0) pe_int (fun _ _ => rfl)) pe_int (nomark _)) (pss_one (ps_ret (pe_cmpR op_eq (pe_ix ix_tup (pv 0) pe_int (fun _ _ => rfl)) pe_int (nomark _)))) pss_nil)
    (pss_one (ps_ret (pe_J JH hr (by decide) (by rfl) pass0 (pe_ix ix_tup (pv 0) pe_int (fun _ _ => rfl)))))), ?_⟩
  have e0 : (!gPair u || (!(tv u fun us => two us fun a b => gCount a) || !cnt2 u)) = !cnt2 u := by
    cases u with
    | tup us =>
      match us with
      | [] => rfl
      | [a] => rfl
      | [a, b] =>
        show (!true || (!gCount a || !(gCount a && gCount b))) = !(gCount a && gCount b)
        cases gCount a <;> cases gCount b <;> rfl
      | a :: b :: c :: r => simp [gPair, tv, two, cnt2]
    | _ => rfl
  refine s_if (b := !gPair u || (!(tv u fun us => two us fun a b => gCount a) || !cnt2 u)) (et_or (et_not (et_B (ev_long (ev_var rfl) hat))) fun q => ?_) (fun q H1 e => ?_) (fun q H1 e => ?_)
  · rw [Bool.not_eq_false'] at q
    obtain ⟨a, b, rfl⟩ := gPair_two q
    obtain ⟨p, x, y, rfl, hp, ha, hb⟩ := pair_at hat
    refine et_or (et_not (et_B (ev_J (g := gCount) (u := a) (ev_ixT (j := 0) (ev_var rfl) hp rfl) ha fi.fst))) fun q2 => et_is (et_not (et_B (ev_J (g := gCount) (u := b) (ev_ixT (j := 1) (ev_var rfl) hp rfl) hb fi.snd))) ?_
    have q3 : (!gCount a) = false := q2
    rw [Bool.not_eq_false'] at q3
    show (!gCount b) = !(gCount a && gCount b)
    rw [q3]
    rfl
  · refine s_ret ev_c fun H2 e2 => ?_
    rw [e0, Bool.not_eq_true'] at q
    rw [← stamp_cnt q]
    exact k H2 (e.trans e2)
  · rw [e0, Bool.not_eq_false'] at q
    obtain ⟨i, j, rfl, hi, hj⟩ := cnt2_two q
    obtain ⟨p, x, y, rfl, hp, ha, hb⟩ := pair_at (ex_at e hat)
    have hx := at_int ha
    have hy := at_int hb
    subst hx hy
    have gs : gStamp (.tup [.int i, .int j]) = ((decide (i = 0) && decide (j = 0)) || (decide (1 ≤ i) && (decide (1 ≤ j) && decide (j ≤ 99)))) := rfl
    have di : ∀ n : Int, decide (V.int n = V.int 0) = decide (n = 0) := fun n => by
      by_cases h : n = 0
      · rw [h]
        rfl
      · rw [decide_eq_false h]
        exact decide_eq_false fun z => h (V.int.inj z)
    refine s_if (b := decide (i = 0)) (et_test (ev_is (ev_op (ev_ixT (j := 0) (ev_var rfl) hp rfl) ev_c (rv_eq rfl)) (by rw [di]))) (fun q2 H2 e2 => ?_) (fun q2 H2 e2 => ?_)
    · refine s_ret (ev_is (ev_op (ev_ixT (j := 1) (ev_var rfl) (e2 _ _ hp) rfl) ev_c (rv_eq rfl)) (by rw [di])) fun H3 e3 => ?_
      have e4 : gStamp (.tup [.int i, .int j]) = decide (j = 0) := by
        have := of_decide_eq_true q2
        rw [gs, q2, decide_eq_false (show ¬ 1 ≤ i by omega), Bool.true_and, Bool.false_and, Bool.or_false]
      rw [← e4]
      exact k H3 ((e.trans e2).trans e3)
    · refine s_ret (ev_J (g := gHand) (u := .int j) (ev_ixT (j := 1) (ev_var rfl) (e2 _ _ hp) rfl) (ex_at e2 hb) fi.snd) fun H3 e3 => ?_
      have e4 : gStamp (.tup [.int i, .int j]) = gHand (.int j) := by
        have := of_decide_eq_false q2
        rw [gs, q2, decide_eq_true (show 1 ≤ i by omega), Bool.false_and, Bool.true_and, Bool.false_or]
        rfl
      rw [← e4]
      exact k H3 ((e.trans e2).trans e3)
theorem scRowFits : FnScope ["thing", "one"] ["thing"] (defScope lRowFits) := ⟨rfl, rfl, rfl, by decide +kernel, rfl, by decide +kernel, by decide +kernel⟩
def rowT (u : U) : Bool := tv u fun us => decide (us.length ≤ 12) && us.all gId
theorem jl_row {f f1 : Addr} {fd d1 : FuncData} (D : Df K mg "_law_row_fits" lRowFits ["thing"] f fd) (S : Bs K mg C) (J : Jd P wd K mg base C 3 "_law_id_fits" "thing" f1 d1 gId) :
    Jd P wd K mg base C 4 "_law_row_fits" "thing" f fd gRow := by
  refine ⟨D.F.ok scRowFits lenJ (fun cdv A outer s H vs Q E hr h => ?_), D.g, D.F.kp, D.b⟩
  obtain ⟨v, u, w, rfl, hat, fi, k⟩ := h
  refine ⟨_, pss_cons (ps_if (pt_cmpR op_isN1 (pv 0) pe_non (nomark _)) (pss_one (ps_ret pe_bl)) pss_nil)
    (pss_one (ps_ret (pe_and (pe_isiX S (by rfl) (by rfl) S.B.tup boot_tuple' (by decide) (pv 0) (by decide) (by decide)) (pe_and (pe_cmpR op_le (pe_callB call_len_seq (by rfl) S.B.len PySem.boot_len (pa_cons (pv 0) pa_nil)) pe_int (nomark _))
    (pe_one (pe_callB (cr_all rfl) (by rfl) S.B.all boot_all' (pa_cons (pe_lc (own := [("one", 1)]) (g := gName 1) (tt := tYes) rfl scRowFits.nd (pi_tup (pv 0)) (blkOk_by (N := ["thing", "one"]) (sc := defScope lRowFits) (by decide +kernel))
      (fun _ _ _ _ _ => pg_name (i := 1) scRowFits.nd rfl (Or.inl rfl)) (fun _ _ _ _ _ => pts_nil) (fun _ _ _ _ _ => pe_J J hr (by decide) (by rfl) pass0 (pv 1))) pa_nil))))))), ?_⟩
  refine s_if (b := isNon u) (et_test (ev_is (ev_isN (ev_var rfl)) (by rw [at_non hat]))) (fun q H1 e => ?_) (fun q H1 e => ?_)
  · refine s_ret ev_c fun H2 e2 => ?_
    have := k H2 (e.trans e2)
    cases u with
    | non => exact this
    | _ => cases q
  · have hat1 := ex_at e hat
    refine s_ret (ev_andV (b := rowT u) (ev_isi (ev_var rfl) hat1) fun q2 => ?_) fun H2 e2 => ?_
    · obtain ⟨us, rfl⟩ := isT_tup q2
      obtain ⟨a, xs, rfl, ha, _, hl⟩ := at_tup hat1
      refine ev_andV (a := decide (us.length ≤ 12)) (b := us.all gId) (ev_is (ev_op (ev_lenTU (K := K) (ev_var rfl) ha hl) ev_c rv_I0) (by rw [show (12 : Int) = ((12 : Nat) : Int) from rfl, dec_le])) fun _ => ?_
      exact ev_allT (g := gId) (ev_var rfl) ha fi.len hl (fun _ => rfl) fun x u hu hx => ev_J (ev_var rfl) hx (fi.tup u hu)
    · have e4 : (isT u "tuple" && rowT u) = gRow u := by
        unfold rowT
        rw [tv_and]
        cases u with
        | non => cases q
        | _ => rfl
      rw [e4]
      exact k H2 (e.trans e2)
theorem scMembersFit : FnScope ["thing", "one"] ["thing"] (defScope lMembersFit) := ⟨rfl, rfl, rfl, by decide +kernel, rfl, by decide +kernel, by decide +kernel⟩
theorem jl_members {f f1 f2 : Addr} {fd d1 d2 : FuncData} (D : Df K mg "_law_members_fit" lMembersFit ["thing"] f fd) (S : Bs K mg C) (J : Jd P wd K mg base C 1 "_law_count" "thing" f1 d1 gCount) (DA : Df K mg "_law_rising" lRising ["things"] f2 d2) :
    Jd P wd K mg base C 4 "_law_members_fit" "thing" f fd gMembers := by
  refine ⟨D.F.ok scMembersFit lenJ (fun cdv A outer s H vs Q E hr h => ?_), D.g, D.F.kp, D.b⟩
  obtain ⟨v, u, w, rfl, hat, fi, k⟩ := h
  have GA : FnOk P wd K mg base CX0 3 f2 d2 ["things"] spAsc := (ok_rising DA.F S.B).mono (by decide)
  refine ⟨_, pss_cons (ps_if (PW.pt (pw_or (pt_not (pt_val (pe_isiX S (by rfl) (by rfl) S.B.tup boot_tuple' (by decide) (pv 0) (by decide) (by decide))))
      (pw_or (pt_cmpR op_lt (pe_callB call_len_seq (by rfl) S.B.len PySem.boot_len (pa_cons (pv 0) pa_nil)) pe_int (nomark _))
      (pw_or1 (pt_cmpR op_gt (pe_callB call_len_seq (by rfl) S.B.len PySem.boot_len (pa_cons (pv 0) pa_nil)) pe_int (nomark _))))))
      (pss_one (ps_ret pe_bl)) pss_nil)
    (pss_one (ps_ret (pe_and (pe_callB (cr_all rfl) (by rfl) S.B.all boot_all' (pa_cons (pe_lc (own := [("one", 1)]) (g := gName 1) (tt := tYes) rfl scMembersFit.nd (pi_tup (pv 0)) (blkOk_by (N := ["thing", "one"]) (sc := defScope lMembersFit) (by decide +kernel))
      (fun _ _ _ _ _ => pg_name (i := 1) scMembersFit.nd rfl (Or.inl rfl)) (fun _ _ _ _ _ => pts_nil) (fun _ _ _ _ _ => pe_and (pe_J J hr (by decide) (by rfl) pass0 (pv 1)) (pe_one (pe_cmpR op_le (pv 1) pe_int (nomark _))))) pa_nil))
      (pe_one (pe_call GA hr (by rfl) DA.g DA.F.kp DA.b .nil pass0 (pa_cons (pv 0) pa_nil)))))), ?_⟩
  refine s_if (b := !isT u "tuple" || !lenB 1 9 u) (et_or (et_not (et_B (ev_isi (ev_var rfl) hat))) fun q => ?_) (fun q H1 e => ?_) (fun q H1 e => ?_)
  · rw [Bool.not_eq_false'] at q
    obtain ⟨us, rfl⟩ := isT_tup q
    obtain ⟨a, xs, rfl, ha, _, hl⟩ := at_tup hat
    exact et_is (et_or (et_test (ev_op (ev_lenTU (K := K) (ev_var rfl) ha hl) ev_c rv_I0)) fun _ => et_test (ev_op (ev_lenTU (K := K) (ev_var rfl) ha hl) ev_c rv_I0)) (len_tests (lo := 1) (hi := 9))
  · refine s_ret ev_c fun H2 e2 => ?_
    have e3 : gMembers u = false := by
      cases u with
      | tup us =>
        simp [isT, isS, tyU] at q
        show ((lenB 1 9 (.tup us) && _) && _) = false
        rw [q]
        rfl
      | _ => rfl
    rw [← e3]
    exact k H2 (e.trans e2)
  · rw [Bool.or_eq_false_iff, Bool.not_eq_false', Bool.not_eq_false'] at q
    obtain ⟨us, rfl⟩ := isT_tup q.1
    obtain ⟨a, xs, rfl, ha, _, hl⟩ := at_tup (ex_at e hat)
    have hb : (decide (1 ≤ us.length) && decide (us.length ≤ 9)) = true := q.2
    rw [Bool.and_eq_true] at hb
    have b1 : 1 ≤ us.length := of_decide_eq_true hb.1
    have b2 : us.length ≤ 9 := of_decide_eq_true hb.2
    refine s_ret (ev_andV (a := us.all gHome) (b := ascI (us.map intU)) (ev_allT (g := gHome) (ev_var rfl) ha fi.len hl (fun _ => rfl) fun x u hu hx => ev_is (ev_andV (b := gHome u) (ev_J (g := gCount) (u := u) (ev_var rfl) hx (fi.tup u hu)) fun q3 => ?_) ?_) fun q2 => ?_) fun H2 e2 => ?_
    · obtain ⟨i, rfl, hi⟩ := gCount_int q3
      cases at_int hx
      refine ev_is (ev_op (ev_var rfl) ev_c rv_I0) ?_
      show V.bl (decide (i ≤ 8)) = V.bl (decide (0 ≤ i) && decide (i < 9))
      rw [decide_eq_true hi, Bool.true_and]
      congr 1
      exact decide_eq_decide.mpr (by omega)
    · congr 1
      cases u with
      | int i =>
        show (decide (0 ≤ i) && (decide (0 ≤ i) && decide (i < 9))) = (decide (0 ≤ i) && decide (i < 9))
        rw [← Bool.and_assoc, Bool.and_self]
      | _ => rfl
    · have hx := ints_of hl (homes_ints q2)
      rw [hx] at ha
      exact ev_call (ea_cons (ev_var rfl) ea_nil) (spv_asc ha (by rw [List.length_map]; exact b1) (by rw [List.length_map]; omega))
    · have e3 : gMembers (.tup us) = (us.all gHome && ascI (us.map intU)) := by
        show ((lenB 1 9 (.tup us) && us.all gHome) && _) = _
        rw [q.2]
        rfl
      rw [← e3]
      exact k H2 (e.trans e2)
/-! ### all pieces fit -/
def gPieces (u : U) : Bool := tv u fun us => decide (us.length ≤ 12) && us.all gPiece
theorem scPiecesFit : FnScope ["thing", "one"] ["thing"] (defScope lPiecesFit) := ⟨rfl, rfl, rfl, by decide +kernel, rfl, by decide +kernel, by decide +kernel⟩
theorem jl_pieces {f f1 f2 : Addr} {fd d1 d2 : FuncData} (D : Df K mg "_law_pieces_fit" lPiecesFit ["thing"] f fd) (S : Bs K mg C) (D1 : Df K mg "_law_signs_fit" lSignsFit ["thing", "least", "most"] f1 d1) (DG : Df K mg "_law_signs" sSigns [] f2 d2) :
    Jd P wd K mg base C 3 "_law_pieces_fit" "thing" f fd gPieces := by
  have GF : FnOk P wd K mg base CX0 2 f1 d1 ["thing", "least", "most"] (spSF C) := ok_signsFit D1.F S DG
  refine ⟨D.F.ok scPiecesFit lenJ (fun cdv A outer s H vs Q E hr h => ?_), D.g, D.F.kp, D.b⟩
  obtain ⟨v, u, w, rfl, hat, fi, k⟩ := h
  refine ⟨_, pss_cons (ps_if (PW.pt (pw_or (pt_not (pt_val (pe_isiX S (by rfl) (by rfl) S.B.tup boot_tuple' (by decide) (pv 0) (by decide) (by decide))))
      (pw_or1 (pt_cmpR op_gt (pe_callB call_len_seq (by rfl) S.B.len PySem.boot_len (pa_cons (pv 0) pa_nil)) pe_int (nomark _)))))
      (pss_one (ps_ret pe_bl)) pss_nil)
    (pss_one (ps_ret (pe_callB (cr_all rfl) (by rfl) S.B.all boot_all' (pa_cons (pe_lc (own := [("one", 1)]) (g := gName 1) (tt := tYes) rfl scPiecesFit.nd (pi_tup (pv 0)) (blkOk_by (N := ["thing", "one"]) (sc := defScope lPiecesFit) (by decide +kernel))
      (fun _ _ _ _ _ => pg_name (i := 1) scPiecesFit.nd rfl (Or.inl rfl)) (fun _ _ _ _ _ => pts_nil) (fun _ _ _ _ _ => pe_call GF hr (by rfl) D1.g D1.F.kp D1.b .nil pass0 (pa_cons (pv 1) (pa_cons pe_int (pa_cons pe_int pa_nil))))) pa_nil)))), ?_⟩
  refine s_if (b := !isT u "tuple" || !lenT 12 u) (et_or (et_not (et_B (ev_isi (ev_var rfl) hat))) fun q => ?_) (fun q H2 e2 => ?_) (fun q H2 e2 => ?_)
  · rw [Bool.not_eq_false'] at q
    obtain ⟨us, rfl⟩ := isT_tup q
    obtain ⟨a, xs, rfl, ha, _, hl⟩ := at_tup hat
    exact et_test (ev_is (ev_op (ev_lenTU (K := K) (ev_var rfl) ha hl) ev_c rv_I0) (by rw [show (12 : Int) = ((12 : Nat) : Int) from rfl, not_le']; rfl))
  · refine s_ret ev_c fun H3 e3 => ?_
    have e4 : gPieces u = false := by
      cases u with
      | tup us =>
        simp [isT, isS, tyU] at q
        show (lenT 12 (.tup us) && _) = false
        rw [q]
        rfl
      | _ => rfl
    rw [← e4]
    exact k H3 (e2.trans e3)
  · rw [Bool.or_eq_false_iff, Bool.not_eq_false', Bool.not_eq_false'] at q
    obtain ⟨us, rfl⟩ := isT_tup q.1
    obtain ⟨a, xs, rfl, ha, _, hl⟩ := at_tup (ex_at e2 hat)
    refine s_ret (ev_allT (g := gPiece) (ev_var rfl) ha fi.len hl (fun _ => rfl) fun x u hu hx => ev_is (ev_call (ea_cons (ev_var rfl) (ea_cons ev_c (ea_cons ev_c ea_nil))) (spv_SF (lo := 1) (hi := 8) hx (fi.tup u hu))) (by rw [sf_piece (fi.tup u hu)])) fun H3 e3 => ?_
    have e4 : gPieces (.tup us) = us.all gPiece := by
      show (lenT 12 (.tup us) && _) = _
      rw [q.2]
      rfl
    rw [← e4]
    exact k H3 (e2.trans e3)
end
end Hs
/-! what is told, and what is refused -/
namespace Hs
open PySem PySem.Spec PyProof.Rows L2 Hu Evl
section
variable {P : Program} {wd : World} {K : PySem.W.Frag} {mg : Str → Option Value} {base : Heap} {C : Addr}
def flags (u : U) : List V := [.bl (gNam u), .bl (gText u), .bl (gRow u), .bl (gHead u), .bl (gMembers u)]
def spFl (C : Addr) : Sp := fun vs H Q _ => ∃ (v : V) (u : U) (w : Addr), vs = [v] ∧ At w C H v u ∧ Fine u ∧ ∀ p H', H p = none → Same H H' → H' p = some (.lst (flags u)) → Q (.ref p) H'
theorem scFD : FnScope ["thing", "head", "text"] ["thing"] (defScope lFlagsDue) := ⟨rfl, rfl, rfl, by decide +kernel, rfl, by decide +kernel, by decide +kernel⟩
theorem scFT : FnScope ["thing"] ["thing"] (defScope lFlagsTold) := ⟨rfl, rfl, rfl, by decide +kernel, rfl, by decide +kernel, by decide +kernel⟩
theorem ok_flagsTold {f f1 f2 f3 f4 f5 : Addr} {fd d1 d2 d3 d4 d5 : FuncData} (F : Fun K "_law_flags_told" "_law_flags_told" lFlagsTold f fd) (S : Bs K mg C) (J1 : Jd P wd K mg base C 2 "is_name" "thing" f1 d1 gNam) (J2 : Jd P wd K mg base C 2 "is_text" "thing" f2 d2 gText) (J3 : Jd P wd K mg base C 4 "is_row" "thing" f3 d3 gRow)
    (J4 : Jd P wd K mg base C 5 "is_head" "thing" f4 d4 gHead) (J5 : Jd P wd K mg base C 4 "is_members" "thing" f5 d5 gMembers) : FnOk P wd K mg base CX0 6 f fd ["thing"] (spFl C) := by
  refine F.ok scFT (fun vs H Q E h => ?_) (fun cdv A outer s H vs Q E hr h => ?_)
  · obtain ⟨v, u, w, rfl, _⟩ := h
    rfl
  obtain ⟨v, u, w, rfl, hat, fi, k⟩ := h
  refine ⟨_, pss_one (ps_ret (pe_lst (pa_cons (pe_J J1 hr (by decide) (by rfl) pass0 (pv 0)) (pa_cons (pe_J J2 hr (by decide) (by rfl) pass0 (pv 0)) (pa_cons (pe_J J3 hr (by decide) (by rfl) pass0 (pv 0)) (pa_cons (pe_J J4 hr (by decide) (by rfl) pass0 (pv 0)) (pa_cons (pe_J J5 hr (by decide) (by rfl) pass0 (pv 0)) pa_nil))))))), ?_⟩
  exact s_retL (el_lst (ea_cons (ev_J (ev_var rfl) hat fi) (ea_cons (ev_J (ev_var rfl) hat fi) (ea_cons (ev_J (ev_var rfl) hat fi) (ea_cons (ev_J (ev_var rfl) hat fi) (ea_cons (ev_J (ev_var rfl) hat fi) ea_nil))))) (show (5 : Nat) ≤ 100000 by decide)) fun p H1 hp e h1 => k p H1 hp e h1
theorem ok_flagsDue {f f1 f2 f3 f4 f5 f6 : Addr} {fd d1 d2 d3 d4 d5 d6 : FuncData} (F : Fun K "_law_flags_due" "_law_flags_due" lFlagsDue f fd) (S : Bs K mg C) (J1 : Jd P wd K mg base C 2 "_law_name_fits" "thing" f1 d1 gNam) (DL : Df K mg "_law_long" lLong ["thing", "many"] f2 d2) (J3 : Jd P wd K mg base C 4 "_law_row_fits" "thing" f3 d3 gRow)
    (J4 : Jd P wd K mg base C 3 "_law_stamp_fits" "thing" f4 d4 gStamp) (J5 : Jd P wd K mg base C 4 "_law_members_fit" "thing" f5 d5 gMembers) (DS : Df K mg "_law_signs_fit" lSignsFit ["thing", "least", "most"] f6 d6) {f7 : Addr} {d7 : FuncData} (DG : Df K mg "_law_signs" sSigns [] f7 d7) :
    FnOk P wd K mg base CX0 6 f fd ["thing"] (spFl C) := by
  have GL : FnOk P wd K mg base CX0 5 f2 d2 ["thing", "many"] (spLong C) := (ok_long DL.F S).mono (by decide)
  have GF : FnOk P wd K mg base CX0 5 f6 d6 ["thing", "least", "most"] (spSF C) := (ok_signsFit DS.F S DG).mono (by decide)
  refine F.ok scFD (fun vs H Q E h => ?_) (fun cdv A outer s H vs Q E hr h => ?_)
  · obtain ⟨v, u, w, rfl, _⟩ := h
    rfl
  obtain ⟨v, u, w, rfl, hat, fi, k⟩ := h
  refine ⟨_, pss_cons (ps_set (i := 1) scFD.nd rfl (.inl rfl) (pe_and (pe_call GL hr (by rfl) DL.g DL.F.kp DL.b .nil pass0 (pa_cons (pv 0) (pa_cons pe_int pa_nil))) (pe_and (pe_J J4 hr (by decide) (by rfl) pass0 (pe_ix ix_tup (pv 0) pe_int (fun _ _ => rfl)))
      (pe_one (pe_J J3 hr (by decide) (by rfl) pass0 (pe_ix ix_tup (pv 0) pe_int (fun _ _ => rfl)))))))
    (pss_cons (ps_set (i := 2) scFD.nd rfl (.inl rfl) (pe_call GF hr (by rfl) DS.g DS.F.kp DS.b .nil pass0 (pa_cons (pv 0) (pa_cons pe_int (pa_cons pe_int pa_nil)))))
    (pss_one (ps_ret (pe_lst (pa_cons (pe_J J1 hr (by decide) (by rfl) pass0 (pv 0)) (pa_cons (pv 2) (pa_cons (pe_J J3 hr (by decide) (by rfl) pass0 (pv 0)) (pa_cons (pv 1) (pa_cons (pe_J J5 hr (by decide) (by rfl) pass0 (pv 0)) pa_nil))))))))), ?_⟩
  refine q_asg (v := .bl (gHead u)) (ev_is (ev_andV (b := gHead u) (ev_long (ev_var rfl) hat) fun q => ?_) (by unfold gHead; rw [pair_and])) fun H1 e1 => q_asg (v := .bl (gText u)) (ev_is (ev_call (ea_cons (ev_var rfl) (ea_cons ev_c (ea_cons ev_c ea_nil))) (spv_SF (lo := 0) (hi := 96) (ex_at e1 hat) fi)) (by rw [sf_text fi])) fun H2 e2 => ?_
  · obtain ⟨a, b, rfl⟩ := gPair_two q
    obtain ⟨p, x, y, rfl, hp, ha, hb⟩ := pair_at hat
    exact ev_andV (ev_J (ev_ixT (j := 0) (ev_var rfl) hp rfl) ha fi.fst) fun _ => ev_J (ev_ixT (j := 1) (ev_var rfl) hp rfl) hb fi.snd
  · have hat2 := ex_at (e1.trans e2) hat
    exact s_retL (el_lst (ea_cons (ev_J (ev_var rfl) hat2 fi) (ea_cons (ev_var rfl) (ea_cons (ev_J (ev_var rfl) hat2 fi) (ea_cons (ev_var rfl) (ea_cons (ev_J (ev_var rfl) hat2 fi) ea_nil))))) (show (5 : Nat) ≤ 100000 by decide)) fun p H3 hp e h1 => k p H3 (fresh_back (e1.trans e2) hp) ((e1.trans e2).trans e) h1
/-! ### majorities -/
def lenU (u : U) : Int := match u with | .tup us => (us.length : Int) | _ => 0
def spAsk (C CM : Addr) (g : U → Int) : Sp := fun vs H Q E => ∃ (v : V) (u : U) (w : Addr), vs = [v] ∧ At w C H v u ∧ Fine u ∧ (gMembers u = true → ∀ H', Same H H' → Q (.int (g u)) H') ∧ (gMembers u = false → ∀ H', Same H H' → E (.ref CM) none H')
def gMaj (u : U) : Int := lenU u / 2 + 1
def gFew (u : U) : Int := lenU u - gMaj u
theorem members_tup {u : U} (h : gMembers u = true) : ∃ us, u = .tup us ∧ 1 ≤ us.length ∧ us.length ≤ 9 := by
  cases u with
  | tup us =>
    have h1 : ((decide (1 ≤ us.length) && decide (us.length ≤ 9)) && us.all gHome && ascI (us.map intU)) = true := h
    simp only [Bool.and_eq_true, decide_eq_true_eq] at h1
    exact ⟨us, rfl, h1.1.1.1, h1.1.1.2⟩
  | _ => cases h
theorem scMaj : FnScope ["members"] ["members"] (defScope sMajority) := ⟨rfl, rfl, rfl, by decide +kernel, rfl, by decide +kernel, by decide +kernel⟩
theorem ok_maj {f f1 CM : Addr} {fd d1 : FuncData} (F : Fun K "majority" "majority" sMajority f fd) (S : Bs K mg C) (J : Jd P wd K mg base C 4 "is_members" "thing" f1 d1 gMembers) (EC : Ec K mg "NoMembers" CM) : FnOk P wd K mg base (L2.CX P wd) 5 f fd ["members"] (spAsk C CM gMaj) := by
  refine F.okX scMaj (fun vs H Q E h => ?_) (fun cdv A outer s H vs Q E hr h => ?_)
  · obtain ⟨v, u, w, rfl, _⟩ := h
    rfl
  obtain ⟨v, u, w, rfl, hat, fi, k, kE⟩ := h
  refine ⟨_, pss_cons (ps_if (pt_not (pt_val (pe_J J hr (by decide) (by rfl) pass0 (pv 0)))) (pss_one (ps_raise rfl (takes_of rfl rfl rfl rfl) (pmk_own0 PySem.F.excBase_ValueError EC.x EC.g EC.k (raises_own EC.b EC.t) rfl))) pss_nil)
    (pss_one (ps_ret (pe_op op_add (pe_op op_fdiv (pe_callB call_len_seq (by rfl) S.B.len PySem.boot_len (pa_cons (pv 0) pa_nil)) pe_int) pe_int))), ?_⟩
  refine s_if (et_not (et_B (ev_J (ev_var rfl) hat fi))) (fun q H1 e => ?_) (fun q H1 e => ?_)
  · rw [Bool.not_eq_true'] at q
    exact kE q H1 e
  · rw [Bool.not_eq_false'] at q
    obtain ⟨us, rfl, _, _⟩ := members_tup q
    obtain ⟨a, xs, rfl, ha, _, hl⟩ := at_tup (ex_at e hat)
    exact s_ret (ev_op (ev_op (ev_lenTU (K := K) (ev_var rfl) ha hl) ev_c (rv_I ⟨by decide, by decide⟩)) ev_c rv_I0) fun H2 e2 => k q H2 (e.trans e2)
theorem scFew : FnScope ["members", "more"] ["members"] (defScope sFew) := ⟨rfl, rfl, rfl, by decide +kernel, rfl, by decide +kernel, by decide +kernel⟩
theorem ok_few {f f1 f2 CM : Addr} {fd d1 d2 : FuncData} (F : Fun K "few" "few" sFew f fd) (S : Bs K mg C) (J : Jd P wd K mg base C 4 "is_members" "thing" f1 d1 gMembers) (DM : Df K mg "majority" sMajority ["members"] f2 d2) (EC : Ec K mg "NoMembers" CM) : FnOk P wd K mg base (L2.CX P wd) 6 f fd ["members"] (spAsk C CM gFew) := by
  have GM : FnOk P wd K mg base (L2.CX P wd) 5 f2 d2 ["members"] (spAsk C CM gMaj) := ok_maj DM.F S J EC
  refine F.okX scFew (fun vs H Q E h => ?_) (fun cdv A outer s H vs Q E hr h => ?_)
  · obtain ⟨v, u, w, rfl, _⟩ := h
    rfl
  obtain ⟨v, u, w, rfl, hat, fi, k, kE⟩ := h
  refine ⟨_, pss_cons (ps_set (i := 1) scFew.nd rfl (.inl rfl) (pe_call (E := E) GM hr (by rfl) DM.g DM.F.kp DM.b .nil (passes_call (takes_of rfl rfl rfl rfl) (fun _ _ _ _ h => h)) (pa_cons (pv 0) pa_nil)))
    (pss_one (ps_ret (pe_op op_sub (pe_callB call_len_seq (by rfl) S.B.len PySem.boot_len (pa_cons (pv 0) pa_nil)) (pv 1)))), ?_⟩
  refine ⟨_, rfl, v, u, w, rfl, hat, fi, fun q H1 e => ?_, kE⟩
  obtain ⟨us, rfl, _, _⟩ := members_tup q
  obtain ⟨a, xs, rfl, ha, _, hl⟩ := at_tup (ex_at e hat)
  exact s_ret (ev_op (ev_lenTU (K := K) (ev_var rfl) ha hl) (ev_var rfl) rv_I0) fun H2 e2 => k q H2 (e.trans e2)
end
section
variable {X : Cx} {CX : CXT} {k i : Nat} {f : Addr} {fd : FuncData} {ps : List Str} {sp : Sp} {E : L2.St → XK} {x : Str} {p pos : Pos} {e : Expr} {es : List Expr} {t : TA}
/-- a call of a local that holds a def, which may raise -/
def tCallLS (i : Nat) (f : Addr) (sp : Sp) (E : L2.St → XK) (t : TA) : TE := fun σ H Q => σ[i]? = some (some (.ref f)) ∧ t σ H fun vs H1 => sp vs H1 Q (E σ)
theorem pe_callLS (F : FnOk X.prog X.w X.K X.mg X.base CX k f fd ps sp) (hr : Room k X.A) (hN : X.N[i]? = some x) (hv : Vis X.env.scope x) (hk : PySem.W.keepIn X.K (.ref f) = true) (hb : Binds X.K fd ps []) (hx : ∀ σ, PassesAt CX X σ (E σ)) (ha : PA X (e :: es) t)
    (hdb : (x == ("__debug__" : Str)) = false := by decide) (hcd : (x == ("__classdict__" : Str)) = false := by decide)
    (he : starEach (e :: es) X.env = (false, eval e X.env) :: starEach es X.env := by rfl) (hpl : (backTo pos (starEach es X.env)).any (·.1) = false := by rfl) : PE X (.Call (.Name x p) (e :: es) [] pos) (tCallLS i f sp E t) := by
  refine ⟨fun pins s σ H Q I h => ?_⟩
  obtain ⟨hs, ht⟩ := h
  refine wpAny_Call_Name_kw (thn ((pe_var (pos := p) hN hv hdb hcd).run pins s σ H (fun v H1 => v = .ref f ∧ H1 = H) I ⟨.ref f, hs, rfl, rfl⟩) fun u s1 ⟨v, H1, I1, r1, q1⟩ => ?_)
  obtain ⟨rfl, rfl⟩ := q1
  cases r1
  refine PySem.W.callWith_K (h₀ := X.base) I.ok.mod.kin hk (thn (ha.run pos pins s1 σ _ _ I1 ht) fun us s2 ⟨vs, H2, I2, r, q⟩ => ⟨I2.kIn, ?_⟩) he hpl
  exact run_fnS F hr hb (hx σ) I2 r q
end
section
variable {P : Program} {wd : World} {K : PySem.W.Frag} {mg : Str → Option Value} {base : Heap} {C : Addr}
def spCounted (C f : Addr) (g : U → Int) : Sp := fun vs H Q _ => ∃ (v : V) (u : U) (w : Addr), vs = [.ref f, v] ∧ At w C H v u ∧ Fine u ∧
  ∀ p H', H p = none → Same H H' → H' p = some (.tup (if gMembers u = true then [.str "told", .int (g u)] else [.str "no members"])) → Q (.ref p) H'
theorem scCounted : FnScope ["ask", "thing", "told"] ["ask", "thing"] (defScope lCounted) := ⟨rfl, rfl, rfl, by decide +kernel, rfl, by decide +kernel, by decide +kernel⟩
theorem ok_counted {k : Nat} {fq : Str} {f f1 CM CH : Addr} {fd d1 : FuncData} {g : U → Int} (F : Fun K "_law_counted" "_law_counted" lCounted f fd) (S : Bs K mg C) (GA : FnOk P wd K mg base (L2.CX P wd) k f1 d1 ["members"] (spAsk C CM g)) (hk : PySem.W.keepIn K (.ref f1) = true) (hb : Binds K d1 ["members"] [])
    (EC : Ec K mg "NoMembers" CM) (gH : mg "HomeError" = some (.ref CH)) : FnOk P wd K mg base CX0 (k + 1) f fd ["ask", "thing"] (spCounted C f1 g) := by
  refine F.ok scCounted (fun vs H Q E h => ?_) (fun cdv A outer s H vs Q E hr h => ?_)
  · obtain ⟨v, u, w, rfl, _⟩ := h
    rfl
  obtain ⟨v, u, w, rfl, hat, fi, q⟩ := h
  refine ⟨_, pss_cons (ps_set (i := 2) scCounted.nd rfl (.inl rfl) (pe_tup (pa_cons pe_str pa_nil)))
    (pss_cons (ps_try_many (tb := fun W => tAsg (tTup (tCons (tC (.str "told")) (tCons (tCallLS 0 f1 (spAsk C CM g) (WE W) (tCons (tVar 1) tNil)) tNil))) (gName 2)) (l := [(.ref CM, fun _ _ _ => tAsg (tTup (tCons (tC (.str "no members")) tNil)) (gName 2)), (.ref CH, fun _ _ _ => tAsg (tTup (tCons (tC (.str "other")) tNil)) (gName 2))]) (Wout := fun _ _ _ _ => False) rfl rfl takes0
      (fun W pn xe tk _ => pss_one (ps_set (i := 2) scCounted.nd rfl (.inl rfl) (pe_tup (pa_cons pe_str (pa_cons (pe_callLS (i := 0) GA hr rfl (Or.inl rfl) hk hb (fun σ => passAt tk σ) (pa_cons (pv 1) pa_nil)) pa_nil)))))
      (.cons ⟨rfl, by decide, .inl EC.g⟩ (fun a oe cls d pn _ _ => pss_one (ps_set (i := 2) scCounted.nd rfl (.inl rfl) (pe_tup (pa_cons pe_str pa_nil)))) (.cons ⟨rfl, by decide, .inl gH⟩ (fun a oe cls d pn _ _ => pss_one (ps_set (i := 2) scCounted.nd rfl (.inl rfl) (pe_tup (pa_cons pe_str pa_nil)))) .nil)))
    (pss_one (ps_ret (pv 2)))), ?_⟩
  refine s_asgU (eu_tup (ea_cons ev_c ea_nil) (show (1 : Nat) ≤ 100000 by decide)) fun p0 H1 _ e1 _ => ?_
  refine ⟨rfl, _, rfl, v, u, w, rfl, ex_at e1 hat, fi, fun hm H2 e2 => ?_, fun hm H2 e2 => ?_⟩
  · exact ⟨sz_of (show (2 : Nat) ≤ 100000 by decide), fun p hp => ⟨_, rfl, q p _ (fresh_back (e1.trans e2) hp) ((e1.trans e2).trans (Ex.new hp)) (by rw [upd_same, if_pos hm])⟩⟩
  · refine ⟨true, EC.e, fun _ a ha => ?_, fun q => Bool.noConfusion q⟩
    exact ⟨sz_of (show (1 : Nat) ≤ 100000 by decide), fun p hp => ⟨_, rfl, q p _ (fresh_back (e1.trans e2) hp) ((e1.trans e2).trans (Ex.new hp)) (by rw [upd_same, if_neg (by rw [hm]; decide)])⟩⟩
/-! ### members hold -/
def spMH (C : Addr) : Sp := fun vs H Q _ => ∃ (v : V) (u : U) (w : Addr), vs = [v, .bl (gMembers u)] ∧ At w C H v u ∧ Fine u ∧ ∀ H', Same H H' → Q (.bl true) H'
theorem scMH : FnScope ["thing", "right", "more", "rest", "many"] ["thing", "right"] (defScope lMembersHold) := ⟨rfl, rfl, rfl, by decide +kernel, rfl, by decide +kernel, by decide +kernel⟩
theorem shp1 (z : Str) (hz : PyData.strOk z = true) : SeqAt.shaped (.tuple [.str z]) = true := by
  show ((PyData.tuple [.str z]).canLay0 && decide ((PyData.tuple [.str z]).depth ≤ 64)) = true
  simp [PyData.canLay0, PyData.canLayAll0, PyData.depth, PyData.depthAll, hz]
theorem eqv1 (z : Str) : PyData.eqv (.tuple [.str z]) (.tuple [.str z]) = true := by
  simp [PyData.eqv, PyData.eqvAll]
theorem rv_eq1 {H : Hp} {p q : Addr} {z : Str} (hz : PyData.strOk z = true) (hp : H p = some (.tup [.str z])) (hq : H q = some (.tup [.str z])) : RV (rEqD K) (.ref p) (.ref q) H (.bl true) := fun H1 e Q f =>
  ⟨_, _, .tup (st_of (e _ _ hp)) (.cons (.str z) .nil), .tup (st_of (e _ _ hq)) (.cons (.str z) .nil), shp1 _ hz, shp1 _ hz, by rw [eqv1]; exact f H1 (Ex.refl H1)⟩
theorem nm_ok : PyData.strOk ("no members" : Str) = true := by decide +kernel
theorem maj_facts {us : List U} (h1 : 1 ≤ us.length) (h2 : us.length ≤ 9) : 0 ≤ gMaj (.tup us) ∧ 0 ≤ gFew (.tup us) ∧ (us.length : Int) < 2 * gMaj (.tup us) ∧ 2 * (gMaj (.tup us) - 1) ≤ us.length ∧ gMaj (.tup us) + gFew (.tup us) = us.length := by
  unfold gFew gMaj lenU
  dsimp only
  omega
theorem spv_counted {f : Addr} {g : U → Int} {H : Hp} {v : V} {u : U} {w : Addr} (hat : At w C H v u) (fi : Fine u) : ∀ H1, Ex H H1 → ∀ Q : VK, (∀ p H2, H1 p = none → Ex H1 H2 → H2 p = some (.tup (if gMembers u = true then [.str "told", .int (g u)] else [.str "no members"])) → Q (.ref p) H2) → ∀ E : XK, spCounted C f g [.ref f, v] H1 Q E :=
  fun H1 e Q q E => ⟨v, u, w, rfl, ex_at e hat, fi, fun p H' hp s h => q p H' hp s h⟩
theorem eu_call {sp : Sp} {dvs vs xs : List V} {E : XK} {ta : TA} {σ : L2.St} {H : Hp} (h : EvA ta σ H vs) (hs : ∀ H1, Ex H H1 → ∀ Q : VK, (∀ p H2, H1 p = none → Ex H1 H2 → H2 p = some (.tup xs) → Q (.ref p) H2) → ∀ E : XK, sp (vs ++ dvs) H1 Q E) : EvU (tCall sp dvs E ta) σ H xs :=
  fun H1 e Q q => h H1 e _ fun H2 e2 => hs H2 (e.trans e2) Q (fun p H3 hp e3 h3 => q p H3 (fresh_back e2 hp) (e2.trans e3) h3) E
theorem ok_mh {f f1 f2 f3 f4 f5 CM CH : Addr} {fd d1 d2 d3 d4 d5 : FuncData} (F : Fun K "_law_members_hold" "_law_members_hold" lMembersHold f fd) (S : Bs K mg C) (J : Jd P wd K mg base C 4 "is_members" "thing" f1 d1 gMembers) (DM : Df K mg "majority" sMajority ["members"] f2 d2) (DF : Df K mg "few" sFew ["members"] f3 d3)
    (DC : Df K mg "_law_counted" lCounted ["ask", "thing"] f4 d4) (JC : Jd P wd K mg base C 1 "_law_count" "thing" f5 d5 gCount) (EC : Ec K mg "NoMembers" CM) (gH : mg "HomeError" = some (.ref CH)) : FnOk P wd K mg base CX0 8 f fd ["thing", "right"] (spMH C) := by
  have G1 : FnOk P wd K mg base CX0 7 f4 d4 ["ask", "thing"] (spCounted C f2 gMaj) := (ok_counted (fq := "") DC.F S (ok_maj DM.F S J EC) DM.F.kp DM.b EC gH).mono (by decide)
  have G2 : FnOk P wd K mg base CX0 7 f4 d4 ["ask", "thing"] (spCounted C f3 gFew) := ok_counted (fq := "") DC.F S (ok_few DF.F S J DM EC) DF.F.kp DF.b EC gH
  refine F.ok scMH (fun vs H Q E h => ?_) (fun cdv A outer s H vs Q E hr h => ?_)
  · obtain ⟨v, u, w, rfl, _⟩ := h
    rfl
  obtain ⟨v, u, w, rfl, hat, fi, k⟩ := h
  refine ⟨_, pss_cons (ps_set (i := 2) scMH.nd rfl (.inl rfl) (pe_call G1 hr (by rfl) DC.g DC.F.kp DC.b .nil pass0 (pa_cons (pe_glob (v := .ref f2) rfl DM.g rfl) (pa_cons (pv 0) pa_nil))))
    (pss_cons (ps_set (i := 3) scMH.nd rfl (.inl rfl) (pe_call G2 hr (by rfl) DC.g DC.F.kp DC.b .nil pass0 (pa_cons (pe_glob (v := .ref f3) rfl DF.g rfl) (pa_cons (pv 0) pa_nil))))
    (pss_cons (ps_if (pt_not (pt_val (pv 1))) (pss_one (ps_ret (pe_and (pe_cmpR (op_eqD (room_hu hr)) (pv 2) (pe_tup (pa_cons pe_str pa_nil)) (nomark _)) (pe_one (pe_cmpR (op_eqD (room_hu hr)) (pv 3) (pe_tup (pa_cons pe_str pa_nil)) (nomark _)))))) pss_nil)
    (pss_cons (ps_if (PW.pt (pw_or (pt_cmpR op_ne (pe_ix ix_tup (pv 2) pe_int (fun _ _ => rfl)) pe_str (nomark _)) (pw_or (pt_cmpR op_ne (pe_ix ix_tup (pv 3) pe_int (fun _ _ => rfl)) pe_str (nomark _))
      (pw_or (pt_not (pt_val (pe_J JC hr (by decide) (by rfl) pass0 (pe_ix ix_tup (pv 2) pe_int (fun _ _ => rfl))))) (pw_or1 (pt_not (pt_val (pe_J JC hr (by decide) (by rfl) pass0 (pe_ix ix_tup (pv 3) pe_int (fun _ _ => rfl))))))))))
      (pss_one (ps_ret pe_bl)) pss_nil)
    (pss_cons (ps_set (i := 4) scMH.nd rfl (.inl rfl) (pe_callB call_len_seq (by rfl) S.B.len PySem.boot_len (pa_cons (pv 0) pa_nil)))
    (pss_one (ps_ret (pe_and (pe_cmpR op_gt (pe_op op_mul pe_int (pe_ix ix_tup (pv 2) pe_int (fun _ _ => rfl))) (pv 4) (nomark _)) (pe_and (pe_cmpR op_le (pe_op op_mul pe_int (pe_op op_sub (pe_ix ix_tup (pv 2) pe_int (fun _ _ => rfl)) pe_int)) (pv 4) (nomark _))
      (pe_one (pe_cmpR op_eq (pe_op op_add (pe_ix ix_tup (pv 2) pe_int (fun _ _ => rfl)) (pe_ix ix_tup (pv 3) pe_int (fun _ _ => rfl))) (pv 4) (nomark _))))))))))), ?_⟩
  refine q_asgU (eu_call (ea_cons ev_c (ea_cons (ev_var rfl) ea_nil)) (spv_counted hat fi)) fun p1 H1 hp1 e1 h1 => q_asgU (eu_call (ea_cons ev_c (ea_cons (ev_var rfl) ea_nil)) (spv_counted (ex_at e1 hat) fi)) fun p2 H2 hp2 e2 h2 => ?_
  refine s_if (b := !gMembers u) (et_not (et_B (ev_var rfl))) (fun q H3 e3 => ?_) (fun q H3 e3 => ?_)
  · rw [Bool.not_eq_true'] at q
    rw [if_neg (by rw [q]; decide)] at h1 h2
    have h1' := e3 _ _ (e2 _ _ h1)
    have h2' := e3 _ _ h2
    refine s_ret (ev_is (ev_andV (a := true) (b := true) (ev_opU (ev_var rfl) (eu_tup (ea_cons ev_c ea_nil) (show (1 : Nat) ≤ 100000 by decide)) fun q H4 hq e4 => rv_eq1 nm_ok (e4 _ _ h1') hq) fun _ => ev_opU (ev_var rfl) (eu_tup (ea_cons ev_c ea_nil) (show (1 : Nat) ≤ 100000 by decide)) fun q H4 hq e4 => rv_eq1 nm_ok (e4 _ _ h2') hq) rfl) fun H4 e4 => ?_
    exact k H4 (((e1.trans e2).trans e3).trans e4)
  · rw [Bool.not_eq_false'] at q
    rw [if_pos q] at h1 h2
    have h1' := e3 _ _ (e2 _ _ h1)
    have h2' := e3 _ _ h2
    obtain ⟨us, rfl, l1, l2⟩ := members_tup q
    obtain ⟨m1, m2, m3, m4, m5⟩ := maj_facts l1 l2
    have hat3 := ex_at ((e1.trans e2).trans e3) hat
    obtain ⟨a, xs, rfl, ha, _, hl⟩ := at_tup hat3
    have c1 : ∀ {i : Int} {H : Hp}, At a C H (.int i) (.int i) := .int _
    have f1 : ∀ i : Int, 0 ≤ i → i ≤ 9 → Fine (.int i) := fun i h0 h9 => ⟨by simp only [wt]; omega, by simp only [clean]; omega⟩
    refine s_if (b := false) (et_is (et_or (et_test (ev_op (ev_ixT (j := 0) (ev_var rfl) h1' rfl) ev_c (rv_ne rfl))) fun _ => et_or (et_test (ev_op (ev_ixT (j := 0) (ev_var rfl) h2' rfl) ev_c (rv_ne rfl))) fun _ => et_or (et_not (et_B (ev_J (g := gCount) (u := .int (gMaj (.tup us))) (w := a) (ev_ixT (j := 1) (ev_var rfl) h1' rfl) c1 (f1 _ m1 (by omega))))) fun _ =>
      et_not (et_B (ev_J (g := gCount) (u := .int (gFew (.tup us))) (w := a) (ev_ixT (j := 1) (ev_var rfl) h2' rfl) c1 (f1 _ m2 (by omega))))) ?_) (fun z => by cases z) (fun _ H4 e4 => ?_)
    · show ((!decide (V.str "told" = V.str "told")) || ((!decide (V.str "told" = V.str "told")) || ((!decide (0 ≤ gMaj (.tup us))) || (!decide (0 ≤ gFew (.tup us)))))) = false
      rw [decide_eq_true rfl, decide_eq_true m1, decide_eq_true m2]
      rfl
    · refine q_asg (ev_lenTU (K := K) (ev_var rfl) (e4 _ _ ha) (ex_atl e4 hl)) fun H5 e5 => ?_
      have h1'' := e5 _ _ (e4 _ _ h1')
      have h2'' := e5 _ _ (e4 _ _ h2')
      refine s_ret (ev_is (ev_andV (ev_op (ev_op ev_c (ev_ixT (j := 1) (ev_var rfl) h1'' rfl) (rv_I (.inl ⟨by decide, by decide⟩))) (ev_var rfl) rv_I0) fun _ => ev_andV (ev_op (ev_op ev_c (ev_op (ev_ixT (j := 1) (ev_var rfl) h1'' rfl) ev_c rv_I0) (rv_I (.inl ⟨by decide, by decide⟩))) (ev_var rfl) rv_I0) fun _ => ev_op (ev_op (ev_ixT (j := 1) (ev_var rfl) h1'' rfl) (ev_ixT (j := 1) (ev_var rfl) h2'' rfl) rv_I0) (ev_var rfl) (rv_eq rfl)) ?_) fun H6 e6 => k H6 (((((e1.trans e2).trans e3).trans e4).trans e5).trans e6)
      rw [decide_eq_true m3, decide_eq_true m4, decide_eq_true (by rw [m5])]
      rfl
end
end Hs
/-! texts and pieces: refused or let -/
namespace Hs
open PySem PySem.Spec PyProof.Rows L2 Hu Evl
section
variable {P : Program} {wd : World} {K : PySem.W.Frag} {mg : Str → Option Value} {base : Heap} {C : Addr}
theorem scChopped : FnScope ["text", "k"] ["text"] (defScope sChopped) := ⟨rfl, rfl, rfl, by decide +kernel, rfl, by decide +kernel, by decide +kernel⟩
theorem size8 (n : Nat) : Builtin.Range.rangeSize 0 (n : Int) 8 = (((n + 7) / 8 : Nat) : Int) := by
  unfold Builtin.Range.rangeSize
  rw [if_pos (by decide)]
  by_cases q : (0 : Int) < n
  · rw [if_pos q]
    omega
  · rw [if_neg q]
    omega
theorem fits_of {i : Int} (h : 0 ≤ i) (h2 : i ≤ 2000000) : Builtin.Range.rangeFitsLong i = true := by
  unfold Builtin.Range.rangeFitsLong
  rw [decide_eq_true (by omega), decide_eq_true (by omega)]
  rfl
theorem rg8 (n : Nat) (h : n ≤ 1000000) : RgC 0 (n : Int) 8 ((n + 7) / 8) := by
  refine ⟨by decide, by decide, ?_, size8 n⟩
  unfold Builtin.Range.small
  rw [size8, if_pos (by decide), fits_of (i := 0) (by omega) (by omega), fits_of (i := (n : Int)) (by omega) (by omega), fits_of (i := 8) (by omega) (by omega), fits_of (i := (((n + 7) / 8 : Nat) : Int)) (by omega) (by omega), fits_of (i := (n : Int) + (8 - 1)) (by omega) (by omega), Bool.or_true]
  rfl
/-- what is refused, and what is let -/
def spRef (C CT : Addr) (g : U → Bool) : Sp := fun vs H Q E => ∃ (v : V) (u : U) (w : Addr), vs = [v] ∧ At w C H v u ∧ Fine u ∧ (g u = true → ∀ y H', Same H H' → Q y H') ∧ (g u = false → ∀ H', Same H H' → E (.ref CT) none H')
theorem gText_str {u : U} (h : gText u = true) : ∃ z, u = .str z := by
  cases u with
  | str z => exact ⟨z, rfl⟩
  | _ => cases h
theorem ok_chopped {f f1 CT : Addr} {fd d1 : FuncData} (F : Fun K "chopped" "chopped" sChopped f fd) (S : Bs K mg C) (N : Cn mg) (J : Jd P wd K mg base C 2 "is_text" "thing" f1 d1 gText) (EC : Ec K mg "NoText" CT) : FnOk P wd K mg base (L2.CX P wd) 3 f fd ["text"] (spRef C CT gText) := by
  refine F.okX scChopped (fun vs H Q E h => ?_) (fun cdv A outer s H vs Q E hr h => ?_)
  · obtain ⟨v, u, w, rfl, _⟩ := h
    rfl
  obtain ⟨v, u, w, rfl, hat, fi, k, kE⟩ := h
  obtain ⟨t, h8⟩ := N.signs
  refine ⟨_, pss_cons (ps_if (pt_not (pt_val (pe_J J hr (by decide) (by rfl) pass0 (pv 0)))) (pss_one (ps_raise rfl (takes_of rfl rfl rfl rfl) (pmk_own0 PySem.F.excBase_ValueError EC.x EC.g EC.k (raises_own EC.b EC.t) rfl))) pss_nil)
      (pss_one (ps_ret (pe_callTy call_tuple_of (by rfl) S.B.tup boot_tuple' (pa_cons (pe_lc (own := [("k", 1)]) (g := gName 1) (tt := tYes) rfl scChopped.nd
        (pi_range3 (by rfl) S.B.range (pa_cons pe_int (pa_cons (pe_callB call_len_str (by rfl) S.B.len PySem.boot_len (pa_cons (pv 0) pa_nil)) (pa_cons (pe_glob (v := .int 8) rfl h8 ⟨_, rfl⟩) pa_nil)))) (blkOk_by (N := ["text", "k"]) (sc := defScope sChopped) (by decide +kernel))
        (fun _ _ _ _ _ => pg_name (i := 1) scChopped.nd rfl (Or.inl rfl)) (fun _ _ _ _ _ => pts_nil)
        (fun _ _ _ _ _ => pe_slice sl_str (pv 0) (po_some (pv 1)) (po_some (pe_op op_add (pv 1) (pe_glob (v := .int 8) rfl h8 ⟨_, rfl⟩))))) pa_nil)))), ?_⟩
  refine s_if (et_not (et_B (ev_J (ev_var rfl) hat fi))) (fun q H1 e => ?_) (fun q H1 e => ?_)
  · rw [Bool.not_eq_true'] at q
    exact kE q H1 e
  · rw [Bool.not_eq_false'] at q
    obtain ⟨z, rfl⟩ := gText_str q
    cases at_str hat
    refine ⟨_, rfl, z, rfl, fi.line, _, _, _, _, rfl, rg8 _ (by have := fi.str; omega), fun D hD => lc_it walk_rangeC (fun i H' => Ex H1 H' ∧ ∃ ys, H' D = some (.lst ys) ∧ ys.length = i) ⟨Ex.new hD, [], upd_same, rfl⟩ (fun _ _ _ _ => True.intro) ?_ ?_⟩
    · rintro i x H2 H3 hi ⟨sm, ys, hy, hl⟩ ⟨rfl, rfl⟩
      refine ⟨rfl, _, rfl, _, rfl, _, rfl, _, rfl, _, _, rfl, rfl, _, rfl, z, rfl, fi.line, _, hy, ?_, Ex.mut sm hD, _, upd_same, ?_⟩
      · have := fi.str
        have := bit_line
        unfold bit at this
        omega
      · rw [List.length_append, hl]
        rfl
    · rintro H2 ⟨sm, ys, hy, hl⟩
      exact ⟨D, _, rfl, .inl ⟨SqL.of hy, fun p hp => k q _ _ ((e.trans sm).trans (Ex.new hp))⟩⟩
theorem scJoined : FnScope ["pieces", "piece"] ["pieces"] (defScope sJoined) := ⟨rfl, rfl, rfl, by decide +kernel, rfl, by decide +kernel, by decide +kernel⟩
theorem piece_str {u : U} (h : gPiece u = true) : ∃ z : Str, u = .str z ∧ z.length ≤ 8 := by
  cases u with
  | str z =>
    have h1 : (okz z && (decide (1 ≤ z.length) && decide (z.length ≤ 8))) = true := h
    simp only [Bool.and_eq_true, decide_eq_true_eq] at h1
    exact ⟨z, rfl, h1.2.2⟩
  | _ => cases h
theorem strs_of {w : Addr} {H : Hp} : ∀ {us : List U} {xs : List V}, AtL w C H xs us → us.all gPiece = true → ∃ zs : List Str, xs = zs.map V.str ∧ (zs.map (·.length)).sum ≤ 8 * us.length
  | _, _, .nil, _ => ⟨[], rfl, Nat.le_refl _⟩
  | u :: us, _, .cons h l, q => by
    rw [List.all_cons, Bool.and_eq_true] at q
    obtain ⟨z, rfl, hz⟩ := piece_str q.1
    obtain ⟨zs, e, hs⟩ := strs_of l q.2
    refine ⟨z :: zs, by rw [e, at_str h]; rfl, ?_⟩
    rw [List.map_cons, List.sum_cons, List.length_cons]
    omega
theorem ok_joined {f f1 CT : Addr} {fd d1 : FuncData} (F : Fun K "joined" "joined" sJoined f fd) (S : Bs K mg C) (N : Cn mg) (J : Jd P wd K mg base C 2 "is_piece" "thing" f1 d1 gPiece) (EC : Ec K mg "NoPieces" CT) : FnOk P wd K mg base (L2.CX P wd) 3 f fd ["pieces"] (spRef C CT gPieces) := by
  refine F.okX scJoined (fun vs H Q E h => ?_) (fun cdv A outer s H vs Q E hr h => ?_)
  · obtain ⟨v, u, w, rfl, _⟩ := h
    rfl
  obtain ⟨v, u, w, rfl, hat, fi, k, kE⟩ := h
  obtain ⟨t, h12⟩ := N.pieces
  refine ⟨_, pss_cons (ps_if (PW.pt (pw_or (pt_not (pt_val (pe_isiX S (by rfl) (by rfl) S.B.tup boot_tuple' (by decide) (pv 0) (by decide) (by decide))))
          (pw_or1 (pt_cmpR op_gt (pe_callB call_len_seq (by rfl) S.B.len PySem.boot_len (pa_cons (pv 0) pa_nil)) (pe_glob (v := .int 12) rfl h12 ⟨_, rfl⟩) (nomark _)))))
        (pss_one (ps_raise rfl (takes_of rfl rfl rfl rfl) (pmk_own0 PySem.F.excBase_ValueError EC.x EC.g EC.k (raises_own EC.b EC.t) rfl))) pss_nil)
      (pss_cons (ps_if (pt_not (pt_val (pe_callB (cr_all rfl) (by rfl) S.B.all boot_all' (pa_cons (pe_lc (own := [("piece", 1)]) (g := gName 1) (tt := tYes) rfl scJoined.nd (pi_tup (pv 0)) (blkOk_by (N := ["pieces", "piece"]) (sc := defScope sJoined) (by decide +kernel))
          (fun _ _ _ _ _ => pg_name (i := 1) scJoined.nd rfl (Or.inl rfl)) (fun _ _ _ _ _ => pts_nil) (fun _ _ _ _ _ => pe_J J hr (by decide) (by rfl) pass0 (pv 1))) pa_nil))))
        (pss_one (ps_raise rfl (takes_of rfl rfl rfl rfl) (pmk_own0 PySem.F.excBase_ValueError EC.x EC.g EC.k (raises_own EC.b EC.t) rfl))) pss_nil)
      (pss_one (ps_ret (pe_join pe_str (pv 0))))), ?_⟩
  refine s_if (b := !isT u "tuple" || !lenT 12 u) (et_or (et_not (et_B (ev_isi (ev_var rfl) hat))) fun q => ?_) (fun q H2 e2 => ?_) (fun q H2 e2 => ?_)
  · rw [Bool.not_eq_false'] at q
    obtain ⟨us, rfl⟩ := isT_tup q
    obtain ⟨a, xs, rfl, ha, _, hl⟩ := at_tup hat
    exact et_test (ev_is (ev_op (ev_lenTU (K := K) (ev_var rfl) ha hl) ev_c rv_I0) (by rw [show (12 : Int) = ((12 : Nat) : Int) from rfl, not_le']; rfl))
  · refine kE ?_ H2 e2
    cases u with
    | tup us =>
      simp [isT, isS, tyU] at q
      show (lenT 12 (.tup us) && _) = false
      rw [q]
      rfl
    | _ => rfl
  · rw [Bool.or_eq_false_iff, Bool.not_eq_false', Bool.not_eq_false'] at q
    obtain ⟨us, rfl⟩ := isT_tup q.1
    obtain ⟨a, xs, rfl, ha, _, hl⟩ := at_tup (ex_at e2 hat)
    have e4 : gPieces (.tup us) = us.all gPiece := by
      show (lenT 12 (.tup us) && _) = _
      rw [q.2]
      rfl
    unfold tNext
    dsimp only
    unfold tSeq
    refine s_if (et_not (et_B (ev_allT (K := K) (σ := [some (.ref a), none]) (j := 1) (vs := [1]) (tl := tVar 0) (te := tCall (spJ C gPiece) [] E0 (tCons (tVar 1) tNil)) (g := gPiece) (ev_var rfl) ha fi.len hl (fun _ => rfl) fun x u hu hx => ev_J (ev_var rfl) hx (fi.tup u hu)))) (fun q2 H3 e3 => ?_) (fun q2 H3 e3 => ?_)
    · rw [Bool.not_eq_true', ← e4] at q2
      exact kE q2 H3 (e2.trans e3)
    · rw [Bool.not_eq_false'] at q2
      obtain ⟨zs, rfl, hz⟩ := strs_of hl q2
      have hl12 : us.length ≤ 12 := of_decide_eq_true q.2
      refine ⟨⟨_, rfl⟩, _, rfl, _, a, zs, rfl, rfl, .inr (st_of (e3 _ _ ha)), ?_, k (by rw [e4]; exact q2) _ H3 (e2.trans e3)⟩
      show (zs.map (·.length)).sum + zs.length * 0 ≤ 16777216
      omega
/-- what _law_text_refused and _law_pieces_refused tell -/
def told (g : U → Bool) (u : U) : Str := if g u = true then "let" else "refused"
def spRT (C : Addr) (g : U → Bool) : Sp := fun vs H Q _ => ∃ (v : V) (u : U) (w : Addr), vs = [v] ∧ At w C H v u ∧ Fine u ∧ ∀ H', Same H H' → Q (.str (told g u)) H'
theorem scTR : FnScope ["thing", "told"] ["thing"] (defScope lTextRefused) := ⟨rfl, rfl, rfl, by decide +kernel, rfl, by decide +kernel, by decide +kernel⟩
theorem scPR : FnScope ["thing", "told"] ["thing"] (defScope lPiecesRefused) := ⟨rfl, rfl, rfl, by decide +kernel, rfl, by decide +kernel, by decide +kernel⟩
theorem ok_tr {f f1 f2 CT CH : Addr} {fd d1 d2 : FuncData} (F : Fun K "_law_text_refused" "_law_text_refused" lTextRefused f fd) (S : Bs K mg C) (N : Cn mg) (J : Jd P wd K mg base C 2 "is_text" "thing" f1 d1 gText) (DC : Df K mg "chopped" sChopped ["text"] f2 d2) (EC : Ec K mg "NoText" CT) (gH : mg "HomeError" = some (.ref CH)) :
    FnOk P wd K mg base CX0 4 f fd ["thing"] (spRT C gText) := by
  have GC : FnOk P wd K mg base (L2.CX P wd) 3 f2 d2 ["text"] (spRef C CT gText) := ok_chopped DC.F S N J EC
  refine F.ok scTR (fun vs H Q E h => ?_) (fun cdv A outer s H vs Q E hr h => ?_)
  · obtain ⟨v, u, w, rfl, _⟩ := h
    rfl
  obtain ⟨v, u, w, rfl, hat, fi, k⟩ := h
  refine ⟨_, pss_cons (ps_set (i := 1) scTR.nd rfl (.inl rfl) pe_str)
      (pss_cons (ps_try_many (tb := fun W => tDrop (tCallS (spRef C CT gText) (WE W) (tCons (tVar 0) tNil))) (l := [(.ref CT, fun _ _ _ => tAsg (tC (.str "refused")) (gName 1)), (.ref CH, fun _ _ _ => tAsg (tC (.str "other")) (gName 1))]) (Wout := fun _ _ _ _ => False) rfl rfl takes0
        (fun W pn xe tk _ => pss_one (ps_expr (pe_callS GC hr rfl DC.g DC.F.kp DC.b (fun σ => passAt tk σ) (pa_cons (pv 0) pa_nil))))
        (.cons ⟨rfl, by decide, .inl EC.g⟩ (fun a oe cls d pn _ _ => pss_one (ps_set (i := 1) scTR.nd rfl (.inl rfl) pe_str)) (.cons ⟨rfl, by decide, .inl gH⟩ (fun a oe cls d pn _ _ => pss_one (ps_set (i := 1) scTR.nd rfl (.inl rfl) pe_str)) .nil)))
      (pss_one (ps_ret (pv 1)))), ?_⟩
  refine ⟨_, rfl, v, u, w, rfl, hat, fi, fun q y H' sm => ?_, fun q H' sm => ?_⟩
  · have := k H' sm
    unfold told at this
    rw [if_pos q] at this
    exact ⟨_, rfl, this⟩
  · refine ⟨true, EC.e, fun _ a ha => ?_, fun q => Bool.noConfusion q⟩
    have := k H' sm
    unfold told at this
    rw [if_neg (by rw [q]; decide)] at this
    exact ⟨_, rfl, this⟩
theorem ok_pr {f f1 f2 CT CH : Addr} {fd d1 d2 : FuncData} (F : Fun K "_law_pieces_refused" "_law_pieces_refused" lPiecesRefused f fd) (S : Bs K mg C) (N : Cn mg) (J : Jd P wd K mg base C 2 "is_piece" "thing" f1 d1 gPiece) (DC : Df K mg "joined" sJoined ["pieces"] f2 d2) (EC : Ec K mg "NoPieces" CT) (gH : mg "HomeError" = some (.ref CH)) :
    FnOk P wd K mg base CX0 4 f fd ["thing"] (spRT C gPieces) := by
  have GC : FnOk P wd K mg base (L2.CX P wd) 3 f2 d2 ["pieces"] (spRef C CT gPieces) := ok_joined DC.F S N J EC
  refine F.ok scPR (fun vs H Q E h => ?_) (fun cdv A outer s H vs Q E hr h => ?_)
  · obtain ⟨v, u, w, rfl, _⟩ := h
    rfl
  obtain ⟨v, u, w, rfl, hat, fi, k⟩ := h
  refine ⟨_, pss_cons (ps_set (i := 1) scPR.nd rfl (.inl rfl) pe_str)
      (pss_cons (ps_try_many (tb := fun W => tDrop (tCallS (spRef C CT gPieces) (WE W) (tCons (tVar 0) tNil))) (l := [(.ref CT, fun _ _ _ => tAsg (tC (.str "refused")) (gName 1)), (.ref CH, fun _ _ _ => tAsg (tC (.str "other")) (gName 1))]) (Wout := fun _ _ _ _ => False) rfl rfl takes0
        (fun W pn xe tk _ => pss_one (ps_expr (pe_callS GC hr rfl DC.g DC.F.kp DC.b (fun σ => passAt tk σ) (pa_cons (pv 0) pa_nil))))
        (.cons ⟨rfl, by decide, .inl EC.g⟩ (fun a oe cls d pn _ _ => pss_one (ps_set (i := 1) scPR.nd rfl (.inl rfl) pe_str)) (.cons ⟨rfl, by decide, .inl gH⟩ (fun a oe cls d pn _ _ => pss_one (ps_set (i := 1) scPR.nd rfl (.inl rfl) pe_str)) .nil)))
      (pss_one (ps_ret (pv 1)))), ?_⟩
  refine ⟨_, rfl, v, u, w, rfl, hat, fi, fun q y H' sm => ?_, fun q H' sm => ?_⟩
  · have := k H' sm
    unfold told at this
    rw [if_pos q] at this
    exact ⟨_, rfl, this⟩
  · refine ⟨true, EC.e, fun _ a ha => ?_, fun q => Bool.noConfusion q⟩
    have := k H' sm
    unfold told at this
    rw [if_neg (by rw [q]; decide)] at this
    exact ⟨_, rfl, this⟩
end
end Hs
/-! the law's drawn values -/
namespace Hs
open PySem PySem.Spec PyProof.Rows L2 Hu Evl
/-- what is tracked in H' at places that were free in H -/
def fresh (H H' : Hp) : Hp := fun b => match H b with | none => H' b | some _ => none
theorem fr_get {H H' : Hp} {b : Addr} (h : H b = none) : fresh H H' b = H' b := by
  unfold fresh
  rw [h]
theorem fr_new {H H' : Hp} {b : Addr} {o : HO} (h : fresh H H' b = some o) : H b = none ∧ H' b = some o := by
  cases q : H b with
  | none => exact ⟨rfl, by rw [fr_get q] at h; exact h⟩
  | some o' =>
    unfold fresh at h
    rw [q] at h
    cases h
theorem at_full {w C : Addr} {H H' : Hp} {v : V} {u : U} (h : At w C (fresh H H') v u) : At w C H' v u := h.keep fun b o _ q => (fr_new q).2
theorem atl_full {w C : Addr} {H H' : Hp} {vs : List V} {us : List U} (h : AtL w C (fresh H H') vs us) : AtL w C H' vs us := h.keep fun b o _ q => (fr_new q).2
/-! its signs are a text's or line feeds, its integers below 2 ^ 64 + b -/
mutual
def tidy (b : Nat) : U → Prop
  | .int i => i.natAbs < 2 ^ 64 + b
  | .str z => ∀ c ∈ TL.tl z, okS c = true ∨ c = 10
  | .tup us | .lst us | .dct us => tidyL b us
  | _ => True
def tidyL (b : Nat) : List U → Prop
  | [] => True
  | u :: us => tidy b u ∧ tidyL b us
end
mutual
theorem tidy_clean {b : Nat} (hb : b ≤ 100) : ∀ u : U, tidy b u → clean u
  | .non, _ => trivial
  | .bl _, _ => trivial
  | .int i, h => by simp only [tidy] at h; simp only [clean]; omega
  | .str z, h => by simpa only [clean, tidy] using h
  | .tup us, h => by simp only [clean]; exact tidyL_clean hb us (by simpa only [tidy] using h)
  | .lst us, h => by simp only [clean]; exact tidyL_clean hb us (by simpa only [tidy] using h)
  | .dct us, h => by simp only [clean]; exact tidyL_clean hb us (by simpa only [tidy] using h)
  | .exc, _ => trivial
theorem tidyL_clean {b : Nat} (hb : b ≤ 100) : ∀ us : List U, tidyL b us → cleanL us
  | [], _ => trivial
  | u :: us, h => ⟨tidy_clean hb u h.1, tidyL_clean hb us h.2⟩
end
mutual
theorem tidy_mono {b b' : Nat} (hb : b ≤ b') : ∀ u : U, tidy b u → tidy b' u
  | .non, _ => trivial
  | .bl _, _ => trivial
  | .int i, h => by simp only [tidy] at *; omega
  | .str z, h => by simpa only [tidy] using h
  | .tup us, h => by simp only [tidy] at *; exact tidyL_mono hb us h
  | .lst us, h => by simp only [tidy] at *; exact tidyL_mono hb us h
  | .dct us, h => by simp only [tidy] at *; exact tidyL_mono hb us h
  | .exc, _ => trivial
theorem tidyL_mono {b b' : Nat} (hb : b ≤ b') : ∀ us : List U, tidyL b us → tidyL b' us
  | [], _ => trivial
  | u :: us, h => ⟨tidy_mono hb u h.1, tidyL_mono hb us h.2⟩
end
/-- bounds -/
structure Bd (u : U) (m d b : Nat) : Prop where
  w : wt u ≤ m
  d : dep u ≤ d
  c : tidy b u
theorem Bd.mono {u : U} {m d b m' d' b' : Nat} (h : Bd u m d b) (hm : m ≤ m') (hd : d ≤ d') (hb : b ≤ b') : Bd u m' d' b' := ⟨Nat.le_trans h.w hm, Nat.le_trans h.d hd, tidy_mono hb _ h.c⟩
theorem Bd.fine {u : U} {m d b : Nat} (h : Bd u m d b) (hm : m ≤ 1000000) (hb : b ≤ 100) : Fine u := ⟨Nat.le_trans h.w hm, tidy_clean hb _ h.c⟩
structure BdL (us : List U) (m d b : Nat) : Prop where
  w : wtL us ≤ m
  d : depL us ≤ d
  c : tidyL b us
theorem BdL.nil {d b : Nat} : BdL [] 0 d b := ⟨Nat.le_refl _, Nat.zero_le _, trivial⟩
theorem wtL_append : ∀ us us' : List U, wtL (us ++ us') = wtL us + wtL us'
  | [], us' => by simp [wtL]
  | u :: us, us' => by simp only [List.cons_append, wtL, wtL_append us us']; omega
theorem depL_append : ∀ us us' : List U, depL (us ++ us') = max (depL us) (depL us')
  | [], us' => by simp [depL]
  | u :: us, us' => by simp only [List.cons_append, depL, depL_append us us']; omega
theorem tidyL_append {b : Nat} : ∀ {us us' : List U}, tidyL b us → tidyL b us' → tidyL b (us ++ us')
  | [], _, _, h => h
  | _ :: _, _, h, h' => ⟨h.1, tidyL_append h.2 h'⟩
theorem BdL.append {us us' : List U} {m m' d b : Nat} (h : BdL us m d b) (h' : BdL us' m' d b) : BdL (us ++ us') (m + m') d b := by
  refine ⟨?_, ?_, tidyL_append h.c h'.c⟩
  · rw [wtL_append]
    have := h.w
    have := h'.w
    omega
  · rw [depL_append]
    have := h.d
    have := h'.d
    omega
theorem BdL.one {u : U} {m d b : Nat} (h : Bd u m d b) : BdL [u] (m + 2) d b := ⟨by have := h.w; simp only [wtL]; omega, by have := h.d; simp only [depL]; omega, ⟨h.c, trivial⟩⟩
theorem BdL.snoc {us : List U} {u : U} {m m' d b : Nat} (h : BdL us m d b) (q : Bd u m' d b) : BdL (us ++ [u]) (m + (m' + 2)) d b := h.append (.one q)
theorem BdL.mono {us : List U} {m d b m' d' b' : Nat} (h : BdL us m d b) (hm : m ≤ m') (hd : d ≤ d') (hb : b ≤ b') : BdL us m' d' b' := ⟨Nat.le_trans h.w hm, Nat.le_trans h.d hd, tidyL_mono hb _ h.c⟩
theorem BdL.take {us : List U} {m d b : Nat} : ∀ (n : Nat), BdL us m d b → BdL (us.take n) m d b := fun n h => by
  have e := List.take_append_drop n us
  refine ⟨?_, ?_, ?_⟩
  · have := h.w
    rw [← e, wtL_append] at this
    omega
  · have := h.d
    rw [← e, depL_append] at this
    omega
  · have := h.c
    clear e h
    induction us generalizing n with
    | nil => rw [List.take_nil]; trivial
    | cons u us ih => cases n with
      | zero => trivial
      | succ n => exact ⟨this.1, ih n this.2⟩
theorem BdL.drop {us : List U} {m d b : Nat} : ∀ (n : Nat), BdL us m d b → BdL (us.drop n) m d b := fun n h => by
  have e := List.take_append_drop n us
  refine ⟨?_, ?_, ?_⟩
  · have := h.w
    rw [← e, wtL_append] at this
    omega
  · have := h.d
    rw [← e, depL_append] at this
    omega
  · have := h.c
    clear e h
    induction us generalizing n with
    | nil => rw [List.drop_nil]; trivial
    | cons u us ih => cases n with
      | zero => exact this
      | succ n => exact ih n this.2
theorem BdL.get {us : List U} {m d b : Nat} {u : U} (h : BdL us m d b) (hu : u ∈ us) : Bd u m d b := by
  obtain ⟨w, dd, c⟩ := h
  refine ⟨Nat.le_trans (wt_mem hu) w, Nat.le_trans ?_ dd, ?_⟩
  · clear w c dd
    induction us with
    | nil => cases hu
    | cons a r ih =>
      simp only [depL]
      rcases List.mem_cons.mp hu with rfl | hu
      · omega
      · have := ih hu
        omega
  · clear w dd
    induction us with
    | nil => cases hu
    | cons a r ih =>
      rcases List.mem_cons.mp hu with rfl | hu
      · exact c.1
      · exact ih hu c.2
theorem Bd.tup {us : List U} {m d b : Nat} (h : BdL us m d b) : Bd (.tup us) (m + 3) (d + 1) b := ⟨by have := h.w; simp only [wt]; omega, by have := h.d; simp only [dep]; omega, by simpa only [tidy] using h.c⟩
theorem Bd.lst {us : List U} {m d b : Nat} (h : BdL us m d b) : Bd (.lst us) (m + 3) (d + 1) b := ⟨by have := h.w; simp only [wt]; omega, by have := h.d; simp only [dep]; omega, by simpa only [tidy] using h.c⟩
theorem AtL.snoc {w C : Addr} {H : Hp} {vs : List V} {us : List U} {v : V} {u : U} (l : AtL w C H vs us) (h : At w C H v u) : AtL w C H (vs ++ [v]) (us ++ [u]) := AtL.append l (.cons h .nil)
theorem vi_eq {i j : Int} (h : decide (V.int i = V.int j) = true) : i = j := V.int.inj (of_decide_eq_true h)
theorem vi_ne {i j : Int} (h : ¬ decide (V.int i = V.int j) = true) : i ≠ j := fun e => h (decide_eq_true (by rw [e]))
section
variable {P : Program} {wd : World} {K : PySem.W.Frag} {mg : Str → Option Value} {base : Heap} {C : Addr}
/-- the defs that draw, ready to be called -/
structure Dd (P : Program) (wd : World) (K : PySem.W.Frag) (mg : Str → Option Value) (base : Heap) (f : Addr) (d : FuncData) : Prop where
  ok : FnOk P wd K mg base CX0 3 f d ["well", "many"] spDraw
  g : mg "_law_draw" = some (.ref f)
  kp : PySem.W.keepIn K (.ref f) = true
  b : Binds K d ["well", "many"] []
end
section
variable {X : Cx} {fD : Addr} {dD : FuncData} {e1 e2 : Expr} {t1 t2 : TE} {ps pos : Pos} {k : Nat}
theorem pe_draw (D : Dd X.prog X.w X.K X.mg X.base fD dD) (hr : Room k X.A) (h : 3 ≤ k) (hg : Gl X "_law_draw") (h1 : PE X e1 t1) (h2 : PE X e2 t2) (hst : starEach [e1, e2] X.env = (false, eval e1 X.env) :: starEach [e2] X.env := by rfl) (hst2 : starEach [e2] X.env = (false, eval e2 X.env) :: starEach [] X.env := by rfl)
    (hpl : (backTo pos (starEach [e2] X.env)).any (·.1) = false := by rfl) : PE X (.Call (.Name "_law_draw" ps) [e1, e2] [] pos) (tCall spDraw [] E0 (tCons t1 (tCons t2 tNil))) :=
  pe_call (D.ok.mono h) hr hg D.g D.kp D.b .nil pass0 (pa_cons h1 (pa_cons h2 pa_nil hst2) hst) (by decide) hst hpl
end
section
variable {P : Program} {wd : World} {K : PySem.W.Frag} {mg : Str → Option Value} {base : Heap} {C : Addr} {fD : Addr} {dD : FuncData}
def spNumber : Sp := fun vs H Q _ => ∃ wl : WA, vs = [.ref wl.w] ∧ Well H wl ∧ ∀ (d : Int) (H' : Hp), 0 ≤ d → d < 10 ^ 11 → Drawn wl H H' → Q (.int d) H'
theorem scNumber : FnScope ["well", "kind"] ["well"] (defScope lNumber) := ⟨rfl, rfl, rfl, by decide +kernel, rfl, by decide +kernel, by decide +kernel⟩
theorem ev_pow {σ : L2.St} {H : Hp} {i j : Int} {ta tb : TE} (ha : Ev ta σ H (.int i)) (hb : Ev tb σ H (.int j)) (hc : CPow i j) : Ev (tOp (rI CPow fun i j => .int (i ^ j.toNat)) ta tb) σ H (.int (i ^ j.toNat)) := ev_op ha hb (rv_I hc)
theorem ev_pick {σ : L2.St} {H : Hp} {ta : TA} {tb : TE} {xs : List V} {i : Nat} {v : V} (hl : EvA ta σ H xs) (hz : xs.length ≤ 100000) (hb : Ev tb σ H (.int (i : Int))) (hv : xs[i]? = some v) : Ev (tOp (rIxL K) (tLst ta) tb) σ H v :=
  ev_opL1 (el_lst hl hz) (fun H1 e => hb.mono e) fun p H1 h e => rv_ixL (sq_of h) (atI_nat hv)
theorem ok_number {f : Addr} {fd : FuncData} (F : Fun K "_law_number" "_law_number" lNumber f fd) (D : Dd P wd K mg base fD dD) : FnOk P wd K mg base CX0 4 f fd ["well"] spNumber := by
  refine F.ok scNumber (fun vs H Q E h => ?_) (fun cdv A outer s H vs Q E hr h => ?_)
  · obtain ⟨wl, rfl, _⟩ := h
    rfl
  obtain ⟨wl, rfl, W, k⟩ := h
  refine ⟨_, pss_cons (ps_set (i := 1) scNumber.nd rfl (.inl rfl) (pe_draw D hr (by decide) (by rfl) (pv 0) pe_int))
    (pss_cons (ps_if (pt_cmpR op_eq (pv 1) pe_int (nomark _)) (pss_one (ps_ret (pe_draw D hr (by decide) (by rfl) (pv 0) (pe_op op_pow pe_int pe_int)))) pss_nil)
    (pss_one (ps_ret (pe_draw D hr (by decide) (by rfl) (pv 0) (pe_ix ix_list (pe_lst (pa_cons pe_int (pa_cons pe_int (pa_cons (pe_op op_pow pe_int pe_int) pa_nil)))) (pv 1) (fun _ _ => rfl)))))), ?_⟩
  refine ⟨_, rfl, wl, 4, rfl, W, by decide, by decide, fun d H1 d0 d1 D1 => ⟨_, rfl, rfl, _, rfl, ite2 (fun q => ?_) (fun q => ?_)⟩⟩
  · refine ⟨_, rfl, _, _, rfl, rfl, ⟨by decide, by decide, by decide⟩, wl, 10 ^ 11, rfl, D1.well, by decide, by decide, fun d2 H2 e0 e1 D2 => k d2 H2 e0 e1 (D1.trans D2)⟩
  · have q1 := vi_ne q
    have hd : d = 0 ∨ d = 1 ∨ d = 2 := by omega
    have go : ∀ (i : Nat) (m : Int), d = (i : Int) → ([V.int 3, .int 40, .int (10 ^ 9)] : List V)[i]? = some (.int m) → 0 < m → m ≤ 10 ^ 9 → tCall spDraw [] E0 (tCons (tVar 0) (tCons (tOp (rIxL K) (tLst (tCons (tC (.int 3)) (tCons (tC (.int 40)) (tCons (tOp (rI CPow fun i j => .int (i ^ j.toNat)) (tC (.int 10)) (tC (.int 9))) tNil)))) (tVar 1)) tNil)) [some (.ref wl.w), some (.int d)] H1 Q := fun i m ei hm m0 m9 => by
      refine ⟨_, rfl, ev_pick (K := K) (i := i) (ea_cons ev_c (ea_cons ev_c (ea_cons (ev_pow ev_c ev_c ⟨by decide, by decide, by decide⟩) ea_nil))) (show (3 : Nat) ≤ 100000 by decide) (ev_var (by rw [ei]; rfl)) hm H1 (Ex.refl H1) _ fun H2 e2 => ?_⟩
      exact ⟨wl, m, rfl, D1.well.same e2, m0, by omega, fun d2 H3 f0 f1 D2 => k d2 H3 f0 (by omega) ((D1.same e2).trans D2)⟩
    rcases hd with h | h | h
    · exact go 0 3 (by rw [h]; rfl) rfl (by decide) (by decide)
    · exact go 1 40 (by rw [h]; rfl) rfl (by decide) (by decide)
    · exact go 2 (10 ^ 9) (by rw [h]; rfl) rfl (by decide) (by decide)
end
end Hs
namespace Hs
open PySem PySem.Spec PyProof.Rows L2 Hu Evl
section
variable {P : Program} {wd : World} {K : PySem.W.Frag} {mg : Str → Option Value} {base : Heap} {C : Addr} {fD : Addr} {dD : FuncData}
theorem letters_len : (TL.tl lettersZ).length = 26 := by decide +kernel
theorem letters_ok : (TL.tl lettersZ).all okS = true := by decide +kernel
def spName : Sp := fun vs H Q _ => ∃ wl : WA, vs = [.ref wl.w] ∧ Well H wl ∧ ∀ (z : Str) (H' : Hp), z.length ≤ 8 → lawz z → Drawn wl H H' → Q (.str z) H'
theorem scName : FnScope ["well", "many", "k"] ["well"] (defScope lName) := ⟨rfl, rfl, rfl, by decide +kernel, rfl, by decide +kernel, by decide +kernel⟩
theorem join_signs : ∀ l : List Str, (∀ z ∈ l, ∃ c, z = ⟨#[c]⟩ ∧ okS c = true) → (l.map (·.length)).sum = l.length ∧ ((l.map TL.tl).flatten).length = l.length ∧ ∀ c ∈ (l.map TL.tl).flatten, okS c = true := by
  intro l
  induction l with
  | nil => exact fun _ => ⟨rfl, rfl, fun c hc => by cases hc⟩
  | cons a r ih =>
    intro h
    obtain ⟨i1, i2, i3⟩ := ih fun z hz => h z (List.mem_cons_of_mem _ hz)
    obtain ⟨c, ec, oc⟩ := h a List.mem_cons_self
    subst ec
    refine ⟨?_, ?_, ?_⟩
    · rw [List.map_cons, List.sum_cons, i1, List.length_cons]
      show 1 + r.length = r.length + 1
      omega
    · show (TL.tl (⟨#[c]⟩ : Str) ++ (r.map TL.tl).flatten).length = _
      rw [sgn_tl, List.length_append, i2, List.length_cons]
      show 1 + r.length = r.length + 1
      omega
    · intro b hb
      have hb' : b ∈ TL.tl (⟨#[c]⟩ : Str) ++ (r.map TL.tl).flatten := hb
      rcases List.mem_append.mp hb' with hb | hb
      · rw [sgn_tl] at hb
        rw [List.mem_singleton.mp hb]
        exact oc
      · exact i3 b hb
theorem ok_name {f : Addr} {fd : FuncData} (F : Fun K "_law_name" "_law_name" lName f fd) (B : Bt mg) (D : Dd P wd K mg base fD dD) : FnOk P wd K mg base CX0 4 f fd ["well"] spName := by
  refine F.ok scName (fun vs H Q E h => ?_) (fun cdv A outer s H vs Q E hr h => ?_)
  · obtain ⟨wl, rfl, _⟩ := h
    rfl
  obtain ⟨wl, rfl, W, k⟩ := h
  have GD : FnOk P wd K mg base CX0 3 fD dD ["well", "many"] spDraw := D.ok
  refine ⟨_, pss_cons (ps_set (i := 1) scName.nd rfl (.inl rfl) (pe_op op_add pe_int (pe_draw D hr (by decide) (by rfl) (pv 0) pe_int)))
    (Evl.pss_cut (ps_if (pt_cmpR op_eq (pe_draw D hr (by decide) (by rfl) (pv 0) pe_int) pe_int (nomark _)) (pss_one (ps_set (i := 1) scName.nd rfl (.inl rfl) (pe_op op_add pe_int (pe_draw D hr (by decide) (by rfl) (pv 0) pe_int)))) pss_nil)
    (pss_one (ps_ret (pe_join pe_str (pe_lc (own := [("k", 2)]) (g := gName 2) (tt := tYes) rfl scName.nd (pi_range1 (by rfl) B.range (pa_cons (pv 1) pa_nil)) (blkOk_by (N := ["well", "many", "k"]) (sc := defScope lName) (by decide +kernel))
        (fun _ _ _ _ _ => pg_name (i := 2) scName.nd rfl (Or.inl rfl)) (fun _ _ _ _ _ => pts_nil)
        (fun _ _ _ _ _ => pe_ix ix_str pe_str (pe_call GD hr (by rfl) D.g D.kp D.b .nil pass0 (pa_cons (pv 0) (pa_cons pe_int pa_nil))) (fun _ _ => rfl))))))), ?_⟩
  refine ⟨_, rfl, wl, 2, rfl, W, by decide, by decide, fun d H1 d0 d1 D1 => ⟨_, _, rfl, rfl, ?_⟩⟩
  refine ⟨fun σ' H' => ∃ m : Int, σ' = [some (.ref wl.w), some (.int m), none] ∧ 1 ≤ m ∧ m ≤ 8 ∧ Drawn wl H H', ?_, ?_⟩
  · refine ⟨_, rfl, wl, 4, rfl, D1.well, by decide, by decide, fun d2 H2 e0 e1 D2 => ⟨rfl, _, rfl, ite2 (fun q => ?_) (fun q => ⟨1 + d, rfl, by omega, by omega, D1.trans D2⟩)⟩⟩
    exact ⟨_, rfl, wl, 8, rfl, D2.well, by decide, by decide, fun d3 H3 f0 f1 D3 => ⟨_, _, rfl, rfl, 1 + d3, rfl, by omega, by omega, (D1.trans D2).trans D3⟩⟩
  · rintro σ' H1 ⟨m, rfl, m1, m8, D1⟩
    refine ⟨⟨_, rfl⟩, _, rfl, m, rfl, by omega, by omega, fun D' hD => ?_⟩
    refine lc_range (lo := 0) (n := m.toNat) (fun i H' => Drawn wl H1 H' ∧ ∃ zs : List Str, H' D' = some (.lst (zs.map V.str)) ∧ zs.length = i ∧ ∀ z ∈ zs, ∃ c, z = ⟨#[c]⟩ ∧ okS c = true)
      ⟨(Drawn.refl D1.well).new hD, [], upd_same, rfl, fun z hz => by cases hz⟩ ?_ ?_
    · rintro i H2 hi ⟨D2, zs, hz, hl, hc⟩
      have nD := (D1.well.ne hD).1
      refine ⟨rfl, _, rfl, wl, 26, rfl, D2.well, by decide, by decide, fun d H3 d0 d1 D3 => ?_⟩
      have hd : d.toNat < (TL.tl lettersZ).length := by
        rw [letters_len]
        omega
      have ho : okS (TL.tl lettersZ)[d.toNat] = true := List.all_eq_true.mp letters_ok _ (List.getElem_mem hd)
      refine ⟨lettersZ, d, (TL.tl lettersZ)[d.toNat], rfl, rfl, ?_, ?_, zs.map V.str, D3.keep D' _ nD hz, ?_, ?_⟩
      · rw [TL.len_tl] at *
        exact len_fine (by decide +kernel)
      · have e : d = ((d.toNat : Nat) : Int) := by omega
        have hg : (TL.tl lettersZ)[d.toNat]? = some (TL.tl lettersZ)[d.toNat] := List.getElem?_eq_getElem hd
        have := atI_nat hg
        rw [← e] at this
        exact this
      · rw [List.length_map]
        have := bit_line
        unfold bit at this
        omega
      · refine ⟨(D2.trans D3).put D1.well hD, zs ++ [⟨#[(TL.tl lettersZ)[d.toNat]]⟩], ?_, ?_, ?_⟩
        · rw [upd_same, List.map_append]
          rfl
        · rw [List.length_append, hl]
          rfl
        · intro z hz
          rcases List.mem_append.mp hz with hz | hz
          · exact hc z hz
          · exact ⟨_, List.mem_singleton.mp hz, ho⟩
    · rintro H2 ⟨D2, zs, hz, hl, hc⟩
      obtain ⟨s1, s2, s3⟩ := join_signs zs hc
      refine ⟨_, D', zs, rfl, rfl, .inl (SqL.of hz), ?_, k _ _ ?_ ?_ (D1.trans D2)⟩
      · show (zs.map (·.length)).sum + zs.length * 0 ≤ 16777216
        omega
      · rw [TL.len_tl, join_tl, s2]
        omega
      · intro c hc
        rw [join_tl] at hc
        exact s3 c hc
end
end Hs
namespace Hs
open PySem PySem.Spec PyProof.Rows L2 Hu Evl
def Wn : Nat → Nat | 0 => 100 | n + 1 => 3 * (Wn n + 2) + 32
theorem Wn_ge : ∀ n, 100 ≤ Wn n
  | 0 => Nat.le_refl _
  | n + 1 => by have := Wn_ge n; simp only [Wn]; omega
section
variable {P : Program} {wd : World} {K : PySem.W.Frag} {mg : Str → Option Value} {base : Heap} {C : Addr} {fD : Addr} {dD : FuncData}
def spAny (C : Addr) (n : Nat) : Sp := fun vs H Q _ => ∃ wl : WA, vs = [.ref wl.w, .int (n : Int)] ∧ Well H wl ∧ ∀ (v : V) (u : U) (H' : Hp), Drawn wl H H' → At wl.w C (fresh H H') v u → Bd u (Wn n) (3 * n + 3) 0 → Q v H'
/-- the promise of the calls that it makes itself -/
def spPrev (C : Addr) : Nat → Sp
  | 0 => fun _ _ _ _ => False
  | n + 1 => spAny C n
theorem scAny : FnScope ["well", "deep", "kind", "k", "items"] ["well", "deep"] (defScope lAny) := ⟨rfl, rfl, rfl, by decide +kernel, rfl, by decide +kernel, by decide +kernel⟩
theorem bd_int {i : Int} {n : Nat} (h : i.natAbs < 2 ^ 64) : Bd (.int i) (Wn n) (3 * n + 3) 0 := ⟨by have := Wn_ge n; simp only [wt]; omega, Nat.zero_le _, by simpa only [tidy] using h⟩
theorem bd_bl {b : Bool} {n : Nat} : Bd (.bl b) (Wn n) (3 * n + 3) 0 := ⟨by have := Wn_ge n; simp only [wt]; omega, Nat.zero_le _, trivial⟩
theorem bd_non {n : Nat} : Bd .non (Wn n) (3 * n + 3) 0 := ⟨by have := Wn_ge n; simp only [wt]; omega, Nat.zero_le _, trivial⟩
theorem bd_exc {n : Nat} : Bd .exc (Wn n) (3 * n + 3) 0 := ⟨by have := Wn_ge n; simp only [wt]; omega, by simp only [dep]; omega, trivial⟩
theorem bd_str {z : Str} {n : Nat} (h : z.length ≤ 20) (hc : ∀ c ∈ TL.tl z, okS c = true ∨ c = 10) : Bd (.str z) (Wn n) (3 * n + 3) 0 := ⟨by have := Wn_ge n; simp only [wt]; omega, Nat.zero_le _, by simpa only [tidy] using hc⟩
theorem fr_step {wl : WA} {H2 H' H3 : Hp} {D' : Addr} {o0 : HO} {vs : List V} {us : List U} {y : V} {u : U} (W2 : Well H2 wl) (hD : H2 D' = none) (D2 : Drawn wl H2 H') (hL : H' D' = some (.lst vs)) (l : AtL wl.w C (fresh (upd H2 D' o0) H') vs us) (D3 : Drawn wl H' H3) (hy : At wl.w C (fresh H' H3) y u) :
    AtL wl.w C (fresh (upd H2 D' o0) (upd H3 D' (.lst (vs ++ [y])))) (vs ++ [y]) (us ++ [u]) := by
  have nw := (W2.ne hD).1
  refine AtL.snoc (l.keep fun b o _ q => ?_) (hy.keep fun b o _ q => ?_)
  · obtain ⟨q1, q2⟩ := fr_new q
    have nb : b ≠ D' := fun e => by rw [e, upd_same] at q1; cases q1
    rw [fr_get q1, upd_ne nb]
    rw [upd_ne nb] at q1
    have nbw : b ≠ wl.w := fun e => by
      obtain ⟨o', ho⟩ := W2.at
      rw [e, ho] at q1
      cases q1
    exact D3.keep b o nbw q2
  · obtain ⟨q1, q2⟩ := fr_new q
    have nb : b ≠ D' := fun e => by rw [e, hL] at q1; cases q1
    have q3 : upd H2 D' o0 b = none := by
      rw [upd_ne nb]
      exact D2.free W2 q1
    rw [fr_get q3, upd_ne nb]
    exact q2
theorem fr_lift {wl : WA} {H H2 H' : Hp} {D' : Addr} {o0 : HO} {vs : List V} {us : List U} (W : Well H wl) (D1 : Drawn wl H H2) (hD : H2 D' = none) (l : AtL wl.w C (fresh (upd H2 D' o0) H') vs us) : AtL wl.w C (fresh H H') vs us :=
  l.keep fun b o _ q => by
    obtain ⟨q1, q2⟩ := fr_new q
    have nb : b ≠ D' := fun e => by rw [e, upd_same] at q1; cases q1
    rw [upd_ne nb] at q1
    rw [fr_get (D1.free W q1)]
    exact q2
/-- more is laid at free places -/
theorem fr_same {w : Addr} {H H' H'' : Hp} {vs : List V} {us : List U} (l : AtL w C (fresh H H') vs us) (s : Same H' H'') : AtL w C (fresh H H'') vs us := l.keep fun b o _ q => by
  obtain ⟨q1, q2⟩ := fr_new q
  rw [fr_get q1]
  exact s _ _ q2
theorem ok_any {f fN fT fM : Addr} {fd dN dT dM : FuncData} (DA : Df K mg "_law_any" lAny ["well", "deep"] f fd) (S : Bs K mg C) (D : Dd P wd K mg base fD dD) (DN : Df K mg "_law_number" lNumber ["well"] fN dN) (DM : Df K mg "_law_name" lName ["well"] fM dM)
    (DT : Df K mg "_law_string" sString ["well", "many"] fT dT) (GT : FnOk P wd K mg base CX0 4 fT dT ["well", "many"] spString) (n : Nat) (G : FnOk P wd K mg base CX0 (4 + n) f fd ["well", "deep"] (spPrev C n)) :
    FnOk P wd K mg base CX0 (4 + n + 1) f fd ["well", "deep"] (spAny C n) := by
  refine DA.F.ok scAny (fun vs H Q E h => ?_) (fun cdv A outer s H vs Q E hr h => ?_)
  · obtain ⟨wl, rfl, _⟩ := h
    rfl
  obtain ⟨wl, rfl, W, k⟩ := h
  have hr4 : Room 4 (A.deeper (envOfC "_law_any" (defScope lAny) s.heap.objs.size f cdv)) := hr.mono (by omega)
  have GN : FnOk P wd K mg base CX0 4 fN dN ["well"] spNumber := ok_number DN.F D
  have GM : FnOk P wd K mg base CX0 4 fM dM ["well"] spName := ok_name DM.F S.B D
  refine ⟨_, pss_cons (ps_set (i := 2) scAny.nd rfl (.inl rfl) (pe_draw D hr4 (by decide) (by rfl) (pv 0) pe_int))
    (Evl.pss_cut (ps_if (pt_cmpR op_eq (pv 1) pe_int (nomark _)) (pss_one (ps_set (i := 2) scAny.nd rfl (.inl rfl) (pe_op op_modN (pe_callTy call_int1 (by rfl) S.B.int boot_int (pa_cons (pv 2) pa_nil)) pe_int))) pss_nil)
    (pss_cons (ps_if (pt_cmpR op_eq (pv 2) pe_int (nomark _)) (pss_one (ps_ret (pe_op op_sub (pe_draw D hr4 (by decide) (by rfl) (pv 0) pe_int) pe_int))) pss_nil)
    (pss_cons (ps_if (pt_cmpR op_eq (pv 2) pe_int (nomark _)) (pss_one (ps_ret (pe_op op_sub (pe_un un_neg pe_int) (pe_call GN hr4 (by rfl) DN.g DN.F.kp DN.b .nil pass0 (pa_cons (pv 0) pa_nil))))) pss_nil)
    (pss_cons (ps_if (pt_cmpR op_eq (pv 2) pe_int (nomark _)) (pss_one (ps_ret (pe_cmpR op_eq (pe_draw D hr4 (by decide) (by rfl) (pv 0) pe_int) pe_int (nomark _)))) pss_nil)
    (pss_cons (ps_if (pt_cmpR op_eq (pv 2) pe_int (nomark _)) (pss_one (ps_ret pe_non)) pss_nil)
    (pss_cons (ps_if (pt_cmpR op_eq (pv 2) pe_int (nomark _)) (pss_one (ps_ret (pe_call GT hr4 (by rfl) DT.g DT.F.kp DT.b .nil pass0 (pa_cons (pv 0) (pa_cons (pe_draw D hr4 (by decide) (by rfl) (pv 0) pe_int) pa_nil))))) pss_nil)
    (pss_cons (ps_if (pt_cmpR op_eq (pv 2) pe_int (nomark _)) (pss_one (ps_ret (pe_op op_add_str (pe_call GM hr4 (by rfl) DM.g DM.F.kp DM.b .nil pass0 (pa_cons (pv 0) pa_nil)) (pe_ix ix_list (pe_lst (pa_cons pe_str (pa_cons pe_str (pa_cons pe_str (pa_cons pe_str pa_nil))))) (pe_draw D hr4 (by decide) (by rfl) (pv 0) pe_int) (fun _ _ => rfl))))) pss_nil)
    (Evl.pss_cut (ps_setLc (i := 4) (own := [("k", 3)]) (g := gName 3) (tt := tYes) rfl scAny.nd rfl rfl rfl (pi_range1 (by rfl) S.B.range (pa_cons (pe_draw D hr4 (by decide) (by rfl) (pv 0) pe_int) pa_nil)) (blkOk_by (N := ["well", "deep", "kind", "k", "items"]) (sc := defScope lAny) (by decide +kernel))
        (fun _ _ _ _ _ => pg_name (i := 3) scAny.nd rfl (Or.inl rfl)) (fun _ _ _ _ _ => pts_nil) (fun _ _ _ _ _ => pe_call G hr (by rfl) DA.g DA.F.kp DA.b .nil pass0 (pa_cons (pv 0) (pa_cons (pe_op op_sub (pv 1) pe_int) pa_nil))))
    (pss_cons (ps_if (pt_cmpR op_le (pv 2) pe_int (nomark _)) (pss_one (ps_ret (pe_callTy call_tuple_of (by rfl) S.B.tup boot_tuple' (pa_cons (pv 4) pa_nil)))) pss_nil)
    (pss_cons (ps_if (pt_cmpR op_eq (pv 2) pe_int (nomark _)) (pss_one (ps_ret (pv 4))) pss_nil)
    (pss_cons (ps_if (pt_cmpR op_eq (pv 2) pe_int (nomark _)) (pss_one (ps_ret (pe_disp (pps_cons pe_str (pv 4) (pps_cons pe_int pe_non pps_nil)) rfl rfl (by decide) (by decide)))) pss_nil)
    (pss_one (ps_ret (pe_exc0 S.E (by rfl))))))))))))))), ?_⟩
  refine ⟨_, rfl, wl, 12, rfl, W, by decide, by decide, fun d H1 d0 d1 D1 => ?_⟩
  refine ⟨fun σ' H' => ∃ kd : Int, σ' = [some (.ref wl.w), some (.int (n : Int)), some (.int kd), none, none] ∧ 0 ≤ kd ∧ kd < 12 ∧ (n = 0 → kd < 6) ∧ H' = H1, ?_, ?_⟩
  · refine ⟨_, rfl, rfl, _, rfl, ite2 (fun q => ?_) (fun q => ⟨d, rfl, d0, d1, fun e => (vi_ne q (by omega)).elim, rfl⟩)⟩
    have b1 := fmod_lt (a := d) (b := 6) (by decide)
    exact ⟨_, rfl, .inl ⟨_, rfl, _, _, rfl, rfl, nz rfl, _, rfl, b1.1, by omega, fun _ => b1.2, rfl⟩⟩
  rintro σ' H' ⟨kd, rfl, k0, k1, k6, rfl⟩
  refine ⟨_, rfl, rfl, _, rfl, ite2 (fun q => ?_) (fun q0 => ?_)⟩
  · exact ⟨_, rfl, wl, 120, rfl, D1.well, by decide, by decide, fun e H2 e0 e1 D2 => ⟨_, _, rfl, rfl, k _ (.int (e - 20)) H2 (D1.trans D2) (.int _) (bd_int (by omega))⟩⟩
  refine ⟨_, rfl, rfl, _, rfl, ite2 (fun q => ?_) (fun q1 => ?_)⟩
  · exact ⟨1, rfl, _, rfl, wl, rfl, D1.well, fun e H2 e0 e1 D2 => ⟨_, _, rfl, rfl, k _ (.int (-1 - e)) H2 (D1.trans D2) (.int _) (bd_int (by omega))⟩⟩
  refine ⟨_, rfl, rfl, _, rfl, ite2 (fun q => ?_) (fun q2 => ?_)⟩
  · exact ⟨_, rfl, wl, 2, rfl, D1.well, by decide, by decide, fun e H2 e0 e1 D2 => ⟨rfl, k _ (.bl _) H2 (D1.trans D2) (.bl _) bd_bl⟩⟩
  refine ⟨_, rfl, rfl, _, rfl, ite2 (fun q => ?_) (fun q3 => ?_)⟩
  · exact k _ .non H' D1 .non bd_non
  refine ⟨_, rfl, rfl, _, rfl, ite2 (fun q => ?_) (fun q4 => ?_)⟩
  · exact ⟨_, rfl, _, rfl, wl, 11, rfl, D1.well, by decide, by decide, fun e H2 e0 e1 D2 => ⟨wl, e, rfl, D2.well, by omega, by omega, fun z H3 hz lz D3 => k (.str z) (.str z) H3 ((D1.trans D2).trans D3) (.str z) (bd_str (by omega) (fun c hc => .inl (lz c hc)))⟩⟩
  refine ⟨_, rfl, rfl, _, rfl, ite2 (fun q => ?_) (fun q5 => ?_)⟩
  · refine ⟨_, rfl, wl, rfl, D1.well, fun z H2 hz lz D2 => ⟨sz_of (show (4 : Nat) ≤ 100000 by decide), fun p hp => ⟨_, rfl, wl, 4, rfl, D2.well.same (same_upd hp), by decide, by decide, fun e H3 e0 e1 D3 => ?_⟩⟩⟩
    have hp3 := D3.keep p _ (D2.well.ne hp).1 upd_same
    have go : ∀ (i : Nat) (y : Str), e = (i : Int) → ([V.str "", .str "\n", .str "A", .str "0"] : List V)[i]? = some (.str y) → y.length ≤ 1 → (∀ c ∈ TL.tl y, okS c = true ∨ c = 10) → rIxL K (.ref p) (.int e) H3 fun v H' => ∃ i j : Str, V.str z = .str i ∧ v = .str j ∧ i.length + j.length ≤ sizeLine ∧ Q (.str (i ++ j)) H' := fun i y ei hv hl hc => by
      refine ⟨p, _, e, .str y, rfl, rfl, SqL.of hp3, by rw [ei]; exact atI_nat hv, z, y, rfl, rfl, len_fine (by omega), k _ (.str (z ++ y)) H3 (((D1.trans D2).same (same_upd hp)).trans D3) (.str _) (bd_str ?_ ?_)⟩
      · rw [TL.len_tl, TL.tl_append, List.length_append, ← TL.len_tl, ← TL.len_tl]
        omega
      · intro c hc2
        rw [TL.tl_append] at hc2
        rcases List.mem_append.mp hc2 with h | h
        · exact .inl (lz c h)
        · exact hc c h
    have he : e = 0 ∨ e = 1 ∨ e = 2 ∨ e = 3 := by omega
    rcases he with h | h | h | h
    · exact go 0 "" h rfl (by decide) (by decide +kernel)
    · exact go 1 "\n" h rfl (by decide) (by decide +kernel)
    · exact go 2 "A" h rfl (by decide) (by decide +kernel)
    · exact go 3 "0" h rfl (by decide) (by decide +kernel)
  have n0 : n ≠ 0 := fun e => by
    have := k6 e
    have := vi_ne q0
    have := vi_ne q1
    have := vi_ne q2
    have := vi_ne q3
    have := vi_ne q4
    have := vi_ne q5
    omega
  obtain ⟨m, rfl⟩ : ∃ m, n = m + 1 := ⟨n - 1, by omega⟩
  refine ⟨fun σ' H2 => ∃ (D' : Addr) (vs : List V) (us : List U) (x3 : Option V), σ' = [some (.ref wl.w), some (.int ((m + 1 : Nat) : Int)), some (.int kd), x3, some (.ref D')] ∧ H D' = none ∧ D' ≠ wl.w ∧ H2 D' = some (.lst vs) ∧ AtL wl.w C (fresh H H2) vs us ∧ BdL us (3 * (Wn m + 2)) (3 * m + 3) 0 ∧ Drawn wl H H2, ?_, ?_⟩
  · refine ⟨_, rfl, wl, 4, rfl, D1.well, by decide, by decide, fun c H2 c0 c1 D2 => ⟨c, rfl, by omega, by omega, fun D' hD => ?_⟩⟩
    have nD := (D2.well.ne hD).1
    refine lc_range (lo := 0) (n := c.toNat) (fun i H3 => Drawn wl H2 H3 ∧ ∃ (vs : List V) (us : List U), H3 D' = some (.lst vs) ∧ vs.length = i ∧ AtL wl.w C (fresh (upd H2 D' (.lst [])) H3) vs us ∧ BdL us (i * (Wn m + 2)) (3 * m + 3) 0)
      ⟨(Drawn.refl D2.well).new hD, [], [], upd_same, rfl, .nil, ⟨by simp [wtL], by simp [depL], trivial⟩⟩ ?_ ?_
    · rintro i H3 hi ⟨D3, vs, us, hL, hl, ha, hb⟩
      refine ⟨rfl, _, rfl, _, rfl, _, _, rfl, rfl, wl, ?_, D3.well, fun v u H4 D4 hv bv => ⟨vs, D4.keep D' _ nD hL, ?_, (D3.trans D4).put D2.well hD, vs ++ [v], us ++ [u], upd_same, ?_, fr_step D2.well hD D3 hL ha D4 hv, ?_⟩⟩
      · show [V.ref wl.w, .int (((m + 1 : Nat) : Int) - 1)] = [.ref wl.w, .int (m : Int)]
        rw [show ((m + 1 : Nat) : Int) - 1 = (m : Int) by omega]
      · have := bit_line
        unfold bit at this
        omega
      · rw [List.length_append, hl]
        rfl
      · have := hb.snoc bv
        rw [show (i + 1) * (Wn m + 2) = i * (Wn m + 2) + (Wn m + 2) by rw [Nat.add_mul, Nat.one_mul]]
        exact this
    · rintro H3 ⟨D3, vs, us, hL, hl, ha, hb⟩
      refine ⟨D', vs, us, _, rfl, (D1.trans D2).free W hD, nD, hL, fr_lift W (D1.trans D2) hD ha, ⟨Nat.le_trans hb.w (Nat.mul_le_mul_right _ (by omega)), hb.d, hb.c⟩, (D1.trans D2).trans D3⟩
  rintro σ' H2 ⟨D', vs, us, x3, rfl, hD, nD, hL, ha, hb, D2⟩
  refine ⟨_, rfl, _, _, rfl, rfl, _, rfl, ite2 (fun q => ?_) (fun q8 => ?_)⟩
  · refine ⟨_, rfl, D', vs, rfl, .inl ⟨SqL.of hL, fun p hp => k _ (.tup us) _ (D2.new hp) (.tup (xs := vs) ?_ (D2.well.ne hp).1 (fr_same ha (same_upd hp))) ?_⟩⟩
    · rw [fr_get (D2.free W hp), upd_same]
    · exact ⟨by have := hb.w; simp only [wt, Wn]; omega, by have := hb.d; simp only [dep]; omega, by simpa only [tidy] using hb.c⟩
  refine ⟨_, rfl, rfl, _, rfl, ite2 (fun q => ?_) (fun q9 => ?_)⟩
  · refine ⟨_, rfl, k _ (.lst us) _ D2 (.lst (xs := vs) ?_ nD ha) ?_⟩
    · rw [fr_get hD, hL]
    · exact ⟨by have := hb.w; simp only [wt, Wn]; omega, by have := hb.d; simp only [dep]; omega, by simpa only [tidy] using hb.c⟩
  refine ⟨_, rfl, rfl, _, rfl, ite2 (fun q => ?_) (fun q10 => ?_)⟩
  · refine fun p hp => ⟨_, rfl, upd_same, [(.inr "a", .ref D'), (.inl 1, .non)], rfl, (show (2 : Nat) ≤ 15 by decide), ?_⟩
    rw [upd_upd]
    have np : D' ≠ p := fun e => by rw [← e, hL] at hp; cases hp
    refine k _ (.dct us) _ (D2.new hp) (.dct (b := D') (xs := vs) ?_ (D2.well.ne hp).1 ?_ nD (fr_same ha (same_upd hp))) ?_
    · rw [fr_get (D2.free W hp), upd_same]
      rfl
    · rw [fr_get hD, upd_ne np, hL]
    · exact ⟨by have := hb.w; simp only [wt, Wn]; omega, by have := hb.d; simp only [dep]; omega, by simpa only [tidy] using hb.c⟩
  · refine fun a t hna hnt nat => ?_
    have na2 : upd H2 t (.tup []) a = none := by
      rw [upd_ne nat]
      exact hna
    refine k _ .exc _ ((D2.new hnt).new na2) (.exc (t := t) ?_ (D2.well.ne hna).1 ?_ (D2.well.ne hnt).1) bd_exc
    · rw [fr_get (D2.free W hna), upd_same]
    · rw [fr_get (D2.free W hnt), upd_ne nat.symm, upd_same]
/-- the same, at every depth -/
theorem ok_anys {f fN fT fM : Addr} {fd dN dT dM : FuncData} (DA : Df K mg "_law_any" lAny ["well", "deep"] f fd) (S : Bs K mg C) (D : Dd P wd K mg base fD dD) (DN : Df K mg "_law_number" lNumber ["well"] fN dN) (DM : Df K mg "_law_name" lName ["well"] fM dM)
    (DT : Df K mg "_law_string" sString ["well", "many"] fT dT) (GT : FnOk P wd K mg base CX0 4 fT dT ["well", "many"] spString) : ∀ n : Nat, FnOk P wd K mg base CX0 (4 + n + 1) f fd ["well", "deep"] (spAny C n)
  | 0 => ok_any DA S D DN DM DT GT 0 ⟨fun _ _ _ _ h => h.elim, fun _ _ _ _ _ _ _ _ _ _ _ _ _ h => h.elim⟩
  | n + 1 => ok_any DA S D DN DM DT GT (n + 1) (ok_anys DA S D DN DM DT GT n)
end
end Hs
namespace Hu
open PySem
mutual
def nod : U → Nat
  | .tup us => 1 + nodL us
  | _ => 1
def nodL : List U → Nat
  | [] => 0
  | u :: us => nod u + nodL us
end
theorem nodL_sum : ∀ us : List U, (us.map fun u => (nod u : Int)).sum = (nodL us : Int)
  | [] => rfl
  | u :: us => by rw [List.map_cons, List.sum_cons, nodL_sum us, nodL]; omega
theorem nod_pos : ∀ u : U, 1 ≤ nod u := fun u => by cases u <;> simp only [nod] <;> omega
end Hu
namespace Hs
open PySem PySem.Spec PyProof.Rows L2 Hu Evl
theorem dep_mem' : ∀ {us : List U} {u : U}, u ∈ us → dep u ≤ depL us
  | _ :: us, _, .head _ => by simp only [depL]; omega
  | _ :: us, _, .tail _ h => by have := dep_mem' h; simp only [depL]; omega
mutual
theorem nod_wt : ∀ u : U, nod u ≤ wt u
  | .non => by simp [nod, wt]
  | .bl b => by simp [nod, wt]
  | .int i => by simp [nod, wt]
  | .str z => by simp only [nod, wt]; omega
  | .tup us => by have := nodL_wt us; simp only [nod, wt]; omega
  | .lst us => by simp only [nod, wt]; omega
  | .dct us => by simp only [nod, wt]; omega
  | .exc => by simp [nod, wt]
theorem nodL_wt : ∀ us : List U, nodL us ≤ wtL us
  | [] => Nat.le_refl _
  | u :: us => by have := nod_wt u; have := nodL_wt us; simp only [nodL, wtL]; omega
end
section
variable {P : Program} {wd : World} {K : PySem.W.Frag} {mg : Str → Option Value} {base : Heap} {C : Addr}
theorem boot_sum' : bootBuiltins "sum" = some (.builtin "sum") := by decide +kernel
/-- sum([f(x) for x in a tuple]) -/
theorem ev_sumT {w : Addr} {σ : L2.St} {H : Hp} {tl te : TE} {a : Addr} {xs : List V} {us : List U} {j : Nat} {vs : List Nat} {g : U → Int} (h : Ev tl σ H (.ref a)) (hx : H a = some (.tup xs)) (hz : us.length ≤ 500000) (hl : AtL w C H xs us) (hw : ∀ x, wipe ((wipe σ vs).set j (some x)) vs = wipe σ vs)
    (he : ∀ (x : V) (u : U), u ∈ us → At w C H x u → Ev te ((wipe σ vs).set j (some x)) H (.int (g u))) :
    Ev (tCB (rSum K) (tCons (tLc (iTup K tl) (gName j) tYes te vs) tNil)) σ H (.int (us.map g).sum) := fun H0 e Q q => h H0 e _ fun H1 e1 => ⟨a, rfl, ⟨xs, st_of ((e.trans e1) _ _ hx)⟩, fun Dl hD =>
  lc_tup (xs := xs) (fun i H' => Ex H1 H' ∧ H' Dl = some (.lst ((us.take i).map fun u => V.int (g u)))) ⟨Ex.new hD, upd_same⟩ (fun i H' _ p => st_of (((e.trans e1).trans p.1) _ _ hx)) (fun i x H2 hi p => by
    obtain ⟨p1, p2⟩ := p
    have hlen := AtL.length hl
    have hu : i < us.length := by
      have := (List.getElem?_eq_some_iff.mp hi).1
      omega
    obtain ⟨x', hx', hax⟩ := AtL.get hl (List.getElem?_eq_getElem hu)
    rw [hi] at hx'
    cases hx'
    refine ⟨hw x, he x us[i] (List.getElem_mem hu) hax H2 ((e.trans e1).trans p1) _ fun H3 e3 => ⟨_, e3 _ _ p2, ?_, fun q o hq => ?_, ?_⟩⟩
    · rw [List.length_map, List.length_take]
      have := bit_line
      unfold bit at this
      omega
    · rw [upd_ne (ne_of_none hq hD)]
      exact e3 _ _ (p1 _ _ hq)
    · rw [upd_same, List.take_add_one, List.getElem?_eq_getElem hu, List.map_append]
      rfl) (fun H' p => ⟨Dl, us.map g, rfl, sq_of (by
        rw [p.2, AtL.length hl, List.take_length, List.map_map]
        rfl), q _ (e1.trans p.1)⟩)⟩
def spNodes (C : Addr) (n : Nat) : Sp := fun vs H Q _ => ∃ (v : V) (u : U) (w : Addr), vs = [v] ∧ At w C H v u ∧ Fine u ∧ dep u < n ∧ ∀ H', Same H H' → Q (.int (nod u : Int)) H'
theorem scNodes : FnScope ["thing", "item"] ["thing"] (defScope lNodes) := ⟨rfl, rfl, rfl, by decide +kernel, rfl, by decide +kernel, by decide +kernel⟩
theorem ok_nodes {f : Addr} {fd : FuncData} (DN : Df K mg "_law_nodes" lNodes ["thing"] f fd) (S : Bs K mg C) : ∀ n : Nat, FnOk P wd K mg base CX0 n f fd ["thing"] (spNodes C n)
  | 0 => ⟨fun _ _ _ _ ⟨_, _, _, e, _⟩ => by rw [e]; rfl, fun _ _ _ _ _ _ _ _ _ _ _ _ _ ⟨_, _, _, _, _, _, h, _⟩ => absurd h (Nat.not_lt_zero _)⟩
  | n + 1 => by
    have G := ok_nodes DN S n
    refine DN.F.ok scNodes (fun vs H Q E h => ?_) (fun cdv A outer s H vs Q E hr h => ?_)
    · obtain ⟨v, u, w, rfl, _⟩ := h
      rfl
    obtain ⟨v, u, w, rfl, hat, fi, hd, k⟩ := h
    refine ⟨_, pss_cons (ps_if (pt_val (pe_isiX S (by rfl) (by rfl) S.B.tup boot_tuple' (by decide) (pv 0) (by decide) (by decide)))
        (pss_one (ps_ret (pe_op op_add pe_int (pe_callB (cr_sum rfl) (by rfl) S.B.sum boot_sum' (pa_cons (pe_lc (own := [("item", 1)]) (g := gName 1) (tt := tYes) rfl scNodes.nd (pi_tup (pv 0)) (blkOk_by (N := ["thing", "item"]) (sc := defScope lNodes) (by decide +kernel))
          (fun _ _ _ _ _ => pg_name (i := 1) scNodes.nd rfl (Or.inl rfl)) (fun _ _ _ _ _ => pts_nil) (fun _ _ _ _ _ => pe_call G hr (by rfl) DN.g DN.F.kp DN.b .nil pass0 (pa_cons (pv 1) pa_nil))) pa_nil))))) pss_nil)
      (pss_one (ps_ret pe_int)), ?_⟩
    refine s_if (et_B (ev_isi (ev_var rfl) hat)) (fun q H1 e => ?_) (fun q H1 e => ?_)
    · obtain ⟨us, rfl⟩ := isT_tup q
      obtain ⟨a, xs, rfl, ha, _, hl⟩ := at_tup (ex_at e hat)
      simp only [dep] at hd
      refine s_ret (ev_op ev_c (ev_sumT (g := fun u => (nod u : Int)) (ev_var rfl) ha fi.len hl (fun _ => rfl) fun x u hu hx => ev_call (ea_cons (ev_var rfl) ea_nil) fun H2 e2 Q q E => ⟨x, u, w, rfl, ex_at e2 hx, fi.tup u hu, by have := dep_mem' hu; omega, q⟩) rv_I0) fun H2 e2 => ?_
      have := k H2 (e.trans e2)
      rw [nodL_sum]
      simp only [nod] at this
      rw [show (((1 + nodL us : Nat)) : Int) = 1 + (nodL us : Int) by omega] at this
      exact this
    · have := k H1 e
      cases u with
      | tup us => cases q
      | _ => exact this
end
end Hs
/-! one step of change -/
namespace Hs
open PySem PySem.Spec PyProof.Rows L2 Hu Evl
section
variable {K : PySem.W.Frag} {w C : Addr} {σ : L2.St} {H H' : Hp} {ta : TA} {te tb tc : TE} {R R' : U → Prop} {v : V} {u : U} {n i : Nat} {us : List U} {xs : List V}
def EvB (w C : Addr) (te : TE) (σ : L2.St) (H : Hp) (R : U → Prop) : Prop := ∀ H1, Ex H H1 → ∀ Q : VK, (∀ v u H2, Ex H1 H2 → At w C H2 v u → R u → Q v H2) → te σ H1 Q
def EvBs (w C : Addr) (ta : TA) (σ : L2.St) (H : Hp) (n : Nat) (R : U → Prop) : Prop := ∀ H1, Ex H H1 → ∀ Q : List V → Hp → Prop, (∀ vs us H2, Ex H1 H2 → AtL w C H2 vs us → us.length = n → (∀ u ∈ us, R u) → Q vs H2) → ta σ H1 Q
theorem eb_ev (h : Ev te σ H v) (hat : At w C H v u) (r : R u) : EvB w C te σ H R := fun H1 e Q q => h H1 e Q fun H2 e2 => q v u H2 e2 (ex_at (e.trans e2) hat) r
theorem eb_mono (h : EvB w C te σ H R) (r : ∀ u, R u → R' u) : EvB w C te σ H R' := fun H1 e Q q => h H1 e Q fun v u H2 e2 a ru => q v u H2 e2 a (r u ru)
theorem eb_lift (e : Ex H H') (h : EvB w C te σ H R) : EvB w C te σ H' R := fun H1 e1 Q q => h H1 (e.trans e1) Q q
theorem ebs_lift (e : Ex H H') (h : EvBs w C ta σ H n R) : EvBs w C ta σ H' n R := fun H1 e1 Q q => h H1 (e.trans e1) Q q
theorem ebs_nil : EvBs w C tNil σ H 0 R := fun H1 e Q q => q [] [] H1 (Ex.refl H1) .nil rfl fun u hu => by cases hu
theorem ebs_cons (h : EvB w C te σ H R) (hr : EvBs w C ta σ H n R) : EvBs w C (tCons te ta) σ H (n + 1) R := fun H1 e Q q =>
  h H1 e _ fun v u H2 e2 a ru => hr H2 (e.trans e2) _ fun vs us H3 e3 l hl rs => q _ (u :: us) H3 (e2.trans e3) (.cons (ex_at e3 a) l) (by rw [List.length_cons, hl]) fun y hy => by
    rcases List.mem_cons.mp hy with rfl | hy
    · exact ru
    · exact rs y hy
theorem eb_tup (hw : ∃ o, H w = some o) (h : EvBs w C ta σ H n R) (hn : n ≤ 100000) (r : ∀ us, us.length = n → (∀ u ∈ us, R u) → R' (.tup us)) : EvB w C (tTup ta) σ H R' := fun H1 e Q q =>
  h H1 e _ fun vs us H2 e2 l hl rs => ⟨sz_of (by rw [AtL.length l, hl]; exact hn), fun p hp => q _ (.tup us) _ (e2.trans (Ex.new hp)) (.tup upd_same (fun ep => by
    obtain ⟨o, ho⟩ := hw
    rw [ep, (e.trans e2) _ _ ho] at hp
    cases hp) (ex_atl (Ex.new hp) l)) (r us hl rs)⟩
theorem eb_lst (hw : ∃ o, H w = some o) (h : EvBs w C ta σ H n R) (hn : n ≤ 100000) (r : ∀ us, us.length = n → (∀ u ∈ us, R u) → R' (.lst us)) : EvB w C (tLst ta) σ H R' := fun H1 e Q q =>
  h H1 e _ fun vs us H2 e2 l hl rs => ⟨sz_of (by rw [AtL.length l, hl]; exact hn), fun p hp => q _ (.lst us) _ (e2.trans (Ex.new hp)) (.lst upd_same (fun ep => by
    obtain ⟨o, ho⟩ := hw
    rw [ep, (e.trans e2) _ _ ho] at hp
    cases hp) (ex_atl (Ex.new hp) l)) (r us hl rs)⟩
theorem atl_pick (l : AtL w C H xs us) (hi : i < us.length) : ∃ v, xs[i]? = some v ∧ At w C H v us[i] := AtL.get l (List.getElem?_eq_getElem hi)
theorem eb_pick (h : EvBs w C ta σ H n R) (hn : n ≤ 100000) (hb : Ev tb σ H (.int (i : Int))) (hi : i < n) : EvB w C (tOp (rIxL K) (tLst ta) tb) σ H R := fun H1 e Q q =>
  h H1 e _ fun vs us H2 e2 l hl rs => ⟨sz_of (by rw [AtL.length l, hl]; exact hn), fun p hp => hb _ ((e.trans e2).trans (Ex.new hp)) _ fun H3 e3 => by
    have l2 : us.length = n := hl
    have hi2 : i < us.length := by omega
    obtain ⟨x, hx, hat⟩ := atl_pick l hi2
    exact ⟨p, vs, _, x, rfl, rfl, sq_of (e3 _ _ upd_same), atI_nat hx, q x us[i] H3 ((e2.trans (Ex.new hp)).trans e3) (ex_at ((Ex.new hp).trans e3) hat) (rs _ (List.getElem_mem hi2))⟩⟩
/-- a tuple of bounded items -/
def Part (m d b l : Nat) (u : U) : Prop := ∃ us, u = .tup us ∧ BdL us m d b ∧ us.length ≤ l
theorem cutV_at {lo hi : Option Int} (l : AtL w C H xs us) : ∃ us', AtL w C H (cutV xs lo hi) us' ∧ ∃ i j, us' = (us.drop i).take j := ⟨_, AtL.take _ (AtL.drop _ l), _, _, rfl⟩
theorem eb_slice {a : Addr} {tl th : TO} {lo hi : Option Int} {m d b : Nat} (hw : ∃ o, H w = some o) (h : Ev te σ H (.ref a)) (hx : H a = some (.tup xs)) (na : a ≠ w) (l : AtL w C H xs us) (h1 : EvO tl σ H lo) (h2 : EvO th σ H hi) (bd : BdL us m d b) : EvB w C (tSl (rSlA K) te tl th) σ H (Part m d b us.length) := fun H1 e Q q =>
  h H1 e _ fun H2 e2 => h1 H2 (e.trans e2) _ fun H3 e3 => h2 H3 ((e.trans e2).trans e3) _ fun H4 e4 => by
    have e5 := ((e.trans e2).trans e3).trans e4
    refine ⟨a, xs, rfl, st_of (e5 _ _ hx), fun _ => q _ (.tup us) H4 ((e2.trans e3).trans e4) (.tup (e5 _ _ hx) na (ex_atl e5 l)) ⟨us, rfl, bd, Nat.le_refl _⟩, fun _ p hp => ?_⟩
    obtain ⟨us', l', i, j, rfl⟩ := cutV_at (lo := lo) (hi := hi) l
    refine q _ (.tup _) _ (((e2.trans e3).trans e4).trans (Ex.new hp)) (.tup upd_same (fun ep => ?_) (ex_atl (e5.trans (Ex.new hp)) l')) ⟨_, rfl, (bd.drop i).take j, ?_⟩
    · obtain ⟨o, ho⟩ := hw
      rw [ep, e5 _ _ ho] at hp
      cases hp
    · rw [List.length_take, List.length_drop]
      omega
theorem eb_cat {m1 m2 d b l1 l2 : Nat} (hw : ∃ o, H w = some o) (h1 : EvB w C tb σ H (Part m1 d b l1)) (h2 : EvB w C tc σ H (Part m2 d b l2)) (hl : l1 + l2 ≤ 1000000) : EvB w C (tOp (rCatA K) tb tc) σ H (Part (m1 + m2) d b (l1 + l2)) := fun H1 e Q q =>
  h1 H1 e _ fun v1 u1 H2 e2 a1 ⟨us1, eu1, b1, c1⟩ => h2 H2 (e.trans e2) _ fun v2 u2 H3 e3 a2 ⟨us2, eu2, b2, c2⟩ => by
    subst eu1 eu2
    obtain ⟨p1, x1, rfl, g1, n1, t1⟩ := at_tup (ex_at e3 a1)
    obtain ⟨p2, x2, rfl, g2, n2, t2⟩ := at_tup a2
    have k1 := AtL.length t1
    have k2 := AtL.length t2
    refine ⟨p1, p2, x1, x2, rfl, rfl, st_of g1, st_of g2, len_fine (by omega), fun z => ?_, fun _ z => ?_, fun _ _ p hp => ?_⟩
    · refine q _ (.tup us2) H3 (e2.trans e3) a2 ⟨us2, rfl, b2.mono (by omega) (Nat.le_refl _) (Nat.le_refl _), by omega⟩
    · refine q _ (.tup us1) H3 (e2.trans e3) (ex_at e3 a1) ⟨us1, rfl, b1.mono (by omega) (Nat.le_refl _) (Nat.le_refl _), by omega⟩
    · refine q _ (.tup (us1 ++ us2)) _ ((e2.trans e3).trans (Ex.new hp)) (.tup upd_same (fun ep => ?_) (ex_atl (Ex.new hp) (AtL.append t1 t2))) ⟨_, rfl, b1.append b2, by rw [List.length_append]; omega⟩
      obtain ⟨o, ho⟩ := hw
      rw [ep, ((e.trans e2).trans e3) _ _ ho] at hp
      cases hp
/-! texts -/
abbrev rAddZ : R2 := fun x y H Q => ∃ i j : Str, x = .str i ∧ y = .str j ∧ i.length + j.length ≤ sizeLine ∧ Q (.str (i ++ j)) H
theorem rv_addZ {a b : Str} (h : a.length + b.length ≤ 1000000) : RV rAddZ (.str a) (.str b) H (.str (a ++ b)) := fun H1 _ Q q => ⟨a, b, rfl, rfl, len_fine h, q H1 (Ex.refl H1)⟩
def lined (z : Str) : Prop := ∀ c ∈ TL.tl z, okS c = true ∨ c = 10
theorem lined_add {a b : Str} (h : lined a) (q : lined b) : lined (a ++ b) := fun c hc => by
  rw [TL.tl_append] at hc
  rcases List.mem_append.mp hc with z | z
  · exact h c z
  · exact q c z
theorem len_add {a b : Str} : (a ++ b).length = a.length + b.length := by rw [TL.len_tl, TL.tl_append, List.length_append, ← TL.len_tl, ← TL.len_tl]
theorem lined_cut {z : Str} {lo hi : Option Int} (h : lined z) : lined (cutS z lo hi) := fun c hc => h c (List.mem_of_mem_drop (List.mem_of_mem_take hc))
theorem len_cut {z : Str} {lo hi : Option Int} : (cutS z lo hi).length ≤ z.length := by
  have h1 : (TL.tl (cutS z lo hi)).length ≤ (TL.tl z).length := by
    show ((z.cps.toList.drop _).take _).length ≤ z.cps.toList.length
    rw [List.length_take, List.length_drop]
    omega
  rw [TL.len_tl, TL.len_tl]
  exact h1
def upc (c : Nat) : Nat := if 97 ≤ c ∧ c ≤ 122 then c - 32 else c
theorem upc_ok {c : Nat} (h : okS c = true ∨ c = 10) : okS (upc c) = true ∨ upc c = 10 := by
  have key : ∀ c < 128, okS c = true → okS (upc c) = true := by decide +kernel
  rcases h with h | rfl
  · refine .inl (key c ?_ h)
    unfold okS okc at h
    simp only [Bool.and_eq_true, decide_eq_true_eq] at h
    omega
  · exact .inr rfl
theorem upper_tl (l : List Nat) (h : ∀ c ∈ l, c < 128) : TL.tl (Txt.upper ⟨l.toArray⟩) = l.map upc := by
  induction l with
  | nil =>
    have : TL.tl (Txt.upper (⟨#[]⟩ : Str)) = [] := by decide +kernel
    exact this
  | cons c l ih =>
    have e : (⟨(c :: l).toArray⟩ : Str) = (⟨#[c]⟩ : Str) ++ ⟨l.toArray⟩ := by
      apply TL.ext_tl
      rw [TL.tl_append]
      rfl
    rw [e, PySem.W.KOpn.upper_app, TL.tl_append, PySem.W.KOpn.upper_one (h c List.mem_cons_self), ih fun b hb => h b (List.mem_cons_of_mem _ hb)]
    rfl
theorem lined_lt {z : Str} (h : lined z) : ∀ c ∈ z.cps.toList, c < 128 := fun c hc => by
  rcases h c hc with q | q
  · unfold okS okc at q
    simp only [Bool.and_eq_true, decide_eq_true_eq] at q
    omega
  · omega
theorem upper_is {z : Str} (h : lined z) : TL.tl (Txt.upper z) = (TL.tl z).map upc := upper_tl z.cps.toList (lined_lt h)
theorem lined_upper {z : Str} (h : lined z) : lined (Txt.upper z) := fun c hc => by
  rw [upper_is h] at hc
  obtain ⟨b, hb, rfl⟩ := List.mem_map.mp hc
  exact upc_ok (h b hb)
theorem len_upper' {z : Str} (h : lined z) : (Txt.upper z).length = z.length := by
  rw [TL.len_tl, upper_is h, List.length_map, ← TL.len_tl]
end
end Hs
namespace Hs
open PySem PySem.Spec PyProof.Rows L2 Hu Evl
section
variable {P : Program} {wd : World} {K : PySem.W.Frag} {mg : Str → Option Value} {base : Heap} {C : Addr} {fD : Addr} {dD : FuncData}
def spChanged (C : Addr) : Sp := fun vs H Q _ => ∃ (wl : WA) (v : V) (u : U) (m d b : Nat), vs = [v, .ref wl.w] ∧ Well H wl ∧ At wl.w C H v u ∧ Bd u m d b ∧ m ≤ 100000 ∧ b ≤ 20 ∧
  ∀ (v' : V) (u' : U) (H' : Hp), Drawn wl H H' → At wl.w C H' v' u' → Bd u' (2 * m + 400) (d + 6) (b + 1) → Q v' H'
theorem scChanged : FnScope ["thing", "well", "kind", "turned"] ["thing", "well"] (defScope lChanged) := ⟨rfl, rfl, rfl, by decide +kernel, rfl, by decide +kernel, by decide +kernel⟩
theorem bu_int {i : Int} {m d b : Nat} (h : i.natAbs < 2 ^ 64 + b) : Bd (.int i) (2 * m + 400) d b := ⟨by simp only [wt]; omega, Nat.zero_le _, by simpa only [tidy] using h⟩
theorem bu_bl {x : Bool} {m d b : Nat} : Bd (.bl x) (2 * m + 400) d b := ⟨by simp only [wt]; omega, Nat.zero_le _, trivial⟩
theorem bu_non {m d b : Nat} : Bd .non (2 * m + 400) d b := ⟨by simp only [wt]; omega, Nat.zero_le _, trivial⟩
theorem bu_str {z : Str} {m d b : Nat} (h : 2 * z.length ≤ 2 * m + 398) (hc : lined z) : Bd (.str z) (2 * m + 400) d b := ⟨by simp only [wt]; omega, Nat.zero_le _, by simp only [tidy]; exact hc⟩
theorem bd_str_of {z : Str} {m d b : Nat} (h : Bd (.str z) m d b) : 2 * z.length + 2 ≤ m ∧ lined z := ⟨by simpa only [wt] using h.w, by have := h.c; simp only [tidy] at this; exact this⟩
theorem bd_tup_of {us : List U} {m d b : Nat} (h : Bd (.tup us) m d b) : BdL us (m - 3) (d - 1) b ∧ 3 ≤ m ∧ 1 ≤ d := by
  have h1 := h.w
  have h2 := h.d
  simp only [wt] at h1
  simp only [dep] at h2
  exact ⟨⟨by omega, by omega, by simpa only [tidy] using h.c⟩, by omega, by omega⟩
theorem part_bd {m d b l m' d' b' : Nat} {u : U} (h : Part m d b l u) (hm : m + 3 ≤ m') (hd : d + 1 ≤ d') (hb : b ≤ b') : Bd u m' d' b' := by
  obtain ⟨us, rfl, q, _⟩ := h
  exact (Bd.tup q).mono hm hd hb
theorem bdl_all {m d b : Nat} : ∀ {us : List U}, (∀ u ∈ us, Bd u m d b) → BdL us (us.length * (m + 2)) d b
  | [], _ => ⟨by simp [wtL], by simp [depL], trivial⟩
  | u :: us, h => by
    have q := (BdL.one (h u List.mem_cons_self)).append (bdl_all fun y hy => h y (List.mem_cons_of_mem _ hy))
    rw [List.length_cons, Nat.add_mul, Nat.one_mul, Nat.add_comm (us.length * _)]
    exact q
theorem r_tup {n m0 d0 b0 M D B : Nat} {us : List U} (hl : us.length = n) (h : ∀ u ∈ us, Bd u m0 d0 b0) (hm : n * (m0 + 2) + 3 ≤ M) (hd : d0 + 1 ≤ D) (hb : b0 ≤ B) : Bd (.tup us) M D B := (Bd.tup (bdl_all h)).mono (by rw [hl]; exact hm) hd hb
theorem r_lst {n m0 d0 b0 M D B : Nat} {us : List U} (hl : us.length = n) (h : ∀ u ∈ us, Bd u m0 d0 b0) (hm : n * (m0 + 2) + 3 ≤ M) (hd : d0 + 1 ≤ D) (hb : b0 ≤ B) : Bd (.lst us) M D B := (Bd.lst (bdl_all h)).mono (by rw [hl]; exact hm) hd hb
theorem ev_slS {σ : L2.St} {H : Hp} {te : TE} {tl th : TO} {z : Str} {lo hi : Option Int} (h : Ev te σ H (.str z)) (h1 : EvO tl σ H lo) (h2 : EvO th σ H hi) (hz : z.length ≤ 1000000) : Ev (tSl rSlS te tl th) σ H (.str (cutS z lo hi)) := fun H1 e Q q =>
  h H1 e _ fun H2 e2 => h1 H2 (e.trans e2) _ fun H3 e3 => h2 H3 ((e.trans e2).trans e3) _ fun H4 e4 => ⟨z, rfl, len_fine hz, q H4 ((e2.trans e3).trans e4)⟩
theorem ev_upper {σ : L2.St} {H : Hp} {te : TE} {z : Str} (h : Ev te σ H (.str z)) (hz : z.length ≤ 1000000) : Ev (tM0 (fun x xs H Q => ∃ a : Str, x = .str a ∧ xs = [] ∧ a.length ≤ 5592405 ∧ Q (.str (Txt.upper a)) H) te) σ H (.str (Txt.upper z)) := fun H1 e Q q =>
  h H1 e _ fun H2 e2 => ⟨⟨z, rfl⟩, z, rfl, rfl, by omega, q H2 e2⟩
theorem eb_listT {w : Addr} {σ : L2.St} {H : Hp} {te : TE} {a : Addr} {xs : List V} {us : List U} {R : U → Prop} (hw : ∃ o, H w = some o) (h : Ev te σ H (.ref a)) (hx : H a = some (.tup xs)) (l : AtL w C H xs us) (r : R (.lst us)) :
    EvB w C (tCB (fun xs H Q => ∃ p ys, xs = [.ref p] ∧ (SqL K H p ys ∨ SqT K H p ys) ∧ ∀ l, H l = none → Q (.ref l) (upd H l (.lst ys))) (tCons te tNil)) σ H R := fun H1 e Q q =>
  h H1 e _ fun H2 e2 => ⟨a, xs, rfl, .inr (st_of ((e.trans e2) _ _ hx)), fun p hp => q _ (.lst us) _ (e2.trans (Ex.new hp)) (.lst upd_same (fun ep => by
    obtain ⟨o, ho⟩ := hw
    rw [ep, (e.trans e2) _ _ ho] at hp
    cases hp) (ex_atl ((e.trans e2).trans (Ex.new hp)) l)) r⟩
theorem nonT {u : U} (h : (isT u "bool" || isNon u) = false) (q : isT u "int" = true) : ∃ i, u = .int i := by
  cases u with
  | int i => exact ⟨i, rfl⟩
  | bl b => simp [isT, isS, tyU] at h
  | _ => simp [isT, isS, tyU] at q
theorem q_asgBs {w : Addr} {σ : L2.St} {H : Hp} {ta : TA} {n i : Nat} {R : U → Prop} {tz : TS} {D : Ends} (h : EvBs w C ta σ H n R) (hn : n ≤ 100000)
    (k : ∀ vs us p H1, H1 p = none → Ex H H1 → AtL w C H1 vs us → us.length = n → (∀ u ∈ us, R u) → tz D (σ.set i (some (.ref p))) (upd H1 p (.lst vs))) : tSeq (tAsg (tLst ta) (gName i)) tz D σ H :=
  h H (Ex.refl H) _ fun vs us H1 e l hl rs => ⟨sz_of (by rw [AtL.length l, hl]; exact hn), fun p hp => k vs us p H1 hp e l hl rs⟩
set_option maxHeartbeats 1000000 in
theorem ok_changed {f fA : Addr} {fd dA : FuncData} (F : Fun K "_law_changed" "_law_changed" lChanged f fd) (S : Bs K mg C) (D : Dd P wd K mg base fD dD) (DA : Df K mg "_law_any" lAny ["well", "deep"] fA dA) (GA : FnOk P wd K mg base CX0 6 fA dA ["well", "deep"] (spAny C 1)) :
    FnOk P wd K mg base CX0 7 f fd ["thing", "well"] (spChanged C) := by
  refine F.ok scChanged (fun vs H Q E h => ?_) (fun cdv A outer s H vs Q E hr h => ?_)
  · obtain ⟨wl, v, u, m, d, b, rfl, _⟩ := h
    rfl
  obtain ⟨wl, v, u, m, d, b, rfl, W, hat, bd, hm, hb, k⟩ := h
  refine ⟨_, pss_cons (ps_set (i := 2) scChanged.nd rfl (.inl rfl) (pe_draw D hr (by decide) (by rfl) (pv 1) pe_int))
    (pss_cons (ps_if (pt_cmpR op_eq (pv 2) pe_int (nomark _)) (pss_one (ps_ret (pe_call GA hr (by rfl) DA.g DA.F.kp DA.b .nil pass0 (pa_cons (pv 1) (pa_cons pe_int pa_nil))))) pss_nil)
    (pss_cons (ps_if (PW.pt (pw_or (pt_val (pe_isiX S (by rfl) (by rfl) S.B.boo boot_bool' (by decide) (pv 0) (by decide) (by decide))) (pw_or1 (pt_cmpR op_isN1 (pv 0) pe_non (nomark _)))))
      (pss_one (ps_ret (pe_ix ix_list (pe_lst (pa_cons pe_int (pa_cons pe_int (pa_cons (pe_tup pa_nil) (pa_cons pe_str (pa_cons (pe_tup (pa_cons pe_int (pa_cons pe_int pa_nil))) (pa_cons (pe_lst pa_nil) (pa_cons (pe_tup (pa_cons pe_non pa_nil)) pa_nil)))))))) (pe_op op_sub (pv 2) pe_int) (fun _ _ => rfl)))) pss_nil)
    (pss_cons (ps_if (pt_val (pe_isiX S (by rfl) (by rfl) S.B.int boot_int' (by decide) (pv 0) (by decide) (by decide)))
      (pss_one (ps_ret (pe_ix ix_list (pe_lst (pa_cons (pe_op op_add (pv 0) pe_int) (pa_cons (pe_op op_sub (pv 0) pe_int) (pa_cons (pe_un un_neg (pv 0)) (pa_cons (pe_cmpR op_ge (pv 0) pe_int (nomark _)) (pa_cons pe_int (pa_cons pe_non (pa_cons (pe_tup (pa_cons (pv 0) pa_nil)) pa_nil)))))))) (pe_op op_sub (pv 2) pe_int) (fun _ _ => rfl)))) pss_nil)
    (pss_cons (ps_if (pt_val (pe_isiX S (by rfl) (by rfl) S.B.str boot_str (by decide) (pv 0) (by decide) (by decide)))
      (pss_one (ps_ret (pe_ix ix_list (pe_lst (pa_cons (pe_op op_add_str (pv 0) pe_str) (pa_cons (pe_slice sl_str (pv 0) (po_some pe_int) po_none) (pa_cons (pe_upper (pv 0)) (pa_cons (pe_op op_add_str pe_str (pv 0)) (pa_cons pe_str (pa_cons (pe_op op_add_str (pv 0) pe_str) (pa_cons (pe_lst (pa_cons (pv 0) pa_nil)) pa_nil)))))))) (pe_op op_sub (pv 2) pe_int) (fun _ _ => rfl)))) pss_nil)
    (pss_cons (ps_if (pt_val (pe_isiX S (by rfl) (by rfl) S.B.tup boot_tuple' (by decide) (pv 0) (by decide) (by decide)))
      (pss_cons (ps_set (i := 3) scChanged.nd rfl (.inl rfl) (pe_lst (pa_cons (pe_slice sl_tupA (pv 0) (po_some pe_int) po_none) (pa_cons (pe_slice sl_tupA (pv 0) po_none (po_some (pe_un un_neg pe_int)))
          (pa_cons (pe_op op_catA (pe_slice sl_tupA (pv 0) (po_some pe_int) po_none) (pe_slice sl_tupA (pv 0) po_none (po_some pe_int)))
          (pa_cons (pe_op op_catA (pe_slice sl_tupA (pv 0) po_none (po_some pe_int)) (pv 0)) (pa_cons (pe_op op_catA (pv 0) (pe_tup (pa_cons pe_non pa_nil)))
          (pa_cons (pe_callTy call_list_of (by rfl) S.B.lst boot_list (pa_cons (pv 0) pa_nil)) (pa_cons pe_non pa_nil)))))))))
        (pss_one (ps_ret (pe_ix ix_list (pv 3) (pe_op op_sub (pv 2) pe_int) (fun _ _ => rfl))))) pss_nil)
    (pss_one (ps_ret (pv 0)))))))), ?_⟩
  refine ⟨_, rfl, wl, 8, rfl, W, by decide, by decide, fun kd H1 d0 d1 D1 => ⟨_, rfl, rfl, _, rfl, ite2 (fun q => ?_) (fun q => ?_)⟩⟩
  · refine ⟨_, rfl, wl, rfl, D1.well, fun v' u' H2 D2 hv bv => k v' u' H2 (D1.trans D2) (at_full hv) (bv.mono ?_ ?_ (Nat.zero_le _))⟩
    · simp only [Wn]
      omega
    · omega
  have q0 := vi_ne q
  obtain ⟨i, rfl⟩ : ∃ i : Nat, kd = (i : Int) + 1 := ⟨(kd - 1).toNat, by omega⟩
  have hi : i < 7 := by omega
  have ix : ∀ {σ : L2.St} {H : Hp}, σ[2]? = some (some (.int ((i : Int) + 1))) → Ev (tOp (rI0 fun i j => .int (i - j)) (tVar 2) (tC (.int 1))) σ H (.int (i : Int)) := fun hs => ev_is (ev_op (ev_var hs) ev_c rv_I0) (by rw [show (i : Int) + 1 - 1 = i by omega])
  have hat1 : At wl.w C H1 v u := hat.keep fun b o nb e => D1.keep b o nb e
  have hw1 := D1.well.at
  have fin : ∀ {H2 : Hp}, Ex H1 H2 → ∀ (v' : V) (u' : U) (H3 : Hp), Ex H2 H3 → At wl.w C H3 v' u' → Bd u' (2 * m + 400) (d + 6) (b + 1) → Q v' H3 := fun e2 v' u' H3 e3 a r => k v' u' H3 (D1.same (e2.trans e3)) a r
  refine s_if (b := isT u "bool" || isNon u) (et_or (et_B (ev_isi (ev_var rfl) hat1)) fun _ => et_test (ev_is (ev_isN (ev_var rfl)) (by rw [at_non hat1]))) (fun q H2 e2 => ?_) (fun qb H2 e2 => ?_)
  · obtain ⟨o, ho⟩ := hw1
    have hw : ∃ o, H2 wl.w = some o := ⟨o, e2 _ _ ho⟩
    have z0 : ∀ {i : Int} {σ : L2.St}, i.natAbs < 100 → EvB wl.w C (tC (.int i)) σ H2 (fun u' => Bd u' 80 0 0) := fun {i σ} h => eb_ev ev_c (.int i) ⟨by simp only [wt]; omega, Nat.zero_le _, by simp only [tidy]; omega⟩
    exact eb_pick (K := K) (n := 7) (R := fun u' => Bd u' (2 * m + 400) (d + 6) (b + 1))
      (ebs_cons (eb_ev ev_c (.int 0) (bu_int (by omega))) (ebs_cons (eb_ev ev_c (.int 1) (bu_int (by omega))) (ebs_cons (eb_tup hw (ebs_nil (R := fun u' => Bd u' 80 0 0)) (by decide) fun us hl h => r_tup hl h (by omega) (by omega) (by omega))
      (ebs_cons (eb_ev ev_c (.str "") (bu_str (by simp only [show (("" : Str)).length = 0 from rfl]; omega) (fun c hc => by cases hc))) (ebs_cons (eb_tup hw (ebs_cons (z0 (by decide)) (ebs_cons (z0 (by decide)) ebs_nil)) (by decide) fun us hl h => r_tup hl h (by omega) (by omega) (by omega))
      (ebs_cons (eb_lst hw (ebs_nil (R := fun u' => Bd u' 80 0 0)) (by decide) fun us hl h => r_lst hl h (by omega) (by omega) (by omega)) (ebs_cons (eb_tup hw (ebs_cons (eb_ev (R := fun u' => Bd u' 80 0 0) ev_c .non ⟨by simp only [wt]; omega, Nat.zero_le _, trivial⟩) ebs_nil) (by decide) fun us hl h => r_tup hl h (by omega) (by omega) (by omega)) ebs_nil)))))))
      (by decide) (ix rfl) hi H2 (Ex.refl H2) _ (fin e2)
  have hat2 := ex_at e2 hat1
  refine s_if (b := isT u "int") (et_B (ev_isi (ev_var rfl) hat2)) (fun q H3 e3 => ?_) (fun qi H3 e3 => ?_)
  · obtain ⟨n, rfl⟩ := nonT qb q
    cases at_int hat2
    have hn : n.natAbs < 2 ^ 64 + b := by
      have := bd.c
      simpa only [tidy] using this
    obtain ⟨o, ho⟩ := hw1
    have hw : ∃ o, H3 wl.w = some o := ⟨o, e3 _ _ (e2 _ _ ho)⟩
    exact eb_pick (K := K) (n := 7) (R := fun u' => Bd u' (2 * m + 400) (d + 6) (b + 1))
      (ebs_cons (eb_ev (ev_op (ev_var rfl) ev_c rv_I0) (.int (n + 1)) (bu_int (by omega))) (ebs_cons (eb_ev (ev_op (ev_var rfl) ev_c rv_I0) (.int (n - 1)) (bu_int (by omega))) (ebs_cons (eb_ev (ev_un (ev_var rfl) ru_neg) (.int (-n)) (bu_int (by omega)))
      (ebs_cons (eb_ev (ev_op (ev_var rfl) ev_c rv_I0) (.bl _) bu_bl) (ebs_cons (eb_ev ev_c (.int 0) (bu_int (by omega))) (ebs_cons (eb_ev ev_c .non bu_non)
      (ebs_cons (eb_tup hw (ebs_cons (eb_ev (R := fun u' => Bd u' m d b) (ev_var rfl) (.int n) bd) ebs_nil) (by decide) fun us hl h => r_tup hl h (by omega) (by omega) (by omega)) ebs_nil)))))))
      (by decide) (ix rfl) hi H3 (Ex.refl H3) _ (fin (e2.trans e3))
  have hat3 := ex_at e3 hat2
  refine s_if (b := isT u "str") (et_B (ev_isi (ev_var rfl) hat3)) (fun q H4 e4 => ?_) (fun qs H4 e4 => ?_)
  · obtain ⟨z, rfl⟩ := isT_str q
    cases at_str hat3
    obtain ⟨hz, lz⟩ := bd_str_of bd
    have hzl : z.length ≤ 1000000 := by omega
    obtain ⟨o, ho⟩ := hw1
    have hw : ∃ o, H4 wl.w = some o := ⟨o, e4 _ _ (e3 _ _ (e2 _ _ ho))⟩
    have la : lined ("a" : Str) := by unfold lined; decide +kernel
    have lb : lined (" " : Str) := by unfold lined; decide +kernel
    have ln : lined ("\n" : Str) := by unfold lined; decide +kernel
    have l1 : (("a" : Str)).length = 1 := by decide +kernel
    have l2 : ((" " : Str)).length = 1 := by decide +kernel
    have l3 : (("\n" : Str)).length = 1 := by decide +kernel
    exact eb_pick (K := K) (n := 7) (R := fun u' => Bd u' (2 * m + 400) (d + 6) (b + 1))
      (ebs_cons (eb_ev (ev_op (ev_var rfl) ev_c (rv_addZ (by omega))) (.str _) (bu_str (by rw [len_add]; omega) (lined_add lz la))) (ebs_cons (eb_ev (ev_slS (ev_var rfl) (eo_some ev_c) eo_none hzl) (.str _) (bu_str (by have := len_cut (z := z) (lo := some 1) (hi := none); omega) (lined_cut lz)))
      (ebs_cons (eb_ev (ev_upper (ev_var rfl) hzl) (.str _) (bu_str (by rw [len_upper' lz]; omega) (lined_upper lz))) (ebs_cons (eb_ev (ev_op ev_c (ev_var rfl) (rv_addZ (by omega))) (.str _) (bu_str (by rw [len_add]; omega) (lined_add lb lz)))
      (ebs_cons (eb_ev ev_c (.str "") (bu_str (by simp only [show (("" : Str)).length = 0 from rfl]; omega) (fun c hc => by cases hc))) (ebs_cons (eb_ev (ev_op (ev_var rfl) ev_c (rv_addZ (by omega))) (.str _) (bu_str (by rw [len_add]; omega) (lined_add lz ln)))
      (ebs_cons (eb_lst hw (ebs_cons (eb_ev (R := fun u' => Bd u' m d b) (ev_var rfl) (.str z) bd) ebs_nil) (by decide) fun us hl h => r_lst hl h (by omega) (by omega) (by omega)) ebs_nil)))))))
      (by decide) (ix rfl) hi H4 (Ex.refl H4) _ (fin ((e2.trans e3).trans e4))
  have hat4 := ex_at e4 hat3
  refine s_if (b := isT u "tuple") (et_B (ev_isi (ev_var rfl) hat4)) (fun q H5 e5 => ?_) (fun qt H5 e5 => ?_)
  · obtain ⟨us, rfl⟩ := isT_tup q
    have hat5 := ex_at e5 hat4
    obtain ⟨a, xs, rfl, ha, na, hl⟩ := at_tup hat5
    obtain ⟨bl, m3, dd1⟩ := bd_tup_of bd
    have hlen : 2 * us.length ≤ m := Nat.le_trans (wt_len us) (Nat.le_trans bl.w (Nat.sub_le _ _))
    have e1 := ((e2.trans e3).trans e4).trans e5
    obtain ⟨o, ho⟩ := hw1
    have hw : ∃ o, H5 wl.w = some o := ⟨o, e1 _ _ ho⟩
    have P1 : EvB wl.w C (tVar 0) [some (V.ref a), some (.ref wl.w), some (.int ((i : Int) + 1)), none] H5 (Part (m - 3) (d - 1) b us.length) := eb_ev (ev_var rfl) hat5 ⟨us, rfl, bl, Nat.le_refl _⟩
    have P2 : EvB wl.w C (tTup (tCons (tC .non) tNil)) [some (V.ref a), some (.ref wl.w), some (.int ((i : Int) + 1)), none] H5 (Part 6 (d - 1) b 1) := eb_tup hw (ebs_cons (eb_ev (R := fun u' => Bd u' 4 0 0) ev_c .non ⟨by simp only [wt]; omega, Nat.zero_le _, trivial⟩) ebs_nil) (by decide) fun us hl h => ⟨us, rfl, (bdl_all h).mono (by rw [hl]; omega) (Nat.zero_le _) (Nat.zero_le _), by omega⟩
    have E1 : EvB wl.w C (tSl (rSlA K) (tVar 0) (tPart (tC (.int 1))) tNoPart) [some (V.ref a), some (.ref wl.w), some (.int ((i : Int) + 1)), none] H5 (Part (m - 3) (d - 1) b us.length) := eb_slice hw (ev_var rfl) ha na hl (eo_some ev_c) eo_none bl
    have E2 : EvB wl.w C (tSl (rSlA K) (tVar 0) tNoPart (tPart (tUn (rU fun i => .int (-i)) (tC (.int 1))))) [some (V.ref a), some (.ref wl.w), some (.int ((i : Int) + 1)), none] H5 (Part (m - 3) (d - 1) b us.length) := eb_slice hw (ev_var rfl) ha na hl eo_none (eo_some (ev_un ev_c ru_neg)) bl
    have E3 : EvB wl.w C (tSl (rSlA K) (tVar 0) tNoPart (tPart (tC (.int 1)))) [some (V.ref a), some (.ref wl.w), some (.int ((i : Int) + 1)), none] H5 (Part (m - 3) (d - 1) b us.length) := eb_slice hw (ev_var rfl) ha na hl eo_none (eo_some ev_c) bl
    have pb : ∀ {m0 l0 : Nat}, m0 + 3 ≤ 2 * m + 400 → ∀ u, Part m0 (d - 1) b l0 u → Bd u (2 * m + 400) (d + 6) (b + 1) := fun h0 u h => part_bd h h0 (by omega) (by omega)
    refine q_asgBs (n := 7) (R := fun u' => Bd u' (2 * m + 400) (d + 6) (b + 1)) (ebs_cons (eb_mono E1 (pb (by omega))) (ebs_cons (eb_mono E2 (pb (by omega))) (ebs_cons (eb_mono (eb_cat hw E1 E3 (by omega)) (pb (by omega))) (ebs_cons (eb_mono (eb_cat hw E3 P1 (by omega)) (pb (by omega)))
      (ebs_cons (eb_mono (eb_cat hw P1 P2 (by omega)) (pb (by omega))) (ebs_cons (eb_listT (K := K) hw (ev_var rfl) ha hl ((Bd.lst bl).mono (by omega) (by omega) (by omega)))
      (ebs_cons (eb_ev (R := fun u' => Bd u' (2 * m + 400) (d + 6) (b + 1)) ev_c .non bu_non) ebs_nil))))))) (by decide) fun vs us2 p H6 hp e6 l hl2 rs => ?_
    have l2 : us2.length = 7 := hl2
    have hi2 : i < us2.length := by omega
    obtain ⟨x, hx, hatx⟩ := atl_pick l hi2
    refine ⟨_, rfl, _, rfl, _, _, rfl, rfl, p, vs, _, x, rfl, rfl, SqL.of upd_same, ?_, fin e1 x us2[i] _ (e6.trans (Ex.new hp)) (ex_at (Ex.new hp) hatx) (rs _ (List.getElem_mem hi2))⟩
    rw [show (i : Int) + 1 - 1 = i by omega]
    exact atI_nat hx
  · exact ⟨_, rfl, fin ((((e2.trans e3).trans e4).trans e5)) _ _ _ (Ex.refl _) (ex_at e5 hat4) (bd.mono (by omega) (by omega) (by omega))⟩
end
end Hs
namespace Hs
open PySem PySem.Spec PyProof.Rows L2 Hu Evl
section
variable {K : PySem.W.Frag} {w C : Addr} {H : Hp} {v v1 v2 : V} {us us1 us2 : List U} {Q : VK}
def cutU (us : List U) (lo hi : Option Int) : List U := (us.drop (HT.sIx us.length 0 lo)).take (HT.sIx us.length us.length hi - HT.sIx us.length 0 lo)
theorem slice_at {lo hi : Option Int} (hw : ∃ o, H w = some o) (a : At w C H v (.tup us)) (q : ∀ v' H', Ex H H' → At w C H' v' (.tup (cutU us lo hi)) → Q v' H') : rSlA K v lo hi H Q := by
  obtain ⟨p, xs, rfl, hp, np, l⟩ := at_tup a
  have hl := AtL.length l
  refine ⟨p, xs, rfl, st_of hp, fun z => ?_, fun z p2 hp2 => ?_⟩
  · have e : cutU us lo hi = us := by
      unfold cutU
      rw [← hl, z.1, z.2, Nat.sub_zero, List.drop_zero, hl, List.take_length]
    have := q (.ref p) H (Ex.refl H)
    rw [e] at this
    exact this a
  · refine q _ _ (Ex.new hp2) (.tup upd_same (fun ep => ?_) (ex_atl (Ex.new hp2) ?_))
    · obtain ⟨o, ho⟩ := hw
      rw [ep, ho] at hp2
      cases hp2
    · unfold cutU
      rw [← hl]
      exact AtL.take _ (AtL.drop _ l)
theorem cat_at (hw : ∃ o, H w = some o) (a1 : At w C H v1 (.tup us1)) (a2 : At w C H v2 (.tup us2)) (hl : us1.length + us2.length ≤ 1000000) (q : ∀ v H', Ex H H' → At w C H' v (.tup (us1 ++ us2)) → Q v H') : rCatA K v1 v2 H Q := by
  obtain ⟨p1, x1, rfl, g1, n1, t1⟩ := at_tup a1
  obtain ⟨p2, x2, rfl, g2, n2, t2⟩ := at_tup a2
  have k1 := AtL.length t1
  have k2 := AtL.length t2
  refine ⟨p1, p2, x1, x2, rfl, rfl, st_of g1, st_of g2, len_fine (by omega), fun z => ?_, fun _ z => ?_, fun _ _ p hp => ?_⟩
  · have e : us1 = [] := List.length_eq_zero_iff.mp (by rw [← k1, z]; rfl)
    subst e
    exact q _ H (Ex.refl H) a2
  · have e : us2 = [] := List.length_eq_zero_iff.mp (by rw [← k2, z]; rfl)
    subst e
    have := q (.ref p1) H (Ex.refl H)
    rw [List.append_nil] at this
    exact this a1
  · refine q _ _ (Ex.new hp) (.tup upd_same (fun ep => ?_) (ex_atl (Ex.new hp) (AtL.append t1 t2)))
    obtain ⟨o, ho⟩ := hw
    rw [ep, ho] at hp
    cases hp
theorem cut_to {k : Nat} : cutU us none (some (k : Int)) = us.take k := by
  unfold cutU
  rw [HT.sIx_none, HT.sIx_nat, Nat.sub_zero, List.drop_zero]
  by_cases h : k ≤ us.length
  · rw [Nat.min_eq_left h]
  · rw [Nat.min_eq_right (by omega), List.take_length, List.take_of_length_le (by omega)]
theorem cut_from {k : Nat} : cutU us (some (k : Int)) none = us.drop k := by
  unfold cutU
  rw [HT.sIx_none, HT.sIx_nat]
  by_cases h : k ≤ us.length
  · rw [Nat.min_eq_left h, List.take_of_length_le (by rw [List.length_drop]; omega)]
  · rw [Nat.min_eq_right (by omega), List.drop_length, List.drop_eq_nil_of_le (by omega), List.take_nil]
end
theorem nodL_drop {us : List U} {i : Nat} (h : i < us.length) : nodL (us.drop i) = nod us[i] + nodL (us.drop (i + 1)) := by
  rw [List.drop_eq_getElem_cons h]
  rfl
theorem split_at {us : List U} {i : Nat} (h : i < us.length) : us = us.take i ++ ([us[i]] ++ us.drop (i + 1)) := by
  rw [List.singleton_append, ← List.drop_eq_getElem_cons h, List.take_append_drop]
theorem swap_bd {us : List U} {i : Nat} {c : U} {m d b : Nat} (h : i < us.length) (bd : Bd (.tup us) m d b) (hc : Bd c (2 * wt us[i] + 400) (d - 1 + 6) (b + 1)) : Bd (.tup (us.take i ++ [c] ++ us.drop (i + 1))) (2 * m + 400) (d + 6) (b + 1) := by
  obtain ⟨bl, m3, d1⟩ := bd_tup_of bd
  have e : wtL us = wtL (us.take i) + (wt us[i] + 2 + wtL (us.drop (i + 1))) := by
    have q := congrArg wtL (split_at h)
    rw [wtL_append, wtL_append] at q
    simpa only [wtL, Nat.add_zero] using q
  have t1 : BdL (us.take i) (wtL (us.take i)) (d - 1 + 6) (b + 1) := ⟨Nat.le_refl _, by have := (bl.take i).d; omega, tidyL_mono (by omega) _ (bl.take i).c⟩
  have t2 : BdL (us.drop (i + 1)) (wtL (us.drop (i + 1))) (d - 1 + 6) (b + 1) := ⟨Nat.le_refl _, by have := (bl.drop (i + 1)).d; omega, tidyL_mono (by omega) _ (bl.drop (i + 1)).c⟩
  have hw := bl.w
  have hi := wt_mem (List.getElem_mem h)
  exact (Bd.tup ((t1.append (BdL.one hc)).append t2)).mono (by omega) (by omega) (Nat.le_refl _)
section
variable {P : Program} {wd : World} {K : PySem.W.Frag} {mg : Str → Option Value} {base : Heap} {C : Addr} {fD : Addr} {dD : FuncData}
def spSpoilt (C : Addr) (n : Nat) : Sp := fun vs H Q _ => ∃ (wl : WA) (v : V) (u : U) (at0 : Int) (m d b : Nat), vs = [v, .int at0, .ref wl.w] ∧ Well H wl ∧ At wl.w C H v u ∧ Bd u m d b ∧ m ≤ 100000 ∧ b ≤ 20 ∧ dep u < n ∧ 0 ≤ at0 ∧ at0 < (nod u : Int) ∧
  ∀ (v' : V) (u' : U) (H' : Hp), Drawn wl H H' → At wl.w C H' v' u' → Bd u' (2 * m + 400) (d + 6) (b + 1) → Q v' H'
theorem scSpoilt : FnScope ["thing", "at", "well", "k", "size"] ["thing", "at", "well"] (defScope lSpoilt) := ⟨rfl, rfl, rfl, by decide +kernel, rfl, by decide +kernel, by decide +kernel⟩
theorem ok_spoilt {f fC fN : Addr} {fd dC dN : FuncData} (DS : Df K mg "_law_spoilt" lSpoilt ["thing", "at", "well"] f fd) (S : Bs K mg C) (DC : Df K mg "_law_changed" lChanged ["thing", "well"] fC dC) (GC : FnOk P wd K mg base CX0 7 fC dC ["thing", "well"] (spChanged C))
    (DN : Df K mg "_law_nodes" lNodes ["thing"] fN dN) : ∀ n : Nat, FnOk P wd K mg base CX0 (n + 7) f fd ["thing", "at", "well"] (spSpoilt C n)
  | 0 => ⟨fun _ _ _ _ ⟨_, _, _, _, _, _, _, e, _⟩ => by rw [e]; rfl, fun _ _ _ _ _ _ _ _ _ _ _ _ _ ⟨_, _, _, _, _, _, _, _, _, _, _, _, _, h, _⟩ => absurd h (Nat.not_lt_zero _)⟩
  | n + 1 => by
    have G := ok_spoilt DS S DC GC DN n
    have GN : FnOk P wd K mg base CX0 n fN dN ["thing"] (spNodes C n) := ok_nodes DN S n
    refine DS.F.ok (k := n + 7) scSpoilt (fun vs H Q E h => ?_) (fun cdv A outer s H vs Q E hr h => ?_)
    · obtain ⟨wl, v, u, at0, m, d, b, rfl, _⟩ := h
      rfl
    obtain ⟨wl, v, u, at0, m, d, b, rfl, W, hat, bd, hm, hb, hd, a0, a1, k⟩ := h
    refine ⟨_, pss_cons (ps_if (pt_cmpR op_eq (pv 1) pe_int (nomark _)) (pss_one (ps_ret (pe_call GC (hr.mono (by omega)) (by rfl) DC.g DC.F.kp DC.b .nil pass0 (pa_cons (pv 0) (pa_cons (pv 2) pa_nil))))) pss_nil)
      (pss_cons (ps_set (i := 1) scSpoilt.nd rfl (.inl rfl) (pe_op op_sub (pv 1) pe_int))
      (pss_cons (ps_for PassesOwn.never rfl (pi_range1 (by rfl) S.B.range (pa_cons (pe_callB call_len_seq (by rfl) S.B.len PySem.boot_len (pa_cons (pv 0) pa_nil)) pa_nil)) (pg_name (i := 3) scSpoilt.nd rfl (Or.inl rfl))
        (pss_cons (ps_set (i := 4) scSpoilt.nd rfl (.inl rfl) (pe_call GN (hr.mono (by omega)) (by rfl) DN.g DN.F.kp DN.b .nil pass0 (pa_cons (pe_ix ix_tup (pv 0) (pv 3) (fun _ _ => rfl)) pa_nil)))
        (pss_cons (ps_if (pt_cmpR op_lt (pv 1) (pv 4) (nomark _))
          (pss_one (ps_ret (pe_op op_catA (pe_op op_catA (pe_slice sl_tupA (pv 0) po_none (po_some (pv 3))) (pe_tup (pa_cons (pe_call G hr (by rfl) DS.g DS.F.kp DS.b .nil pass0 (pa_cons (pe_ix ix_tup (pv 0) (pv 3) (fun _ _ => rfl)) (pa_cons (pv 1) (pa_cons (pv 2) pa_nil)))) pa_nil)))
            (pe_slice sl_tupA (pv 0) (po_some (pe_op op_add (pv 3) pe_int)) po_none)))) pss_nil)
        (pss_one (ps_set (i := 1) scSpoilt.nd rfl (.inl rfl) (pe_op op_sub (pv 1) (pv 4)))))))
      (pss_one (ps_ret (pv 0))))), ?_⟩
    refine ⟨_, rfl, rfl, _, rfl, ite2 (fun q => ?_) (fun q => ?_)⟩
    · exact ⟨_, rfl, _, rfl, wl, v, u, m, d, b, rfl, W, hat, bd, hm, hb, k⟩
    have q0 := vi_ne q
    cases u with
    | tup us =>
      obtain ⟨a, xs, rfl, ha, na, hl⟩ := at_tup hat
      have hxl := AtL.length hl
      simp only [dep] at hd
      have hlen : us.length ≤ 100000 := by
        have := wt_len us
        have := (bd_tup_of bd).1.w
        omega
      simp only [nod] at a1
      refine ⟨_, rfl, _, _, rfl, rfl, _, rfl, a, xs, rfl, .inr (st_of ha), _, rfl, by omega, by omega, ?_⟩
      refine for_range (lo := 0) (n := ((xs.length : Nat) : Int).toNat) (fun i σ H' => ∃ (at' : Int) (x3 x4 : Option V), σ = [some (.ref a), some (.int at'), some (.ref wl.w), x3, x4] ∧ 0 ≤ at' ∧ at' < (nodL (us.drop i) : Int) ∧ Ex H H') ⟨at0 - 1, none, none, rfl, by omega, by rw [List.drop_zero]; omega, Ex.refl H⟩ ?_ ?_
      · rintro i σ H1 hi ⟨at', x3, x4, rfl, b0, b1, e1⟩
        have hi' : i < us.length := by omega
        obtain ⟨x, hx, hax⟩ := atl_pick hl hi'
        have hg1 : atI xs (0 + (i : Int)) = some x := at_of (by omega) hx
        have W1 := W.same e1
        have bc : Bd us[i] (wt us[i]) (d - 1) b := by
          have q := (bd_tup_of bd).1.get (List.getElem_mem hi')
          exact ⟨Nat.le_refl _, q.d, q.c⟩
        have hwi : wt us[i] ≤ 100000 := by
          have := wt_mem (List.getElem_mem hi')
          have := (bd_tup_of bd).1.w
          omega
        have hdi : dep us[i] < n := by
          have := dep_mem' (List.getElem_mem hi')
          omega
        have nd := nodL_drop hi'
        refine ⟨_, rfl, _, rfl, a, xs, _, x, rfl, rfl, st_of (e1 _ _ ha), hg1, x, us[i], wl.w, rfl, ex_at e1 hax, bc.fine (by omega) (by omega), hdi, fun H2 e2 => ?_⟩
        refine ⟨_, rfl, _, rfl, _, _, rfl, rfl, _, rfl, ite2 (fun q => ?_) (fun q => ?_)⟩
        · have q1 : at' < (nod us[i] : Int) := of_decide_eq_true q
          have e12 := e1.trans e2
          obtain ⟨ow, how⟩ := W.at
          refine ⟨_, rfl, _, rfl, 0 + (i : Int), rfl, ?_⟩
          refine slice_at (C := C) ⟨ow, e12 _ _ how⟩ (ex_at e12 hat) fun y1 H3 e3 ay1 => ?_
          have e13 := e12.trans e3
          refine ⟨_, rfl, _, rfl, a, xs, _, x, rfl, rfl, st_of (e13 _ _ ha), hg1, _, rfl, _, rfl, wl, x, us[i], at', wt us[i], d - 1, b, rfl, W.same e13, ex_at e13 hax, bc, hwi, hb, hdi, b0, q1, fun v' u' H4 D4 hv bv => ?_⟩
          refine ⟨sz_of (show (1 : Nat) ≤ 100000 by decide), fun p hp => ?_⟩
          obtain ⟨o4, ho4⟩ := D4.well.at
          have np : p ≠ wl.w := (D4.well.ne hp).1
          have y1' : At wl.w C (upd H4 p (.tup [v'])) y1 (.tup (cutU us none (some (0 + (i : Int))))) := ex_at (Ex.new hp) (ay1.keep fun b o nb q => D4.keep b o nb q)
          refine cat_at (C := C) ⟨o4, by rw [upd_ne np.symm]; exact ho4⟩ y1' (us2 := [u']) (.tup upd_same np (.cons (ex_at (Ex.new hp) hv) .nil)) ?_ fun y2 H5 e5 ay2 => ?_
          · have : (cutU us none (some (0 + (i : Int)))).length ≤ us.length := by
              unfold cutU
              rw [List.length_take, List.length_drop]
              omega
            rw [List.length_singleton]
            omega
          have D5 : Drawn wl H H5 := ((((Drawn.refl W).same e13).trans D4).same ((Ex.new hp).trans e5))
          obtain ⟨o5, ho5⟩ := D5.well.at
          have hat5 : At wl.w C H5 (.ref a) (.tup us) := hat.keep fun b o nb q => D5.keep b o nb q
          refine ⟨_, rfl, _, rfl, _, _, rfl, rfl, _, rfl, ?_⟩
          dsimp only [tNoPart]
          refine slice_at (C := C) ⟨o5, ho5⟩ hat5 fun y3 H6 e6 ay3 => ?_
          rw [Int.zero_add, cut_to] at ay2
          rw [Int.zero_add, show (i : Int) + 1 = ((i + 1 : Nat) : Int) by omega, cut_from] at ay3
          refine cat_at (C := C) ⟨o5, e6 _ _ ho5⟩ (ex_at e6 ay2) ay3 ?_ fun y4 H7 e7 ay4 => ?_
          · simp only [List.length_append, List.length_take, List.length_drop, List.length_singleton]
            omega
          exact k y4 _ H7 (D5.same (e6.trans e7)) ay4 (swap_bd hi' bd bv)
        · have q1 : ¬ at' < (nod us[i] : Int) := fun z => q (decide_eq_true z)
          refine ⟨_, rfl, _, rfl, _, _, rfl, rfl, at' - (nod us[i] : Int), _, _, rfl, by omega, ?_, e1.trans e2⟩
          rw [nd] at b1
          omega
      · rintro σ H1 ⟨at', x3, x4, rfl, b0, b1, e1⟩
        exfalso
        rw [List.drop_eq_nil_of_le (by omega)] at b1
        simp only [nodL] at b1
        omega
    | _ =>
      exfalso
      simp only [nod] at a1
      omega
end
end Hs
namespace Hs
open PySem PySem.Spec PyProof.Rows L2 Hu Evl
section
variable {P : Program} {wd : World} {K : PySem.W.Frag} {mg : Str → Option Value} {base : Heap} {C : Addr} {fD : Addr} {dD : FuncData}
/-! ### ids and stamps -/
def spPair : Sp := fun vs H Q _ => ∃ wl : WA, vs = [.ref wl.w] ∧ Well H wl ∧ ∀ (i j : Int) (p : Addr) (H' : Hp), i.natAbs < 2 ^ 60 → j.natAbs < 2 ^ 60 → H p = none → Drawn wl H H' → H' p = some (.tup [.int i, .int j]) → Q (.ref p) H'
theorem scIdL : FnScope ["well"] ["well"] (defScope lId) := ⟨rfl, rfl, rfl, by decide +kernel, rfl, by decide +kernel, by decide +kernel⟩
theorem ok_idL {f fN : Addr} {fd dN : FuncData} (F : Fun K "_law_id" "_law_id" lId f fd) (D : Dd P wd K mg base fD dD) (DN : Df K mg "_law_number" lNumber ["well"] fN dN) : FnOk P wd K mg base CX0 5 f fd ["well"] spPair := by
  have GN : FnOk P wd K mg base CX0 4 fN dN ["well"] spNumber := ok_number DN.F D
  refine F.ok scIdL (fun vs H Q E h => ?_) (fun cdv A outer s H vs Q E hr h => ?_)
  · obtain ⟨wl, rfl, _⟩ := h
    rfl
  obtain ⟨wl, rfl, W, k⟩ := h
  refine ⟨_, pss_cons (ps_if (pt_cmpR op_eq (pe_draw D hr (by decide) (by rfl) (pv 0) pe_int) pe_int (nomark _))
      (pss_one (ps_ret (pe_tup (pa_cons (pe_op op_add pe_int (pe_draw D hr (by decide) (by rfl) (pv 0) pe_int)) (pa_cons (pe_op op_add pe_int (pe_call GN hr (by rfl) DN.g DN.F.kp DN.b .nil pass0 (pa_cons (pv 0) pa_nil))) pa_nil))))) pss_nil)
    (pss_one (ps_ret (pe_tup (pa_cons (pe_op op_add pe_int (pe_draw D hr (by decide) (by rfl) (pv 0) pe_int)) (pa_cons (pe_op op_add pe_int (pe_draw D hr (by decide) (by rfl) (pv 0) pe_int)) pa_nil))))), ?_⟩
  refine ⟨_, rfl, wl, 3, rfl, W, by decide, by decide, fun d H1 d0 d1 D1 => ⟨rfl, _, rfl, ite2 (fun q => ?_) (fun q => ?_)⟩⟩
  · refine ⟨_, rfl, wl, 99, rfl, D1.well, by decide, by decide, fun e H2 e0 e1 D2 => ⟨_, _, rfl, rfl, _, rfl, wl, rfl, D2.well, fun g H3 g0 g1 D3 => ⟨_, _, rfl, rfl, sz_of (show (2 : Nat) ≤ 100000 by decide), fun p hp => ?_⟩⟩⟩
    have DD := (D1.trans D2).trans D3
    exact k (1 + e) (1 + g) p _ (by omega) (by omega) (DD.free W hp) (DD.new hp) upd_same
  · refine ⟨_, rfl, wl, 2, rfl, D1.well, by decide, by decide, fun e H2 e0 e1 D2 => ⟨_, _, rfl, rfl, _, rfl, wl, 3, rfl, D2.well, by decide, by decide, fun g H3 g0 g1 D3 => ⟨_, _, rfl, rfl, sz_of (show (2 : Nat) ≤ 100000 by decide), fun p hp => ?_⟩⟩⟩
    have DD := (D1.trans D2).trans D3
    exact k (1 + e) (1 + g) p _ (by omega) (by omega) (DD.free W hp) (DD.new hp) upd_same
theorem scStampL : FnScope ["well", "kind"] ["well"] (defScope lStamp) := ⟨rfl, rfl, rfl, by decide +kernel, rfl, by decide +kernel, by decide +kernel⟩
theorem ok_stampL {f fN : Addr} {fd dN : FuncData} (F : Fun K "_law_stamp" "_law_stamp" lStamp f fd) (D : Dd P wd K mg base fD dD) (DN : Df K mg "_law_number" lNumber ["well"] fN dN) : FnOk P wd K mg base CX0 5 f fd ["well"] spPair := by
  have GN : FnOk P wd K mg base CX0 4 fN dN ["well"] spNumber := ok_number DN.F D
  refine F.ok scStampL (fun vs H Q E h => ?_) (fun cdv A outer s H vs Q E hr h => ?_)
  · obtain ⟨wl, rfl, _⟩ := h
    rfl
  obtain ⟨wl, rfl, W, k⟩ := h
  refine ⟨_, pss_cons (ps_set (i := 1) scStampL.nd rfl (.inl rfl) (pe_draw D hr (by decide) (by rfl) (pv 0) pe_int))
    (pss_cons (ps_if (pt_cmpR op_eq (pv 1) pe_int (nomark _)) (pss_one (ps_ret (pe_tup (pa_cons pe_int (pa_cons pe_int pa_nil))))) pss_nil)
    (pss_cons (ps_if (pt_cmpR op_eq (pv 1) pe_int (nomark _)) (pss_one (ps_ret (pe_tup (pa_cons (pe_op op_add pe_int (pe_call GN hr (by rfl) DN.g DN.F.kp DN.b .nil pass0 (pa_cons (pv 0) pa_nil))) (pa_cons (pe_op op_add pe_int (pe_draw D hr (by decide) (by rfl) (pv 0) pe_int)) pa_nil))))) pss_nil)
    (pss_one (ps_ret (pe_tup (pa_cons (pe_op op_add pe_int (pe_draw D hr (by decide) (by rfl) (pv 0) pe_int)) (pa_cons (pe_op op_add pe_int (pe_draw D hr (by decide) (by rfl) (pv 0) pe_int)) pa_nil))))))), ?_⟩
  refine ⟨_, rfl, wl, 5, rfl, W, by decide, by decide, fun d H1 d0 d1 D1 => ⟨_, rfl, rfl, _, rfl, ite2 (fun q => ?_) (fun q => ?_)⟩⟩
  · exact ⟨sz_of (show (2 : Nat) ≤ 100000 by decide), fun p hp => k 0 0 p _ (by decide) (by decide) (D1.free W hp) (D1.new hp) upd_same⟩
  refine ⟨_, rfl, rfl, _, rfl, ite2 (fun q => ?_) (fun q => ?_)⟩
  · refine ⟨_, rfl, wl, rfl, D1.well, fun e H2 e0 e1 D2 => ⟨_, _, rfl, rfl, _, rfl, wl, 99, rfl, D2.well, by decide, by decide, fun g H3 g0 g1 D3 => ⟨_, _, rfl, rfl, sz_of (show (2 : Nat) ≤ 100000 by decide), fun p hp => ?_⟩⟩⟩
    have DD := (D1.trans D2).trans D3
    exact k (1 + e) (1 + g) p _ (by omega) (by omega) (DD.free W hp) (DD.new hp) upd_same
  · refine ⟨_, rfl, wl, 4, rfl, D1.well, by decide, by decide, fun e H2 e0 e1 D2 => ⟨_, _, rfl, rfl, _, rfl, wl, 3, rfl, D2.well, by decide, by decide, fun g H3 g0 g1 D3 => ⟨_, _, rfl, rfl, sz_of (show (2 : Nat) ≤ 100000 by decide), fun p hp => ?_⟩⟩⟩
    have DD := (D1.trans D2).trans D3
    exact k (1 + e) (1 + g) p _ (by omega) (by omega) (DD.free W hp) (DD.new hp) upd_same
/-! ### members -/
def spMem : Sp := fun vs H Q _ => ∃ wl : WA, vs = [.ref wl.w] ∧ Well H wl ∧ ∀ (f : Nat → Bool) (p : Addr) (H' : Hp), H p = none → Drawn wl H H' → H' p = some (.tup (given 9 f fun i => V.int (i : Int))) → Q (.ref p) H'
theorem scMem : FnScope ["well", "bits", "k"] ["well"] (defScope lMembers) := ⟨rfl, rfl, rfl, by decide +kernel, rfl, by decide +kernel, by decide +kernel⟩
def pows : List V := [.int 1, .int 2, .int 4, .int 8, .int 16, .int 32, .int 64, .int 128, .int 256]
theorem pows_get {i : Nat} (h : i < 9) : pows[i]? = some (.int (2 ^ i : Int)) := by
  match i, h with
  | 0, _ | 1, _ | 2, _ | 3, _ | 4, _ | 5, _ | 6, _ | 7, _ | 8, _ => rfl
abbrev rTupQ (K : PySem.W.Frag) : List V → Hp → VK → Prop := fun xs H Q => ∃ p ys, xs = [.ref p] ∧ ((SqL K H p ys ∧ ∀ l, H l = none → Q (.ref l) (upd H l (.tup ys))) ∨ (SqT K H p ys ∧ Q (.ref p) H))
theorem s_retTL {σ : L2.St} {H : Hp} {te : TE} {xs : List V} {D : Ends} (h : EvL te σ H xs) (k : ∀ p H1, H p = none → Ex H H1 → H1 p = some (.tup xs) → D.rt (.ref p) H1) : tRet (tCB (rTupQ K) (tCons te tNil)) D σ H :=
  h H (Ex.refl H) _ fun D' H2 hD e2 h2 => ⟨D', _, rfl, .inl ⟨SqL.of h2, fun p hp => k p _ (fresh_back e2 hp) (e2.trans (Ex.new hp)) upd_same⟩⟩
theorem ok_mem {f : Addr} {fd : FuncData} (F : Fun K "_law_members" "_law_members" lMembers f fd) (B : Bt mg) (D : Dd P wd K mg base fD dD) : FnOk P wd K mg base CX0 4 f fd ["well"] spMem := by
  refine F.ok scMem (fun vs H Q E h => ?_) (fun cdv A outer s H vs Q E hr h => ?_)
  · obtain ⟨wl, rfl, _⟩ := h
    rfl
  obtain ⟨wl, rfl, W, k⟩ := h
  refine ⟨_, pss_cons (ps_set (i := 1) scMem.nd rfl (.inr rfl) (pe_op op_add pe_int (pe_draw D hr (by decide) (by rfl) (pv 0) pe_int)))
    (pss_one (ps_ret (pe_callTy call_tuple_of (by rfl) B.tup boot_tuple' (pa_cons (pe_lc (own := [("k", 2)]) (g := gName 2) rfl scMem.nd (pi_range1 (by rfl) B.range (pa_cons pe_int pa_nil)) (blkOk_by (N := ["well", "bits", "k"]) (sc := defScope lMembers) (by decide +kernel))
      (fun _ _ _ _ _ => pg_name (i := 2) scMem.nd rfl (Or.inl rfl)) (fun _ _ _ _ _ => pts_one (pt_cmpR op_eq (pe_op op_modN (pe_callTy call_int1 (by rfl) B.int boot_int (pa_cons (pe_op op_fdivW (pv 1) (pe_ix (show IxR _ (rIxL K) from ix_list) (pe_lst (pa_cons pe_int (pa_cons pe_int (pa_cons pe_int (pa_cons pe_int (pa_cons pe_int (pa_cons pe_int (pa_cons pe_int (pa_cons pe_int (pa_cons pe_int pa_nil)))))))))) (pv 2) (fun _ _ => rfl))) pa_nil)) pe_int) pe_int (nomark _)))
      (fun _ _ _ _ _ => pv 2)) pa_nil)))), ?_⟩
  refine ⟨_, rfl, wl, 511, rfl, W, by decide, by decide, fun d H1 d0 d1 D1 => ⟨_, _, rfl, rfl, ?_⟩⟩
  have L := el_lcR1 (σ := [some (V.ref wl.w), some (.int (1 + d)), none]) (H := H1) (j := 2) (vs := [2]) (n := 9) (t := tTest (tOp rEq (tOp (rI (fun _ j => j ≠ 0) fun i j => .int (i.fmod j)) (tCB (fun xs H Q => (∃ i, xs = [V.int i] ∧ Q (.int i) H) ∨ ∃ k, xs = [.bl k] ∧ Q (.int (if k then 1 else 0)) H) (tCons (tOp (rI CDivW fun i j => .int (i / j)) (tVar 1) (tOp (rIxL K) (tLst (tCons (tC (.int 1)) (tCons (tC (.int 2)) (tCons (tC (.int 4)) (tCons (tC (.int 8)) (tCons (tC (.int 16)) (tCons (tC (.int 32)) (tCons (tC (.int 64)) (tCons (tC (.int 128)) (tCons (tC (.int 256)) tNil)))))))))) (tVar 2))) tNil)) (tC (.int 2))) (tC (.int 1)))) (te := tVar 2)
    (fun i => decide (V.int (((1 + d) / (2 ^ i : Int)).fmod 2) = V.int 1)) (fun i => .int (i : Int)) (ea_cons ev_c ea_nil) (by decide) (fun _ => rfl) (fun i H2 e2 hi => ?_) (fun i H2 e2 hi _ => ev_var rfl)
  · dsimp only [gName]
    exact s_retTL (K := K) L fun p H2 hp e2 h2 => k _ p _ (D1.free W hp) (D1.same e2) h2
  · have h2 : (0 : Int) < 2 ^ i := by
      have : (0 : Int) < 2 := by decide
      exact Int.pow_pos this
    refine et_test (ev_op (ev_op (ev_cb (ea_cons (ev_op (ev_var rfl) (ev_pick (K := K) (xs := pows) (i := i) (ea_cons ev_c (ea_cons ev_c (ea_cons ev_c (ea_cons ev_c (ea_cons ev_c (ea_cons ev_c (ea_cons ev_c (ea_cons ev_c (ea_cons ev_c ea_nil))))))))) (by decide) (ev_var rfl) (pows_get (by omega))) (rv_I ?_)) ea_nil) fun H3 e3 Q q => .inl ⟨_, rfl, q H3 (Ex.refl H3)⟩) ev_c (rv_I (show (2 : Int) ≠ 0 by decide))) ev_c (rv_eq rfl))
    refine wide_div h2 (b := 20) ?_ (by decide) (by decide)
    have hi9 : i < 9 := by omega
    rw [Int.natAbs_pow]
    exact Nat.pow_lt_pow_right (by decide) (by omega)
end
end Hs
namespace Hs
open PySem PySem.Spec PyProof.Rows L2 Hu Evl
section
variable {P : Program} {wd : World} {K : PySem.W.Frag} {mg : Str → Option Value} {base : Heap} {C : Addr} {fD : Addr} {dD : FuncData}
theorem At.drawn {wl : WA} {H H' : Hp} {v : V} {u : U} (D : Drawn wl H H') (h : At wl.w C H v u) : At wl.w C H' v u := h.keep fun b o nb q => D.keep b o nb q
theorem AtL.drawn {wl : WA} {H H' : Hp} {vs : List V} {us : List U} (D : Drawn wl H H') (h : AtL wl.w C H vs us) : AtL wl.w C H' vs us := h.keep fun b o nb q => D.keep b o nb q
/-! ### rows -/
def spRow (C : Addr) : Sp := fun vs H Q _ => ∃ (wl : WA) (L : Addr) (xs : List V) (us : List U), vs = [.ref wl.w, .ref L] ∧ Well H wl ∧ H L = some (.lst xs) ∧ L ≠ wl.w ∧ AtL wl.w C H xs us ∧ 1 ≤ us.length ∧ us.length ≤ 10 ∧ (∀ u ∈ us, Bd u 200 1 0) ∧
  ∀ (v : V) (u : U) (H' : Hp), Drawn wl H H' → At wl.w C H' v u → Bd u 3000 2 0 → Q v H'
theorem scRowL : FnScope ["well", "ids", "kind", "many", "k"] ["well", "ids"] (defScope lRow) := ⟨rfl, rfl, rfl, by decide +kernel, rfl, by decide +kernel, by decide +kernel⟩
theorem ok_rowL {f : Addr} {fd : FuncData} (F : Fun K "_law_row" "_law_row" lRow f fd) (B : Bt mg) (D : Dd P wd K mg base fD dD) : FnOk P wd K mg base CX0 4 f fd ["well", "ids"] (spRow C) := by
  refine F.ok scRowL (fun vs H Q E h => ?_) (fun cdv A outer s H vs Q E hr h => ?_)
  · obtain ⟨wl, L, xs, us, rfl, _⟩ := h
    rfl
  obtain ⟨wl, L, xs, us, rfl, W, hL, nL, hl, u1, u10, hb, k⟩ := h
  have GD : FnOk P wd K mg base CX0 3 fD dD ["well", "many"] spDraw := D.ok
  refine ⟨_, pss_cons (ps_set (i := 2) scRowL.nd rfl (.inl rfl) (pe_draw D hr (by decide) (by rfl) (pv 0) pe_int))
    (pss_cons (ps_if (pt_cmpR op_eq (pv 2) pe_int (nomark _)) (pss_one (ps_ret pe_non)) pss_nil)
    (Evl.pss_cut (ps_set (i := 3) scRowL.nd rfl (.inl rfl) (pe_draw D hr (by decide) (by rfl) (pv 0) (pe_ix ix_list (pe_lst (pa_cons pe_int (pa_cons pe_int pa_nil))) (pe_callTy call_int1 (by rfl) B.int boot_int (pa_cons (pe_cmpR op_eq (pv 2) pe_int (nomark _)) pa_nil)) (fun _ _ => rfl))))
    (pss_one (ps_ret (pe_callTy call_tuple_of (by rfl) B.tup boot_tuple' (pa_cons (pe_lc (own := [("k", 4)]) (g := gName 4) (tt := tYes) rfl scRowL.nd (pi_range1 (by rfl) B.range (pa_cons (pv 3) pa_nil)) (blkOk_by (N := ["well", "ids", "kind", "many", "k"]) (sc := defScope lRow) (by decide +kernel))
      (fun _ _ _ _ _ => pg_name (i := 4) scRowL.nd rfl (Or.inl rfl)) (fun _ _ _ _ _ => pts_nil)
      (fun _ _ _ _ _ => pe_ix (show IxR _ (rIxL K) from ix_list) (pv 1) (pe_call GD hr (by rfl) D.g D.kp D.b .nil pass0 (pa_cons (pv 0) (pa_cons (pe_callB (show CallR _ _ (rLenQ K) from call_len_seq) (by rfl) B.len PySem.boot_len (pa_cons (pv 1) pa_nil)) pa_nil))) (fun _ _ => rfl))) pa_nil)))))), ?_⟩
  refine ⟨_, rfl, wl, 5, rfl, W, by decide, by decide, fun d H1 d0 d1 D1 => ⟨_, rfl, rfl, _, rfl, ite2 (fun q => ?_) (fun q => ?_)⟩⟩
  · exact k _ .non H1 D1 .non ⟨by simp only [wt]; omega, Nat.zero_le _, trivial⟩
  refine ⟨fun σ' H' => ∃ m : Int, σ' = [some (.ref wl.w), some (.ref L), some (.int d), some (.int m), none] ∧ 0 ≤ m ∧ m ≤ 12 ∧ Drawn wl H H', ?_, ?_⟩
  · have go : ∀ (i : Nat) (m : Int), (if decide (V.int d = V.int 1) = true then (1 : Int) else 0) = (i : Int) → ([V.int 4, .int 13] : List V)[i]? = some (.int m) → 0 < m → m ≤ 13 → Ev (tOp (rIxL K) (tLst (tCons (tC (.int 4)) (tCons (tC (.int 13)) tNil))) (tCB (fun xs H Q => (∃ i, xs = [V.int i] ∧ Q (.int i) H) ∨ ∃ k, xs = [.bl k] ∧ Q (.int (if k then 1 else 0)) H) (tCons (tOp rEq (tVar 2) (tC (.int 1))) tNil)))
        [some (V.ref wl.w), some (.ref L), some (.int d), none, none] H1 (.int m) := fun i m ei hm _ _ =>
      ev_pick (K := K) (i := i) (ea_cons ev_c (ea_cons ev_c ea_nil)) (by decide) (ev_is (ev_cb (ea_cons (ev_op (ev_var rfl) ev_c (rv_eq rfl)) ea_nil) fun H3 e3 Q q => .inr ⟨_, rfl, q H3 (Ex.refl H3)⟩) (congrArg V.int ei)) hm
    have fin : ∀ m : Int, 0 < m → m ≤ 13 → Ev (tOp (rIxL K) (tLst (tCons (tC (.int 4)) (tCons (tC (.int 13)) tNil))) (tCB (fun xs H Q => (∃ i, xs = [V.int i] ∧ Q (.int i) H) ∨ ∃ k, xs = [.bl k] ∧ Q (.int (if k then 1 else 0)) H) (tCons (tOp rEq (tVar 2) (tC (.int 1))) tNil)))
        [some (V.ref wl.w), some (.ref L), some (.int d), none, none] H1 (.int m) → ∀ Q' : V → Hp → Prop, (∀ e H2, 0 ≤ e → e < m → Drawn wl H H2 → Q' (.int e) H2) → tCall spDraw [] E0 (tCons (tVar 0) (tCons (tOp (rIxL K) (tLst (tCons (tC (.int 4)) (tCons (tC (.int 13)) tNil))) (tCB (fun xs H Q => (∃ i, xs = [V.int i] ∧ Q (.int i) H) ∨ ∃ k, xs = [.bl k] ∧ Q (.int (if k then 1 else 0)) H) (tCons (tOp rEq (tVar 2) (tC (.int 1))) tNil))) tNil)) [some (V.ref wl.w), some (.ref L), some (.int d), none, none] H1 Q' := fun m m0 m13 ev Q' q' =>
      ⟨_, rfl, ev H1 (Ex.refl H1) _ fun H2 e2 => ⟨wl, m, rfl, D1.well.same e2, m0, by omega, fun e H3 e0 e1 D3 => q' e H3 e0 e1 ((D1.same e2).trans D3)⟩⟩
    by_cases h : d = 1
    · exact fin 13 (by decide) (by decide) (go 1 13 (by rw [h]; rfl) rfl (by decide) (by decide)) _ fun e H2 e0 e1 D2 => ⟨e, rfl, e0, by omega, D2⟩
    · exact fin 4 (by decide) (by decide) (go 0 4 (by rw [decide_eq_false (fun z => h (V.int.inj z))]; rfl) rfl (by decide) (by decide)) _ fun e H2 e0 e1 D2 => ⟨e, rfl, e0, by omega, D2⟩
  · rintro σ' H2 ⟨m, rfl, m0, m12, D2⟩
    refine ⟨_, rfl, m, rfl, by omega, by omega, fun D' hD => ?_⟩
    refine lc_range (lo := 0) (n := m.toNat) (fun i H' => Drawn wl H2 H' ∧ ∃ (vs : List V) (us' : List U), H' D' = some (.lst vs) ∧ vs.length = i ∧ AtL wl.w C H vs us' ∧ BdL us' (i * 202) 1 0)
      ⟨(Drawn.refl D2.well).new hD, [], [], upd_same, rfl, .nil, ⟨by simp [wtL], by simp [depL], trivial⟩⟩ ?_ ?_
    · rintro i H3 hi ⟨D3, vs, us', hz, hv, ha, hbl⟩
      have nD := (D2.well.ne hD).1
      have hL3 : H3 L = some (.lst xs) := (D2.trans D3).keep L _ nL hL
      have hxl := AtL.length hl
      refine ⟨rfl, _, rfl, _, rfl, _, rfl, L, xs, rfl, .inl (SqL.of hL3), wl, _, rfl, D3.well, by omega, by omega, fun d2 H4 e0 e1 D4 => ?_⟩
      obtain ⟨j, rfl⟩ : ∃ j : Nat, d2 = (j : Int) := ⟨d2.toNat, by omega⟩
      have hj : j < us.length := by omega
      obtain ⟨x, hx, hax⟩ := atl_pick hl hj
      refine ⟨L, xs, _, x, rfl, rfl, SqL.of (D4.keep L _ nL hL3), atI_nat hx, vs, D4.keep D' _ nD hz, ?_, (D3.trans D4).put D2.well hD, vs ++ [x], us' ++ [us[j]], upd_same, ?_, AtL.snoc ha hax, ?_⟩
      · have := bit_line
        unfold bit at this
        omega
      · rw [List.length_append, hv]
        rfl
      · have := hbl.snoc (hb _ (List.getElem_mem hj))
        rw [show (i + 1) * 202 = i * 202 + (200 + 2) by omega]
        exact this
    · rintro H3 ⟨D3, vs, us', hz, hv, ha, hbl⟩
      have DD := D2.trans D3
      refine ⟨D', vs, rfl, .inl ⟨SqL.of hz, fun p hp => k _ (.tup us') _ (DD.new hp) (.tup upd_same (D3.well.ne hp).1 (ex_atl (Ex.new hp) (AtL.drawn DD ha))) ((Bd.tup hbl).mono ?_ (by omega) (Nat.le_refl _))⟩⟩
      have : m.toNat ≤ 12 := by omega
      omega
end
end Hs
namespace Hs
open PySem PySem.Spec PyProof.Rows L2 Hu Evl
/-- the law's own defs that draw -/
structure Gs (P : Program) (wd : World) (K : PySem.W.Frag) (mg : Str → Option Value) (base : Heap) (C fD fN fM fT fA fC fNo fS fI fSt fR fMe : Addr) (dD dN dM dT dA dC dNo dS dI dSt dR dMe : FuncData) : Prop where
  S : Bs K mg C
  D : Dd P wd K mg base fD dD
  N : Df K mg "_law_number" lNumber ["well"] fN dN
  M : Df K mg "_law_name" lName ["well"] fM dM
  T : Df K mg "_law_string" sString ["well", "many"] fT dT
  t : FnOk P wd K mg base CX0 4 fT dT ["well", "many"] spString
  A : Df K mg "_law_any" lAny ["well", "deep"] fA dA
  Cg : Df K mg "_law_changed" lChanged ["thing", "well"] fC dC
  No : Df K mg "_law_nodes" lNodes ["thing"] fNo dNo
  Sp : Df K mg "_law_spoilt" lSpoilt ["thing", "at", "well"] fS dS
  I : Df K mg "_law_id" lId ["well"] fI dI
  St : Df K mg "_law_stamp" lStamp ["well"] fSt dSt
  R : Df K mg "_law_row" lRow ["well", "ids"] fR dR
  Me : Df K mg "_law_members" lMembers ["well"] fMe dMe
def Ms : Nat → Nat | 0 => 3300 | n + 1 => 2 * Ms n + 400
section
variable {P : Program} {wd : World} {K : PySem.W.Frag} {mg : Str → Option Value} {base : Heap} {C fD fN fM fT fA fC fNo fS fI fSt fR fMe : Addr} {dD dN dM dT dA dC dNo dS dI dSt dR dMe : FuncData}
def spThing (C : Addr) : Sp := fun vs H Q _ => ∃ wl : WA, vs = [.ref wl.w] ∧ Well H wl ∧ ∀ (v : V) (u : U) (H' : Hp), Drawn wl H H' → At wl.w C H' v u → Bd u 15000 44 2 → Q v H'
theorem scThing : FnScope ["well", "kind", "spoils", "wraps", "k", "ids", "thing", "stamp"] ["well"] (defScope lThing) := ⟨rfl, rfl, rfl, by decide +kernel, rfl, by decide +kernel, by decide +kernel⟩
theorem mem_at {w : Addr} {H : Hp} : ∀ l : List Nat, AtL w C H (l.map fun (i : Nat) => V.int (i : Int)) (l.map fun (i : Nat) => U.int (i : Int))
  | [] => .nil
  | i :: l => .cons (.int _) (mem_at l)
theorem mem_bd : ∀ l : List Nat, (∀ i ∈ l, i < 9) → BdL (l.map fun (i : Nat) => U.int (i : Int)) (l.length * 82) 0 0
  | [], _ => ⟨by simp [wtL], by simp [depL], trivial⟩
  | i :: l, h => by
    have q := (BdL.one (m := 80) (d := 0) (b := 0) (u := .int (i : Int)) ⟨by simp only [wt]; omega, Nat.zero_le _, by have := h i List.mem_cons_self; simp only [tidy]; omega⟩).append (mem_bd l fun j hj => h j (List.mem_cons_of_mem _ hj))
    rw [List.length_cons, Nat.add_mul, Nat.one_mul, Nat.add_comm (l.length * _)]
    exact q
theorem ok_thing {f : Addr} {fd : FuncData} (F : Fun K "_law_thing" "_law_thing" lThing f fd) (Z : Gs P wd K mg base C fD fN fM fT fA fC fNo fS fI fSt fR fMe dD dN dM dT dA dC dNo dS dI dSt dR dMe) : FnOk P wd K mg base CX0 40 f fd ["well"] (spThing C) := by
  have GA : ∀ n : Nat, FnOk P wd K mg base CX0 (4 + n + 1) fA dA ["well", "deep"] (spAny C n) := ok_anys Z.A Z.S Z.D Z.N Z.M Z.T Z.t
  have GC : FnOk P wd K mg base CX0 7 fC dC ["thing", "well"] (spChanged C) := ok_changed Z.Cg.F Z.S Z.D Z.A (GA 1)
  have GS : FnOk P wd K mg base CX0 39 fS dS ["thing", "at", "well"] (spSpoilt C 30) := (ok_spoilt Z.Sp Z.S Z.Cg GC Z.No 30).mono (by decide)
  have GNo : FnOk P wd K mg base CX0 39 fNo dNo ["thing"] (spNodes C 30) := (ok_nodes Z.No Z.S 30).mono (by decide)
  have GA3 : FnOk P wd K mg base CX0 39 fA dA ["well", "deep"] (spAny C 3) := (GA 3).mono (by decide)
  have GI : FnOk P wd K mg base CX0 39 fI dI ["well"] spPair := (ok_idL Z.I.F Z.D Z.N).mono (by decide)
  have GSt : FnOk P wd K mg base CX0 39 fSt dSt ["well"] spPair := (ok_stampL Z.St.F Z.D Z.N).mono (by decide)
  have GR : FnOk P wd K mg base CX0 39 fR dR ["well", "ids"] (spRow C) := (ok_rowL Z.R.F Z.S.B Z.D).mono (by decide)
  have GMe : FnOk P wd K mg base CX0 39 fMe dMe ["well"] spMem := (ok_mem Z.Me.F Z.S.B Z.D).mono (by decide)
  have GM : FnOk P wd K mg base CX0 39 fM dM ["well"] spName := (ok_name Z.M.F Z.S.B Z.D).mono (by decide)
  have GT : FnOk P wd K mg base CX0 39 fT dT ["well", "many"] spString := Z.t.mono (by decide)
  have D := Z.D
  have B := Z.S.B
  refine F.ok scThing (fun vs H Q E h => ?_) (fun cdv A outer s H vs Q E hr h => ?_)
  · obtain ⟨wl, rfl, _⟩ := h
    rfl
  obtain ⟨wl, rfl, W, k⟩ := h
  refine ⟨_, pss_cons (ps_set (i := 1) scThing.nd rfl (.inl rfl) (pe_draw D hr (by decide) (by rfl) (pv 0) pe_int))
    (Evl.pss_cut (ps_set (i := 2) scThing.nd rfl (.inl rfl) (pe_ix ix_list (pe_lst (pa_cons pe_int (pa_cons pe_int (pa_cons pe_int (pa_cons pe_int pa_nil))))) (pe_draw D hr (by decide) (by rfl) (pv 0) pe_int) (fun _ _ => rfl)))
    (Evl.pss_cut (ps_set (i := 3) scThing.nd rfl (.inl rfl) (pe_op op_mul pe_int (pe_callTy call_int1 (by rfl) B.int boot_int (pa_cons (pe_cmpR op_eq (pe_draw D hr (by decide) (by rfl) (pv 0) pe_int) pe_int (nomark _)) pa_nil))))
    (Evl.pss_cut (ps_setLc (i := 5) (own := [("k", 4)]) (g := gName 4) (tt := tYes) rfl scThing.nd rfl rfl rfl (pi_range1 (by rfl) B.range (pa_cons (pe_op op_add pe_int (pe_draw D hr (by decide) (by rfl) (pv 0) pe_int)) pa_nil)) (blkOk_by (N := ["well", "kind", "spoils", "wraps", "k", "ids", "thing", "stamp"]) (sc := defScope lThing) (by decide +kernel))
        (fun _ _ _ _ _ => pg_name (i := 4) scThing.nd rfl (Or.inl rfl)) (fun _ _ _ _ _ => pts_nil) (fun _ _ _ _ _ => pe_call GI hr (by rfl) Z.I.g Z.I.F.kp Z.I.b .nil pass0 (pa_cons (pv 0) pa_nil)))
    (Evl.pss_cut (ps_if (pt_cmpR op_eq (pv 1) pe_int (nomark _)) (pss_one (ps_set (i := 6) scThing.nd rfl (.inl rfl) (pe_call GM hr (by rfl) Z.M.g Z.M.F.kp Z.M.b .nil pass0 (pa_cons (pv 0) pa_nil))))
      (pss_one (ps_if (pt_cmpR op_eq (pv 1) pe_int (nomark _)) (pss_one (ps_set (i := 6) scThing.nd rfl (.inl rfl) (pe_call GT hr (by rfl) Z.T.g Z.T.F.kp Z.T.b .nil pass0 (pa_cons (pv 0) (pa_cons (pe_ix ix_list (pe_lst (pa_cons (pe_draw D hr (by decide) (by rfl) (pv 0) pe_int) (pa_cons (pe_op op_add pe_int (pe_draw D hr (by decide) (by rfl) (pv 0) pe_int)) pa_nil)))
          (pe_callTy call_int1 (by rfl) B.int boot_int (pa_cons (pe_cmpR op_eq (pe_draw D hr (by decide) (by rfl) (pv 0) pe_int) pe_int (nomark _)) pa_nil)) (fun _ _ => rfl)) pa_nil)))))
      (pss_one (ps_if (pt_cmpR op_eq (pv 1) pe_int (nomark _)) (pss_one (ps_set (i := 6) scThing.nd rfl (.inl rfl) (pe_call GR hr (by rfl) Z.R.g Z.R.F.kp Z.R.b .nil pass0 (pa_cons (pv 0) (pa_cons (pv 5) pa_nil)))))
      (pss_one (ps_if (pt_cmpR op_eq (pv 1) pe_int (nomark _)) (pss_cons (ps_set (i := 7) scThing.nd rfl (.inl rfl) (pe_call GSt hr (by rfl) Z.St.g Z.St.F.kp Z.St.b .nil pass0 (pa_cons (pv 0) pa_nil)))
          (pss_one (ps_set (i := 6) scThing.nd rfl (.inl rfl) (pe_tup (pa_cons (pv 7) (pa_cons (pe_call GR hr (by rfl) Z.R.g Z.R.F.kp Z.R.b .nil pass0 (pa_cons (pv 0) (pa_cons (pv 5) pa_nil))) pa_nil))))))
      (pss_one (ps_if (pt_cmpR op_eq (pv 1) pe_int (nomark _)) (pss_one (ps_set (i := 6) scThing.nd rfl (.inl rfl) (pe_call GMe hr (by rfl) Z.Me.g Z.Me.F.kp Z.Me.b .nil pass0 (pa_cons (pv 0) pa_nil))))
        (pss_one (ps_set (i := 6) scThing.nd rfl (.inl rfl) (pe_call GA3 hr (by rfl) Z.A.g Z.A.F.kp Z.A.b .nil pass0 (pa_cons (pv 0) (pa_cons pe_int pa_nil))))))))))))))
    (Evl.pss_cut (ps_for PassesOwn.never rfl (pi_range1 (by rfl) B.range (pa_cons (pv 2) pa_nil)) (pg_name (i := 4) scThing.nd rfl (Or.inl rfl))
        (pss_one (ps_set (i := 6) scThing.nd rfl (.inl rfl) (pe_call GS hr (by rfl) Z.Sp.g Z.Sp.F.kp Z.Sp.b .nil pass0 (pa_cons (pv 6) (pa_cons (pe_draw D hr (by decide) (by rfl) (pv 0) (pe_call GNo hr (by rfl) Z.No.g Z.No.F.kp Z.No.b .nil pass0 (pa_cons (pv 6) pa_nil))) (pa_cons (pv 0) pa_nil)))))))
    (Evl.pss_cut (ps_for PassesOwn.never rfl (pi_range1 (by rfl) B.range (pa_cons (pv 3) pa_nil)) (pg_name (i := 4) scThing.nd rfl (Or.inl rfl))
        (pss_one (ps_set (i := 6) scThing.nd rfl (.inl rfl) (pe_tup (pa_cons (pv 6) pa_nil)))))
    (pss_one (ps_ret (pv 6))))))))), ?_⟩
  refine ⟨_, rfl, wl, 6, rfl, W, by decide, by decide, fun kd H1 k0 k1 D1 => ?_⟩
  refine ⟨fun σ' H' => ∃ sp : Nat, σ' = [some (.ref wl.w), some (.int kd), some (.int (sp : Int)), none, none, none, none, none] ∧ sp ≤ 2 ∧ Drawn wl H H', ?_, ?_⟩
  · refine ⟨sz_of (show (4 : Nat) ≤ 100000 by decide), fun p hp => ⟨_, rfl, wl, 4, rfl, D1.well.same (same_upd hp), by decide, by decide, fun e H2 e0 e1 D2 => ?_⟩⟩
    have hp2 := D2.keep p _ (D1.well.ne hp).1 upd_same
    have DD := (D1.same (same_upd hp)).trans D2
    have he : e = 0 ∨ e = 1 ∨ e = 2 ∨ e = 3 := by omega
    rcases he with rfl | rfl | rfl | rfl
    · exact ⟨p, _, _, _, rfl, rfl, SqL.of hp2, atI_nat (j := 0) rfl, 0, rfl, by decide, DD⟩
    · exact ⟨p, _, _, _, rfl, rfl, SqL.of hp2, atI_nat (j := 1) rfl, 0, rfl, by decide, DD⟩
    · exact ⟨p, _, _, _, rfl, rfl, SqL.of hp2, atI_nat (j := 2) rfl, 1, rfl, by decide, DD⟩
    · exact ⟨p, _, _, _, rfl, rfl, SqL.of hp2, atI_nat (j := 3) rfl, 2, rfl, by decide, DD⟩
  rintro σ' H2 ⟨sp, rfl, sp2, D2⟩
  refine ⟨fun σ' H' => ∃ wr : Nat, σ' = [some (.ref wl.w), some (.int kd), some (.int (sp : Int)), some (.int (wr : Int)), none, none, none, none] ∧ wr ≤ 20 ∧ Drawn wl H H', ?_, ?_⟩
  · refine ⟨_, rfl, wl, 9, rfl, D2.well, by decide, by decide, fun e H3 e0 e1 D3 => ⟨rfl, .inr ⟨_, rfl, _, _, rfl, rfl, .inl ⟨by decide, by decide⟩, ?_⟩⟩⟩
    by_cases q : decide (V.int e = V.int 0) = true
    · refine ⟨20, ?_, by decide, D2.trans D3⟩
      rw [if_pos q]
      rfl
    · refine ⟨0, ?_, by decide, D2.trans D3⟩
      rw [if_neg q]
      rfl
  rintro σ' H3 ⟨wr, rfl, wr20, D3⟩
  refine ⟨fun σ' H' => ∃ (L : Addr) (xs : List V) (us : List U) (x4 : Option V), σ' = [some (.ref wl.w), some (.int kd), some (.int (sp : Int)), some (.int (wr : Int)), x4, some (.ref L), none, none] ∧ H' L = some (.lst xs) ∧ L ≠ wl.w ∧ AtL wl.w C H' xs us ∧ 1 ≤ us.length ∧ us.length ≤ 10 ∧ (∀ u ∈ us, Bd u 200 1 0) ∧ Drawn wl H H', ?_, ?_⟩
  · refine ⟨_, rfl, wl, 3, rfl, D3.well, by decide, by decide, fun c H4 c0 c1 D4 => ⟨_, _, rfl, rfl, 1 + c, rfl, by omega, by omega, fun D' hD => ?_⟩⟩
    have nD := (D4.well.ne hD).1
    refine lc_range (lo := 0) (n := (1 + c).toNat) (fun i H5 => Drawn wl H4 H5 ∧ ∃ (vs : List V) (us : List U), H5 D' = some (.lst vs) ∧ vs.length = i ∧ us.length = i ∧ AtL wl.w C (fresh (upd H4 D' (.lst [])) H5) vs us ∧ ∀ u ∈ us, Bd u 200 1 0)
      ⟨(Drawn.refl D4.well).new hD, [], [], upd_same, rfl, rfl, .nil, fun u hu => by cases hu⟩ ?_ ?_
    · rintro i H5 hi ⟨D5, vs, us, hz, hv, hu, ha, hb⟩
      refine ⟨rfl, _, rfl, wl, rfl, D5.well, fun a b p H6 ha1 hb1 hp D6 hp6 => ⟨vs, D6.keep D' _ nD hz, ?_, (D5.trans D6).put D4.well hD, vs ++ [.ref p], us ++ [.tup [.int a, .int b]], upd_same, ?_, ?_, fr_step D4.well hD D5 hz ha D6 (.tup (xs := [.int a, .int b]) ?_ (D5.well.ne hp).1 (.cons (.int a) (.cons (.int b) .nil))), ?_⟩⟩
      · have := bit_line
        unfold bit at this
        omega
      · rw [List.length_append, hv]
        rfl
      · rw [List.length_append, hu]
        rfl
      · rw [fr_get hp]
        exact hp6
      · intro u hu
        rcases List.mem_append.mp hu with hu | hu
        · exact hb u hu
        · rw [List.mem_singleton.mp hu]
          refine r_tup (n := 2) (m0 := 80) (d0 := 0) (b0 := 0) rfl ?_ (by decide) (by decide) (by decide)
          intro y hy
          rcases List.mem_cons.mp hy with rfl | hy
          · exact ⟨by simp only [wt]; omega, Nat.zero_le _, by simp only [tidy]; omega⟩
          · rw [List.mem_singleton.mp hy]
            exact ⟨by simp only [wt]; omega, Nat.zero_le _, by simp only [tidy]; omega⟩
    · rintro H5 ⟨D5, vs, us, hz, hv, hu, ha, hb⟩
      exact ⟨D', vs, us, _, rfl, hz, nD, atl_full ha, by omega, by omega, hb, (D3.trans D4).trans D5⟩
  rintro σ' H4 ⟨L, xs, us, x4, rfl, hL, nL, ha, u1, u10, hb, D4⟩
  refine ⟨fun σ' H' => ∃ (v : V) (u : U) (x7 : Option V), σ' = [some (.ref wl.w), some (.int kd), some (.int (sp : Int)), some (.int (wr : Int)), x4, some (.ref L), some v, x7] ∧ At wl.w C H' v u ∧ Bd u 3300 12 0 ∧ Drawn wl H H', ?_, ?_⟩
  · refine ⟨_, rfl, rfl, _, rfl, ite2 (fun q => ?_) (fun q => ?_)⟩
    · exact ⟨_, rfl, wl, rfl, D4.well, fun z H5 hz lz D5 => ⟨.str z, .str z, _, rfl, .str z, ⟨by simp only [wt]; omega, Nat.zero_le _, by simp only [tidy]; exact fun c hc => .inl (lz c hc)⟩, D4.trans D5⟩⟩
    refine ⟨_, rfl, rfl, _, rfl, ite2 (fun q => ?_) (fun q => ?_)⟩
    · refine ⟨_, rfl, _, rfl, wl, 13, rfl, D4.well, by decide, by decide, fun a H5 a0 a1 D5 => ⟨_, rfl, wl, 5, rfl, D5.well, by decide, by decide, fun b H6 b0 b1 D6 => ⟨_, _, rfl, rfl, sz_of (show (2 : Nat) ≤ 100000 by decide), fun p hp => ?_⟩⟩⟩
      refine ⟨_, rfl, wl, 3, rfl, D6.well.same (same_upd hp), by decide, by decide, fun c H7 c0 c1 D7 => ⟨rfl, .inr ⟨_, rfl, ?_⟩⟩⟩
      have hp7 := D7.keep p _ (D6.well.ne hp).1 upd_same
      have DD := ((((D4.trans D5).trans D6).same (same_upd hp)).trans D7)
      have go : ∀ (m : Int), 0 ≤ m → m ≤ 99 → ∀ (z : Str) (H8 : Hp), z.length = m.toNat → lawz z → Drawn wl H7 H8 → ∃ (v : V) (u : U) (x7 : Option V), [some (.ref wl.w), some (.int kd), some (.int (sp : Int)), some (.int (wr : Int)), x4, some (.ref L), some (.str z), none] = [some (.ref wl.w), some (.int kd), some (.int (sp : Int)), some (.int (wr : Int)), x4, some (.ref L), some v, x7] ∧ At wl.w C H8 v u ∧ Bd u 3300 12 0 ∧ Drawn wl H H8 := fun m m0 m1 z H8 hz lz D8 =>
        ⟨.str z, .str z, _, rfl, .str z, ⟨by simp only [wt]; omega, Nat.zero_le _, by simp only [tidy]; exact fun c hc => .inl (lz c hc)⟩, DD.trans D8⟩
      by_cases qc : decide (V.int c = V.int 0) = true
      · rw [if_pos qc]
        exact ⟨p, _, _, _, rfl, rfl, SqL.of hp7, atI_nat (j := 1) rfl, wl, 95 + b, rfl, D7.well, by omega, by omega, go (95 + b) (by omega) (by omega)⟩
      · rw [if_neg qc]
        exact ⟨p, _, _, _, rfl, rfl, SqL.of hp7, atI_nat (j := 0) rfl, wl, a, rfl, D7.well, by omega, by omega, go a (by omega) (by omega)⟩
    refine ⟨_, rfl, rfl, _, rfl, ite2 (fun q => ?_) (fun q => ?_)⟩
    · exact ⟨_, rfl, _, rfl, wl, L, xs, us, rfl, D4.well, hL, nL, ha, u1, u10, hb, fun v u H5 D5 hv bv => ⟨v, u, _, rfl, hv, bv.mono (by decide) (by decide) (by decide), D4.trans D5⟩⟩
    refine ⟨_, rfl, rfl, _, rfl, ite2 (fun q => ?_) (fun q => ?_)⟩
    · refine ⟨_, rfl, wl, rfl, D4.well, fun a b p H5 a1 b1 hp D5 hp5 => ⟨_, rfl, _, rfl, _, rfl, wl, L, xs, us, rfl, D5.well, D5.keep L _ nL hL, nL, AtL.drawn D5 ha, u1, u10, hb, fun v u H6 D6 hv bv => ⟨sz_of (show (2 : Nat) ≤ 100000 by decide), fun p2 hp2 => ?_⟩⟩⟩
      have hpt : At wl.w C H5 (.ref p) (.tup [.int a, .int b]) := .tup hp5 (D4.well.ne hp).1 (.cons (.int a) (.cons (.int b) .nil))
      refine ⟨.ref p2, .tup [.tup [.int a, .int b], u], _, rfl, .tup upd_same (D6.well.ne hp2).1 (ex_atl (Ex.new hp2) (.cons (At.drawn D6 hpt) (.cons hv .nil))), ?_, ((D4.trans D5).trans D6).new hp2⟩
      have bs : Bd (.tup [.int a, .int b]) 200 2 0 := by
        refine r_tup (n := 2) (m0 := 80) (d0 := 0) (b0 := 0) rfl ?_ (by decide) (by decide) (by decide)
        intro y hy
        rcases List.mem_cons.mp hy with rfl | hy
        · exact ⟨by simp only [wt]; omega, Nat.zero_le _, by simp only [tidy]; omega⟩
        · rw [List.mem_singleton.mp hy]
          exact ⟨by simp only [wt]; omega, Nat.zero_le _, by simp only [tidy]; omega⟩
      exact (Bd.tup ((BdL.one bs).append (BdL.one bv))).mono (by decide) (by decide) (by decide)
    refine ⟨_, rfl, rfl, _, rfl, ite2 (fun q => ?_) (fun q => ?_)⟩
    · refine ⟨_, rfl, wl, rfl, D4.well, fun g p H5 hp D5 hp5 => ⟨.ref p, .tup (((List.range 9).filter g).map fun (i : Nat) => U.int (i : Int)), _, rfl, .tup hp5 (D4.well.ne hp).1 (mem_at _), ?_, D4.trans D5⟩⟩
      have hl : ((List.range 9).filter g).length ≤ 9 := by
        have := List.length_filter_le g (List.range 9)
        rwa [List.length_range] at this
      refine (Bd.tup (mem_bd _ fun i hi => List.mem_range.mp (List.mem_filter.mp hi).1)).mono ?_ (by decide) (by decide)
      omega
    · exact ⟨_, rfl, wl, rfl, D4.well, fun v u H5 D5 hv bv => ⟨v, u, _, rfl, at_full hv, bv.mono (by decide) (by decide) (by decide), D4.trans D5⟩⟩
  rintro σ' H5 ⟨v, u, x7, rfl, hv, bv, D5⟩
  refine ⟨fun σ' H' => ∃ (x4 : Option V) (v : V) (u : U), σ' = [some (.ref wl.w), some (.int kd), some (.int (sp : Int)), some (.int (wr : Int)), x4, some (.ref L), some v, x7] ∧ At wl.w C H' v u ∧ Bd u (Ms sp) (12 + 6 * sp) sp ∧ Drawn wl H H', ?_, ?_⟩
  · refine ⟨_, rfl, (sp : Int), rfl, by omega, by omega, ?_⟩
    refine for_range (lo := 0) (n := ((sp : Nat) : Int).toNat) (fun i σ' H' => ∃ (x4 : Option V) (v : V) (u : U), σ' = [some (.ref wl.w), some (.int kd), some (.int (sp : Int)), some (.int (wr : Int)), x4, some (.ref L), some v, x7] ∧ At wl.w C H' v u ∧ Bd u (Ms i) (12 + 6 * i) i ∧ Drawn wl H H') ⟨x4, v, u, rfl, hv, bv, D5⟩ ?_ ?_
    · rintro i σ' H6 hi ⟨y4, v, u, rfl, hv, bv, D6⟩
      have hi2 : i < 2 := by omega
      have hms : Ms i ≤ 7000 := by
        rcases (show i = 0 ∨ i = 1 by omega) with rfl | rfl
        · decide
        · decide
      have hdep : dep u < 30 := by
        have := bv.d
        omega
      have hnod : nod u ≤ 7000 := Nat.le_trans (nod_wt u) (Nat.le_trans bv.w hms)
      have hnp := nod_pos u
      refine ⟨_, rfl, _, rfl, _, rfl, v, u, wl.w, rfl, hv, bv.fine (by omega) (by omega), hdep, fun H7 s7 => ⟨wl, (nod u : Int), rfl, D6.well.same s7, by omega, by omega, fun e H8 e0 e1 D8 => ⟨_, rfl, wl, v, u, e, Ms i, 12 + 6 * i, i, rfl, D8.well, At.drawn D8 (ex_at s7 hv), bv, by omega, by omega, hdep, e0, e1, fun v' u' H9 D9 hv' bv' => ⟨_, v', u', rfl, hv', bv', ((D6.same s7).trans D8).trans D9⟩⟩⟩⟩
    · rintro σ' H6 ⟨y4, v, u, rfl, hv, bv, D6⟩
      rw [Int.toNat_natCast] at bv
      exact ⟨y4, v, u, rfl, hv, bv, D6⟩
  rintro σ' H6 ⟨y4, v, u, rfl, hv, bv, D6⟩
  refine ⟨fun σ' H' => ∃ (x4 : Option V) (v : V) (u : U), σ' = [some (.ref wl.w), some (.int kd), some (.int (sp : Int)), some (.int (wr : Int)), x4, some (.ref L), some v, x7] ∧ At wl.w C H' v u ∧ Bd u (Ms sp + 5 * wr) (12 + 6 * sp + wr) sp ∧ Drawn wl H H', ?_, ?_⟩
  · refine ⟨_, rfl, (wr : Int), rfl, by omega, by omega, ?_⟩
    refine for_range (lo := 0) (n := ((wr : Nat) : Int).toNat) (fun i σ' H' => ∃ (x4 : Option V) (v : V) (u : U), σ' = [some (.ref wl.w), some (.int kd), some (.int (sp : Int)), some (.int (wr : Int)), x4, some (.ref L), some v, x7] ∧ At wl.w C H' v u ∧ Bd u (Ms sp + 5 * i) (12 + 6 * sp + i) sp ∧ Drawn wl H H') ⟨y4, v, u, rfl, hv, bv, D6⟩ ?_ ?_
    · rintro i σ' H7 hi ⟨z4, v, u, rfl, hv, bv, D7⟩
      refine ⟨_, rfl, sz_of (show (1 : Nat) ≤ 100000 by decide), fun p hp => ⟨_, .ref p, .tup [u], rfl, .tup upd_same (D7.well.ne hp).1 (.cons (ex_at (Ex.new hp) hv) .nil), (Bd.tup (BdL.one bv)).mono (by omega) (by omega) (Nat.le_refl _), D7.new hp⟩⟩
    · rintro σ' H7 ⟨z4, v, u, rfl, hv, bv, D7⟩
      rw [Int.toNat_natCast] at bv
      exact ⟨z4, v, u, rfl, hv, bv, D7⟩
  rintro σ' H7 ⟨z4, v, u, rfl, hv, bv, D7⟩
  have hms : Ms sp ≤ 14400 := by
    rcases (show sp = 0 ∨ sp = 1 ∨ sp = 2 by omega) with rfl | rfl | rfl
    · decide
    · decide
    · decide
  exact ⟨_, rfl, k v u H7 D7 hv (bv.mono (by omega) (by omega) (by omega))⟩
end
end Hs
/-! what is Hu.shown is short -/
namespace Hs
open PySem PySem.Spec PyProof.Rows L2 Hu Evl
mutual
theorem tidy_small {b : Nat} (hb : b ≤ 100) : ∀ u : U, tidy b u → smallU u
  | .non, _ => by simp only [smallU]
  | .bl _, _ => by simp only [smallU]
  | .int i, h => by
    simp only [tidy] at h
    simp only [smallU]
    exact Nat.lt_of_lt_of_le (PySem.Flt.log2_lt_of (k := 66) (by decide) (by omega)) (by decide)
  | .str z, _ => by simp only [smallU]
  | .tup us, h => by simp only [smallU]; exact tidyL_small hb us (by simpa only [tidy] using h)
  | .lst us, h => by simp only [smallU]; exact tidyL_small hb us (by simpa only [tidy] using h)
  | .dct us, h => by simp only [smallU]; exact tidyL_small hb us (by simpa only [tidy] using h)
  | .exc, _ => by simp only [smallU]
theorem tidyL_small {b : Nat} (hb : b ≤ 100) : ∀ us : List U, tidyL b us → smallL us
  | [], _ => by simp only [smallL]
  | u :: us, h => by simp only [smallL]; exact ⟨tidy_small hb u h.1, tidyL_small hb us h.2⟩
end
def nmT : Str := "NoTable"
theorem line_lt {z : Str} (h : lined z) : ∀ c ∈ z.cps.toList, c < 16 ^ 8 := fun c hc => Nat.lt_trans (lined_lt h c hc) (by decide)
mutual
theorem shown_wt {b : Nat} (hb : b ≤ 100) : ∀ u : U, tidy b u → (Hu.shown nmT u).length ≤ 10 * wt u
  | .non, _ => by simp only [Hu.shown, wt]; decide +kernel
  | .bl x, _ => by cases x <;> simp only [Hu.shown, wt] <;> decide +kernel
  | .int i, h => by
    simp only [tidy] at h
    simp only [Hu.shown, wt]
    have := int_text_length_le (a := i) (k := 66) (by decide) (PySem.Flt.log2_lt_of (k := 66) (by decide) (by omega))
    rw [PySem.ofString_length]
    omega
  | .str z, h => by
    have hz : lined z := by simp only [tidy] at h; exact h
    have := StrLaws.reprText_len z (line_lt hz)
    simp only [Hu.shown, wt]
    omega
  | .tup us, h => by
    have := tupleText_len_le (shownL nmT us)
    have := shownL_wt hb us (by simpa only [tidy] using h)
    simp only [Hu.shown, wt]
    omega
  | .lst us, h => by
    have := listText_len_le (shownL nmT us)
    have := shownL_wt hb us (by simpa only [tidy] using h)
    simp only [Hu.shown, wt]
    omega
  | .dct us, h => by
    have h1 := listText_len_le (shownL nmT us)
    have h2 := shownL_wt hb us (by simpa only [tidy] using h)
    have h3 := dictText_len_le [reprText "a" ++ ": " ++ listText (shownL nmT us), (toString (1 : Int) : Str) ++ ": " ++ "None"]
    simp only [Hu.shown, wt]
    simp only [List.map_cons, List.map_nil, List.sum_cons, List.sum_nil, List.length_cons, List.length_nil] at h3
    have e1 : (reprText "a" ++ ": " ++ listText (shownL nmT us)).length = 5 + (listText (shownL nmT us)).length := by
      rw [len_add, show (reprText "a" ++ ": ").length = 5 by decide +kernel]
    have e2 : ((toString (1 : Int) : Str) ++ ": " ++ "None").length = 7 := by decide +kernel
    rw [e1, e2] at h3
    omega
  | .exc, _ => by simp only [Hu.shown, wt]; decide +kernel
theorem shownL_wt {b : Nat} (hb : b ≤ 100) : ∀ us : List U, tidyL b us → ((shownL nmT us).map (·.length)).sum + 2 * (shownL nmT us).length ≤ 10 * wtL us
  | [], _ => by simp [shownL]
  | u :: us, h => by
    have h1 := shown_wt hb u h.1
    have h2 := shownL_wt hb us h.2
    simp only [shownL, wtL, List.map_cons, List.sum_cons, List.length_cons]
    omega
end
end Hs
/-! the law -/
namespace Hs
open PySem PySem.Spec PyProof.Rows L2 Hu Evl
/-- all that the law's run reaches -/
structure La (K : PySem.W.Frag) (mg : Str → Option Value) : Prop where
  B : Bt mg
  N : Cn mg
  E : ∃ C, Xc K mg "NoTable" C "NoTable"
  eM : ∃ C, Ec K mg "NoMembers" C
  eT : ∃ C, Ec K mg "NoText" C
  eP : ∃ C, Ec K mg "NoPieces" C
  H : ∃ C, mg "HomeError" = some (.ref C)
  d_law_mixed : ∃ (f : Addr) (d : FuncData), Df K mg "_law_mixed" sMixed ["number"] f d
  d_law_filled : ∃ (f : Addr) (d : FuncData), Df K mg "_law_filled" sFilled ["well"] f d
  d_law_draw : ∃ (f : Addr) (d : FuncData), Df K mg "_law_draw" sDraw ["well", "many"] f d
  d_law_signs : ∃ (f : Addr) (d : FuncData), Df K mg "_law_signs" sSigns [] f d
  d_law_string : ∃ (f : Addr) (d : FuncData), Df K mg "_law_string" sString ["well", "many"] f d
  d_law_well : ∃ (f : Addr) (d : FuncData), Df K mg "_law_well" sWell ["script"] f d
  dis_integer : ∃ (f : Addr) (d : FuncData), Df K mg "is_integer" sIsInt ["thing"] f d
  dis_from_one : ∃ (f : Addr) (d : FuncData), Df K mg "is_from_one" sFromOne ["thing"] f d
  dis_pair : ∃ (f : Addr) (d : FuncData), Df K mg "is_pair" sPair ["thing"] f d
  dis_signs : ∃ (f : Addr) (d : FuncData), Df K mg "is_signs" sIsSigns ["thing"] f d
  dis_ascending : ∃ (f : Addr) (d : FuncData), Df K mg "is_ascending" sAscending ["things"] f d
  dis_home : ∃ (f : Addr) (d : FuncData), Df K mg "is_home" sHome ["thing"] f d
  dis_hand : ∃ (f : Addr) (d : FuncData), Df K mg "is_hand" sHand ["thing"] f d
  dis_name : ∃ (f : Addr) (d : FuncData), Df K mg "is_name" sName ["thing"] f d
  dis_text : ∃ (f : Addr) (d : FuncData), Df K mg "is_text" sText ["thing"] f d
  dis_piece : ∃ (f : Addr) (d : FuncData), Df K mg "is_piece" sPiece ["thing"] f d
  dis_block_id : ∃ (f : Addr) (d : FuncData), Df K mg "is_block_id" sBlockId ["thing"] f d
  dis_row : ∃ (f : Addr) (d : FuncData), Df K mg "is_row" sRow ["thing"] f d
  dis_stamp : ∃ (f : Addr) (d : FuncData), Df K mg "is_stamp" sStamp ["thing"] f d
  dis_head : ∃ (f : Addr) (d : FuncData), Df K mg "is_head" sHead ["thing"] f d
  dis_members : ∃ (f : Addr) (d : FuncData), Df K mg "is_members" sMembers ["thing"] f d
  dmajority : ∃ (f : Addr) (d : FuncData), Df K mg "majority" sMajority ["members"] f d
  dfew : ∃ (f : Addr) (d : FuncData), Df K mg "few" sFew ["members"] f d
  dchopped : ∃ (f : Addr) (d : FuncData), Df K mg "chopped" sChopped ["text"] f d
  djoined : ∃ (f : Addr) (d : FuncData), Df K mg "joined" sJoined ["pieces"] f d
  d_law_number : ∃ (f : Addr) (d : FuncData), Df K mg "_law_number" lNumber ["well"] f d
  d_law_name : ∃ (f : Addr) (d : FuncData), Df K mg "_law_name" lName ["well"] f d
  d_law_any : ∃ (f : Addr) (d : FuncData), Df K mg "_law_any" lAny ["well", "deep"] f d
  d_law_nodes : ∃ (f : Addr) (d : FuncData), Df K mg "_law_nodes" lNodes ["thing"] f d
  d_law_changed : ∃ (f : Addr) (d : FuncData), Df K mg "_law_changed" lChanged ["thing", "well"] f d
  d_law_spoilt : ∃ (f : Addr) (d : FuncData), Df K mg "_law_spoilt" lSpoilt ["thing", "at", "well"] f d
  d_law_id : ∃ (f : Addr) (d : FuncData), Df K mg "_law_id" lId ["well"] f d
  d_law_stamp : ∃ (f : Addr) (d : FuncData), Df K mg "_law_stamp" lStamp ["well"] f d
  d_law_row : ∃ (f : Addr) (d : FuncData), Df K mg "_law_row" lRow ["well", "ids"] f d
  d_law_members : ∃ (f : Addr) (d : FuncData), Df K mg "_law_members" lMembers ["well"] f d
  d_law_count : ∃ (f : Addr) (d : FuncData), Df K mg "_law_count" lCount ["thing"] f d
  d_law_long : ∃ (f : Addr) (d : FuncData), Df K mg "_law_long" lLong ["thing", "many"] f d
  d_law_rising : ∃ (f : Addr) (d : FuncData), Df K mg "_law_rising" lRising ["things"] f d
  d_law_name_fits : ∃ (f : Addr) (d : FuncData), Df K mg "_law_name_fits" lNameFits ["thing"] f d
  d_law_hand_fits : ∃ (f : Addr) (d : FuncData), Df K mg "_law_hand_fits" lHandFits ["thing"] f d
  d_law_signs_fit : ∃ (f : Addr) (d : FuncData), Df K mg "_law_signs_fit" lSignsFit ["thing", "least", "most"] f d
  d_law_id_fits : ∃ (f : Addr) (d : FuncData), Df K mg "_law_id_fits" lIdFits ["thing"] f d
  d_law_stamp_fits : ∃ (f : Addr) (d : FuncData), Df K mg "_law_stamp_fits" lStampFits ["thing"] f d
  d_law_row_fits : ∃ (f : Addr) (d : FuncData), Df K mg "_law_row_fits" lRowFits ["thing"] f d
  d_law_members_fit : ∃ (f : Addr) (d : FuncData), Df K mg "_law_members_fit" lMembersFit ["thing"] f d
  d_law_thing : ∃ (f : Addr) (d : FuncData), Df K mg "_law_thing" lThing ["well"] f d
  d_law_flags_due : ∃ (f : Addr) (d : FuncData), Df K mg "_law_flags_due" lFlagsDue ["thing"] f d
  d_law_flags_told : ∃ (f : Addr) (d : FuncData), Df K mg "_law_flags_told" lFlagsTold ["thing"] f d
  d_law_counted : ∃ (f : Addr) (d : FuncData), Df K mg "_law_counted" lCounted ["ask", "thing"] f d
  d_law_members_hold : ∃ (f : Addr) (d : FuncData), Df K mg "_law_members_hold" lMembersHold ["thing", "right"] f d
  d_law_text_refused : ∃ (f : Addr) (d : FuncData), Df K mg "_law_text_refused" lTextRefused ["thing"] f d
  d_law_pieces_refused : ∃ (f : Addr) (d : FuncData), Df K mg "_law_pieces_refused" lPiecesRefused ["thing"] f d
  d_law_pieces_fit : ∃ (f : Addr) (d : FuncData), Df K mg "_law_pieces_fit" lPiecesFit ["thing"] f d
theorem boot_repr' : bootBuiltins "repr" = some (.builtin "repr") := by decide +kernel
abbrev rRep (C : Addr) : List V → Hp → VK → Prop := fun xs H Q => ∃ (v : V) (u : U) (w : Addr), xs = [v] ∧ At w C H v u ∧ smallU u ∧ dep u ≤ 60 ∧ (Hu.shown nmT u).length ≤ sizeLine ∧ Q (.str (Hu.shown nmT u)) H
section
variable {σ : L2.St} {H : Hp} {te : TE} {v : V} {u : U} {w C : Addr} {t : TT} {tu tw tz : TS} {D : Ends}
theorem ev_repr (h : Ev te σ H v) (hat : At w C H v u) (bd : Bd u 15000 44 2) : Ev (tCB (rRep C) (tCons te tNil)) σ H (.str (Hu.shown nmT u)) :=
  ev_cb (ea_cons h ea_nil) fun H1 e Q q => ⟨v, u, w, rfl, ex_at e hat, tidy_small (by decide) _ bd.c, by have := bd.d; omega, len_fine (by have := shown_wt (b := 2) (by decide) u bd.c; have := bd.w; omega), q H1 (Ex.refl H1)⟩
theorem s_next (h : D.nx σ H) : tNext D σ H := h
theorem q_if {b : Bool} (h : EvT t σ H b) (h1 : b = true → ∀ H1, Ex H H1 → tu { D with nx := tz D } σ H1) (h2 : b = false → ∀ H1, Ex H H1 → tw { D with nx := tz D } σ H1) : tSeq (tIfS t tu tw) tz D σ H := s_if (D := { D with nx := tz D }) h h1 h2
end
section
variable {P : Program} {wd : World} {K : PySem.W.Frag} {mg : Str → Option Value} {base : Heap} {C : Addr}
theorem scLaw : FnScope ["script", "well", "turn", "thing", "before", "due", "told", "k"] ["script"] (defScope lLaw) := ⟨rfl, rfl, rfl, by decide +kernel, rfl, by decide +kernel, by decide +kernel⟩
theorem flags_get {u : U} {j : Nat} (h : j < 5) : ∃ b, (flags u)[j]? = some (.bl b) := by
  match j, h with
  | 0, _ | 1, _ | 2, _ | 3, _ | 4, _ => exact ⟨_, rfl⟩
theorem spl_fl {H : Hp} {v : V} {u : U} {w : Addr} (hat : At w C H v u) (fi : Fine u) : SpL (spFl C) [v] H (flags u) := fun H1 e Q q E => ⟨v, u, w, rfl, ex_at e hat, fi, fun p H' hp s h => q p H' hp s h⟩
theorem spv_mh {H : Hp} {v : V} {u : U} {w : Addr} (hat : At w C H v u) (fi : Fine u) : SpV (spMH C) [v, .bl (gMembers u)] H (.bl true) := fun H1 e Q q E => ⟨v, u, w, rfl, ex_at e hat, fi, q⟩
theorem spv_RT {H : Hp} {v : V} {u : U} {w : Addr} {g : U → Bool} (hat : At w C H v u) (fi : Fine u) : SpV (spRT C g) [v] H (.str (told g u)) := fun H1 e Q q E => ⟨v, u, w, rfl, ex_at e hat, fi, q⟩
def bi (b : Bool) : Nat := if b = true then 1 else 0
theorem told_get (g : U → Bool) (u : U) : ([V.str "refused", .str "let"] : List V)[bi (g u)]? = some (.str (told g u)) := by
  unfold bi told
  cases g u <;> rfl
abbrev rInt1 : List V → Hp → VK → Prop := fun xs H Q => (∃ i, xs = [V.int i] ∧ Q (.int i) H) ∨ ∃ k, xs = [.bl k] ∧ Q (.int (if k then 1 else 0)) H
theorem ev_bi {σ : L2.St} {H : Hp} {te : TE} {b : Bool} (h : Ev te σ H (.bl b)) : Ev (tCB rInt1 (tCons te tNil)) σ H (.int ((bi b : Nat) : Int)) := ev_is (ev_cb (ea_cons h ea_nil) fun H3 e3 Q q => .inr ⟨_, rfl, q H3 (Ex.refl H3)⟩) (by cases b <;> rfl)
theorem ev_told {σ : L2.St} {H : Hp} {te : TE} {g : U → Bool} {u : U} (h : Ev te σ H (.bl (g u))) : Ev (tOp (rIxL K) (tLst (tCons (tC (.str "refused")) (tCons (tC (.str "let")) tNil))) (tCB rInt1 (tCons te tNil))) σ H (.str (told g u)) :=
  ev_pick (ea_cons ev_c (ea_cons ev_c ea_nil)) (show (2 : Nat) ≤ 100000 by decide) (ev_bi h) (told_get g u)
theorem ev_ixQ {σ : L2.St} {H : Hp} {ta tb : TE} {p : Addr} {xs : List V} {j : Nat} {i : Int} {v : V} (ha : Ev ta σ H (.ref p)) (hb : Ev tb σ H (.int i)) (hi : i = (j : Int)) (hp : H p = some (.lst xs)) (hv : xs[j]? = some v) : Ev (tOp (rIxL K) ta tb) σ H v :=
  ev_op ha hb (rv_ixL (sq_of hp) (by rw [hi]; exact atI_nat hv))
theorem law_body (L : La K mg) {A : Around} {outer : List Env} {s : Shared} {H : Hp} {fa : Addr} {cdv : Value} {a : Addr} {ns : List Int} {E : XK} (hS : SqL K H a (ns.map V.int)) (hr : Room 40 (A.deeper (envOfC "law" (defScope lLaw) s.heap.objs.size fa cdv))) (bare : (A.deeper (envOfC "law" (defScope lLaw) s.heap.objs.size fa cdv)).guards = some []) :
    ∃ t, PSs (cxOf CX0 P wd K mg base ["script", "well", "turn", "thing", "before", "due", "told", "k"] "law" (defScope lLaw) fa cdv A outer s H E) (defBody lLaw) t ∧ t { nx := fun _ H' => (fun (v : V) (_ : Hp) => v = .bl true) .non H', rt := fun v _ => v = .bl true } (L2.start ["script", "well", "turn", "thing", "before", "due", "told", "k"] [.ref a]) H := by
  obtain ⟨f__law_mixed, d__law_mixed, D__law_mixed⟩ := L.d_law_mixed
  obtain ⟨f__law_filled, d__law_filled, D__law_filled⟩ := L.d_law_filled
  obtain ⟨f__law_draw, d__law_draw, D__law_draw⟩ := L.d_law_draw
  obtain ⟨f__law_signs, d__law_signs, D__law_signs⟩ := L.d_law_signs
  obtain ⟨f__law_string, d__law_string, D__law_string⟩ := L.d_law_string
  obtain ⟨f__law_well, d__law_well, D__law_well⟩ := L.d_law_well
  obtain ⟨f_is_integer, d_is_integer, D_is_integer⟩ := L.dis_integer
  obtain ⟨f_is_from_one, d_is_from_one, D_is_from_one⟩ := L.dis_from_one
  obtain ⟨f_is_pair, d_is_pair, D_is_pair⟩ := L.dis_pair
  obtain ⟨f_is_signs, d_is_signs, D_is_signs⟩ := L.dis_signs
  obtain ⟨f_is_ascending, d_is_ascending, D_is_ascending⟩ := L.dis_ascending
  obtain ⟨f_is_home, d_is_home, D_is_home⟩ := L.dis_home
  obtain ⟨f_is_hand, d_is_hand, D_is_hand⟩ := L.dis_hand
  obtain ⟨f_is_name, d_is_name, D_is_name⟩ := L.dis_name
  obtain ⟨f_is_text, d_is_text, D_is_text⟩ := L.dis_text
  obtain ⟨f_is_piece, d_is_piece, D_is_piece⟩ := L.dis_piece
  obtain ⟨f_is_block_id, d_is_block_id, D_is_block_id⟩ := L.dis_block_id
  obtain ⟨f_is_row, d_is_row, D_is_row⟩ := L.dis_row
  obtain ⟨f_is_stamp, d_is_stamp, D_is_stamp⟩ := L.dis_stamp
  obtain ⟨f_is_head, d_is_head, D_is_head⟩ := L.dis_head
  obtain ⟨f_is_members, d_is_members, D_is_members⟩ := L.dis_members
  obtain ⟨f_majority, d_majority, D_majority⟩ := L.dmajority
  obtain ⟨f_few, d_few, D_few⟩ := L.dfew
  obtain ⟨f_chopped, d_chopped, D_chopped⟩ := L.dchopped
  obtain ⟨f_joined, d_joined, D_joined⟩ := L.djoined
  obtain ⟨f__law_number, d__law_number, D__law_number⟩ := L.d_law_number
  obtain ⟨f__law_name, d__law_name, D__law_name⟩ := L.d_law_name
  obtain ⟨f__law_any, d__law_any, D__law_any⟩ := L.d_law_any
  obtain ⟨f__law_nodes, d__law_nodes, D__law_nodes⟩ := L.d_law_nodes
  obtain ⟨f__law_changed, d__law_changed, D__law_changed⟩ := L.d_law_changed
  obtain ⟨f__law_spoilt, d__law_spoilt, D__law_spoilt⟩ := L.d_law_spoilt
  obtain ⟨f__law_id, d__law_id, D__law_id⟩ := L.d_law_id
  obtain ⟨f__law_stamp, d__law_stamp, D__law_stamp⟩ := L.d_law_stamp
  obtain ⟨f__law_row, d__law_row, D__law_row⟩ := L.d_law_row
  obtain ⟨f__law_members, d__law_members, D__law_members⟩ := L.d_law_members
  obtain ⟨f__law_count, d__law_count, D__law_count⟩ := L.d_law_count
  obtain ⟨f__law_long, d__law_long, D__law_long⟩ := L.d_law_long
  obtain ⟨f__law_rising, d__law_rising, D__law_rising⟩ := L.d_law_rising
  obtain ⟨f__law_name_fits, d__law_name_fits, D__law_name_fits⟩ := L.d_law_name_fits
  obtain ⟨f__law_hand_fits, d__law_hand_fits, D__law_hand_fits⟩ := L.d_law_hand_fits
  obtain ⟨f__law_signs_fit, d__law_signs_fit, D__law_signs_fit⟩ := L.d_law_signs_fit
  obtain ⟨f__law_id_fits, d__law_id_fits, D__law_id_fits⟩ := L.d_law_id_fits
  obtain ⟨f__law_stamp_fits, d__law_stamp_fits, D__law_stamp_fits⟩ := L.d_law_stamp_fits
  obtain ⟨f__law_row_fits, d__law_row_fits, D__law_row_fits⟩ := L.d_law_row_fits
  obtain ⟨f__law_members_fit, d__law_members_fit, D__law_members_fit⟩ := L.d_law_members_fit
  obtain ⟨f__law_thing, d__law_thing, D__law_thing⟩ := L.d_law_thing
  obtain ⟨f__law_flags_due, d__law_flags_due, D__law_flags_due⟩ := L.d_law_flags_due
  obtain ⟨f__law_flags_told, d__law_flags_told, D__law_flags_told⟩ := L.d_law_flags_told
  obtain ⟨f__law_counted, d__law_counted, D__law_counted⟩ := L.d_law_counted
  obtain ⟨f__law_members_hold, d__law_members_hold, D__law_members_hold⟩ := L.d_law_members_hold
  obtain ⟨f__law_text_refused, d__law_text_refused, D__law_text_refused⟩ := L.d_law_text_refused
  obtain ⟨f__law_pieces_refused, d__law_pieces_refused, D__law_pieces_refused⟩ := L.d_law_pieces_refused
  obtain ⟨f__law_pieces_fit, d__law_pieces_fit, D__law_pieces_fit⟩ := L.d_law_pieces_fit
  obtain ⟨C, XE⟩ := L.E
  obtain ⟨CM, EM⟩ := L.eM
  obtain ⟨CT, ET⟩ := L.eT
  obtain ⟨CP, EP⟩ := L.eP
  obtain ⟨CH, gH⟩ := L.H
  have B := L.B
  have N := L.N
  have S : Bs K mg C := ⟨B, XE⟩
  have R : Dr P wd K mg base f__law_mixed f__law_filled f__law_draw f__law_signs f__law_string d__law_mixed d__law_filled d__law_draw d__law_signs d__law_string := ⟨D__law_mixed, D__law_filled, D__law_draw, D__law_signs, D__law_string, B⟩
  have D : Dd P wd K mg base f__law_draw d__law_draw := ⟨ok_draw D__law_draw.F B D__law_mixed D__law_filled, D__law_draw.g, D__law_draw.F.kp, D__law_draw.b⟩
  have GT : FnOk P wd K mg base CX0 4 f__law_string d__law_string ["well", "many"] spString := ok_string R
  have GW : FnOk P wd K mg base CX0 40 f__law_well d__law_well ["script"] (spWell K) := (ok_well D__law_well.F B).mono (by decide)
  have GTh : FnOk P wd K mg base CX0 40 f__law_thing d__law_thing ["well"] (spThing C) := ok_thing D__law_thing.F ⟨S, D, D__law_number, D__law_name, D__law_string, GT, D__law_any, D__law_changed, D__law_nodes, D__law_spoilt, D__law_id, D__law_stamp, D__law_row, D__law_members⟩
  have JI : Jd P wd K mg base C 1 "is_integer" "thing" _ _ gInt := jd_int D_is_integer S
  have JF : Jd P wd K mg base C 2 "is_from_one" "thing" _ _ gFrom := jd_from D_is_from_one S JI
  have JH : Jd P wd K mg base C 2 "is_hand" "thing" _ _ gHand := jd_hand D_is_hand S N JI
  have JHo : Jd P wd K mg base C 2 "is_home" "thing" _ _ gHome := jd_home D_is_home S N JI
  have JP : Jd P wd K mg base C 1 "is_pair" "thing" _ _ gPair := jd_pair D_is_pair S
  have JS : Jd P wd K mg base C 1 "is_signs" "thing" _ _ gSigns := jd_signs D_is_signs S
  have JN : Jd P wd K mg base C 2 "is_name" "thing" _ _ gNam := jd_name D_is_name S N
  have JT : Jd P wd K mg base C 2 "is_text" "thing" _ _ gText := jd_text D_is_text S N JS
  have JPi : Jd P wd K mg base C 2 "is_piece" "thing" _ _ gPiece := jd_piece D_is_piece S N JS
  have JId : Jd P wd K mg base C 3 "is_block_id" "thing" _ _ gId := jd_id D_is_block_id S JP JH JF
  have JR : Jd P wd K mg base C 4 "is_row" "thing" _ _ gRow := jd_row D_is_row S N JId
  have JSt : Jd P wd K mg base C 3 "is_stamp" "thing" _ _ gStamp := jd_stamp D_is_stamp S JP JI JF JH
  have JHe : Jd P wd K mg base C 5 "is_head" "thing" _ _ gHead := jd_head D_is_head S JP JSt JR
  have JM : Jd P wd K mg base C 4 "is_members" "thing" _ _ gMembers := jd_members D_is_members S N JHo D_is_ascending
  have LC : Jd P wd K mg base C 1 "_law_count" "thing" _ _ gCount := jl_count D__law_count S
  have LN : Jd P wd K mg base C 2 "_law_name_fits" "thing" _ _ gNam := jl_name D__law_name_fits S
  have LH : Jd P wd K mg base C 2 "_law_hand_fits" "thing" _ _ gHand := jl_hand D__law_hand_fits S LC
  have LI : Jd P wd K mg base C 3 "_law_id_fits" "thing" _ _ gId := jl_id D__law_id_fits S D__law_long LH LC
  have LS : Jd P wd K mg base C 3 "_law_stamp_fits" "thing" _ _ gStamp := jl_stamp D__law_stamp_fits S D__law_long LH LC
  have LR : Jd P wd K mg base C 4 "_law_row_fits" "thing" _ _ gRow := jl_row D__law_row_fits S LI
  have LM : Jd P wd K mg base C 4 "_law_members_fit" "thing" _ _ gMembers := jl_members D__law_members_fit S LC D__law_rising
  have LP : Jd P wd K mg base C 3 "_law_pieces_fit" "thing" _ _ gPieces := jl_pieces D__law_pieces_fit S D__law_signs_fit D__law_signs
  have GDu : FnOk P wd K mg base CX0 40 f__law_flags_due d__law_flags_due ["thing"] (spFl C) := (ok_flagsDue D__law_flags_due.F S LN D__law_long LR LS LM D__law_signs_fit D__law_signs).mono (by decide)
  have GTo : FnOk P wd K mg base CX0 40 f__law_flags_told d__law_flags_told ["thing"] (spFl C) := (ok_flagsTold D__law_flags_told.F S JN JT JR JHe JM).mono (by decide)
  have GMH : FnOk P wd K mg base CX0 40 f__law_members_hold d__law_members_hold ["thing", "right"] (spMH C) := (ok_mh D__law_members_hold.F S JM D_majority D_few D__law_counted LC EM gH).mono (by decide)
  have GTR : FnOk P wd K mg base CX0 40 f__law_text_refused d__law_text_refused ["thing"] (spRT C gText) := (ok_tr D__law_text_refused.F S N JT D_chopped ET gH).mono (by decide)
  have GPR : FnOk P wd K mg base CX0 40 f__law_pieces_refused d__law_pieces_refused ["thing"] (spRT C gPieces) := (ok_pr D__law_pieces_refused.F S N JPi D_joined EP gH).mono (by decide)
  suffices hh : ∃ t, PSs (cxOf CX0 P wd K mg base ["script", "well", "turn", "thing", "before", "due", "told", "k"] "law" (defScope lLaw) fa cdv A outer s H E).nox (defBody lLaw) t ∧ t { nx := fun _ H' => (fun (v : V) (_ : Hp) => v = .bl true) .non H', rt := fun v _ => v = .bl true } (L2.start ["script", "well", "turn", "thing", "before", "due", "told", "k"] [.ref a]) H by
    obtain ⟨t, h, q⟩ := hh
    exact ⟨t, h.nox, q⟩
  refine ⟨_, pss_cons (ps_set (i := 1) scLaw.nd rfl (.inl rfl) (pe_call GW hr (by rfl) D__law_well.g D__law_well.F.kp D__law_well.b .nil pass0 (pa_cons (pv 0) pa_nil)))
    (pss_cons (ps_for PassesOwn.never rfl (pi_range1 (by rfl) B.range (pa_cons (pe_op op_add pe_int (pe_draw D hr (by decide) (by rfl) (pv 1) pe_int)) pa_nil)) (pg_name (i := 2) scLaw.nd rfl (Or.inl rfl))
      (pss_cons (ps_set (i := 3) scLaw.nd rfl (.inl rfl) (pe_call GTh hr (by rfl) D__law_thing.g D__law_thing.F.kp D__law_thing.b .nil pass0 (pa_cons (pv 1) pa_nil)))
      (pss_cons (ps_set (i := 4) scLaw.nd rfl (.inl rfl) (pe_callB (call_reprU (nm := nmT) hr bare S.E.r) (by rfl) B.rep boot_repr' (pa_cons (pv 3) pa_nil)))
      (pss_cons (ps_set (i := 5) scLaw.nd rfl (.inl rfl) (pe_call GDu hr (by rfl) D__law_flags_due.g D__law_flags_due.F.kp D__law_flags_due.b .nil pass0 (pa_cons (pv 3) pa_nil)))
      (pss_cons (ps_set (i := 6) scLaw.nd rfl (.inl rfl) (pe_call GTo hr (by rfl) D__law_flags_told.g D__law_flags_told.F.kp D__law_flags_told.b .nil pass0 (pa_cons (pv 3) pa_nil)))
      (Evl.pss_cut (ps_for PassesOwn.never rfl (pi_range1 (by rfl) B.range (pa_cons pe_int pa_nil)) (pg_name (i := 7) scLaw.nd rfl (Or.inl rfl))
        (pss_one (ps_if (PW.pt (pw_or (pt_not (pt_val (pe_isiX S (by rfl) (by rfl) S.B.boo boot_bool' (by decide) (pe_ix ix_list (pv 6) (pv 7) (fun _ _ => rfl)) (by decide) (by decide)))) (pw_or1 (pt_cmpR op_ne (pe_ix ix_list (pv 6) (pv 7) (fun _ _ => rfl)) (pe_ix ix_list (pv 5) (pv 7) (fun _ _ => rfl)) (nomark _)))))
          (pss_one (ps_ret pe_bl)) pss_nil)))
      (pss_cons (ps_if (pt_not (pt_val (pe_call GMH hr (by rfl) D__law_members_hold.g D__law_members_hold.F.kp D__law_members_hold.b .nil pass0 (pa_cons (pv 3) (pa_cons (pe_ix ix_list (pv 5) pe_int (fun _ _ => rfl)) pa_nil))))) (pss_one (ps_ret pe_bl)) pss_nil)
      (pss_cons (ps_if (pt_cmpR op_ne (pe_call GTR hr (by rfl) D__law_text_refused.g D__law_text_refused.F.kp D__law_text_refused.b .nil pass0 (pa_cons (pv 3) pa_nil)) (pe_ix ix_list (pe_lst (pa_cons pe_str (pa_cons pe_str pa_nil))) (pe_callTy call_int1 (by rfl) B.int boot_int (pa_cons (pe_ix ix_list (pv 5) pe_int (fun _ _ => rfl)) pa_nil)) (fun _ _ => rfl)) (nomark _)) (pss_one (ps_ret pe_bl)) pss_nil)
      (pss_cons (ps_if (pt_cmpR op_ne (pe_call GPR hr (by rfl) D__law_pieces_refused.g D__law_pieces_refused.F.kp D__law_pieces_refused.b .nil pass0 (pa_cons (pv 3) pa_nil)) (pe_ix ix_list (pe_lst (pa_cons pe_str (pa_cons pe_str pa_nil))) (pe_callTy call_int1 (by rfl) B.int boot_int (pa_cons (pe_J LP hr (by decide) (by rfl) pass0 (pv 3)) pa_nil)) (fun _ _ => rfl)) (nomark _)) (pss_one (ps_ret pe_bl)) pss_nil)
      (pss_one (ps_if (pt_cmpR op_ne (pe_callB (call_reprU (nm := nmT) hr bare S.E.r) (by rfl) B.rep boot_repr' (pa_cons (pv 3) pa_nil)) (pv 4) (nomark _)) (pss_one (ps_ret pe_bl)) pss_nil)))))))))))
    (pss_one (ps_ret pe_bl))), ?_⟩
  refine ⟨_, rfl, a, ns, rfl, hS, fun wl H1 s1 W => ?_⟩
  refine ⟨_, rfl, wl, 9, rfl, W, by decide, by decide, fun c H2 c0 c1 D2 => ⟨_, _, rfl, rfl, 2 + c, rfl, by omega, by omega, ?_⟩⟩
  refine for_range (lo := 0) (n := (2 + c).toNat) (fun i σ H' => ∃ x2 x3 x4 x5 x6 x7 : Option V, σ = [some (.ref a), some (.ref wl.w), x2, x3, x4, x5, x6, x7] ∧ Well H' wl) ⟨none, none, none, none, none, none, rfl, D2.well⟩ ?_ ?_
  · rintro i σ H3 hi ⟨x2, x3, x4, x5, x6, x7, rfl, W3⟩
    refine ⟨_, rfl, wl, rfl, W3, fun v u H4 D4 hv bv => ?_⟩
    have fi : Fine u := bv.fine (by omega) (by omega)
    dsimp only [gName]
    refine q_asg (ev_repr (C := C) (ev_var rfl) hv bv) fun H5 e5 => ?_
    refine q_asgL (xs := flags u) (el_call (ea_cons (ev_var rfl) ea_nil) (spl_fl (ex_at e5 hv) fi)) fun p6 H6 hp6 e6 h6 => ?_
    refine q_asgL (xs := flags u) (el_call (ea_cons (ev_var rfl) ea_nil) (spl_fl (ex_at (e5.trans e6) hv) fi)) fun p7 H7 hp7 e7 h7 => ?_
    refine ⟨fun σ' H' => ∃ y7 : Option V, σ' = [some (.ref a), some (.ref wl.w), some (.int (0 + (i : Int))), some v, some (.str (Hu.shown nmT u)), some (.ref p6), some (.ref p7), y7] ∧ Ex H7 H', ?_, ?_⟩
    · refine ⟨5, rfl, by decide, by decide, ?_⟩
      refine for_range (lo := 0) (n := 5) (fun j σ' H' => ∃ y7 : Option V, σ' = [some (.ref a), some (.ref wl.w), some (.int (0 + (i : Int))), some v, some (.str (Hu.shown nmT u)), some (.ref p6), some (.ref p7), y7] ∧ Ex H7 H') ⟨x7, rfl, Ex.refl _⟩ ?_ (fun σ' H' h => h)
      rintro j σ' H8 hj ⟨y7, rfl, e8⟩
      obtain ⟨b, hb⟩ := flags_get (u := u) hj
      dsimp only [gName]
      have E7 : Ev (tOp (rIxL K) (tVar 6) (tVar 7)) [some (V.ref a), some (.ref wl.w), some (.int (0 + (i : Int))), some v, some (.str (Hu.shown nmT u)), some (.ref p6), some (.ref p7), some (.int (0 + (j : Int)))] H8 (.bl b) := ev_ixQ (j := j) (ev_var rfl) (ev_var rfl) (by omega) (e8 _ _ h7) hb
      have E6 : Ev (tOp (rIxL K) (tVar 5) (tVar 7)) [some (V.ref a), some (.ref wl.w), some (.int (0 + (i : Int))), some v, some (.str (Hu.shown nmT u)), some (.ref p6), some (.ref p7), some (.int (0 + (j : Int)))] H8 (.bl b) := ev_ixQ (j := j) (ev_var rfl) (ev_var rfl) (by omega) (e8 _ _ (e7 _ _ h6)) hb
      refine s_if (b := false) (et_is (et_or (et_not (et_B (ev_isi (C := C) (w := wl.w) (u := .bl b) E7 (.bl b)))) fun _ => et_test (ev_op E7 E6 (rv_ne rfl))) ?_) (fun z => by cases z) fun _ H9 e9 => s_next ⟨_, rfl, e8.trans e9⟩
      rw [decide_eq_true rfl]
      rfl
    rintro σ' H8 ⟨y7, rfl, e8⟩
    have e48 := ((e5.trans e6).trans e7).trans e8
    have h68 := e8 _ _ (e7 _ _ h6)
    refine q_if (b := false) (et_is (et_not (et_B (ev_call (ea_cons (ev_var rfl) (ea_cons (ev_ixQ (K := K) (j := 4) (ev_var rfl) ev_c rfl h68 rfl) ea_nil)) (spv_mh (ex_at e48 hv) fi)))) rfl) (fun z => by cases z) fun _ H9 e9 => s_next ?_
    refine q_if (b := false) (et_is (et_test (ev_op (ev_call (ea_cons (ev_var rfl) ea_nil) (spv_RT (g := gText) (ex_at (e48.trans e9) hv) fi)) (ev_told (K := K) (g := gText) (u := u) (ev_ixQ (K := K) (j := 1) (ev_var rfl) ev_c rfl (e9 _ _ h68) rfl)) (rv_ne rfl))) (by rw [decide_eq_true rfl]; rfl)) (fun z => by cases z) fun _ H10 e10 => s_next ?_
    refine q_if (b := false) (et_is (et_test (ev_op (ev_call (ea_cons (ev_var rfl) ea_nil) (spv_RT (g := gPieces) (ex_at ((e48.trans e9).trans e10) hv) fi)) (ev_told (K := K) (g := gPieces) (u := u) (ev_J (ev_var rfl) (ex_at ((e48.trans e9).trans e10) hv) fi)) (rv_ne rfl))) (by rw [decide_eq_true rfl]; rfl)) (fun z => by cases z) fun _ H11 e11 => s_next ?_
    exact s_if (b := false) (et_is (et_test (ev_op (ev_repr (C := C) (ev_var rfl) (ex_at (((e48.trans e9).trans e10).trans e11) hv) bv) (ev_var rfl) (rv_ne rfl))) (by rw [decide_eq_true rfl]; rfl)) (fun z => by cases z) fun _ H12 e12 => s_next ⟨_, _, _, _, _, _, rfl, D4.well.same ((((e48.trans e9).trans e10).trans e11).trans e12)⟩
  · rintro σ H3 ⟨x2, x3, x4, x5, x6, x7, rfl, W3⟩
    exact rfl
end
end Hs
namespace Hs
open PySem PySem.Spec PyProof.Rows L2
section
variable {K : PySem.W.Frag} {h : Heap} {mg : Str → Option Value}
theorem df_mk {x : Str} {st : Stmt} {ps : List Str} {f : Addr} {oc : Value} {od an : Option Addr} {sl : Array (Option Value)} {kV dc pm cd ct : Value} (X : K.In h) (G : h.Ns mainGlobals mg)
    (a : PySem.W.nsIn K mainGlobals x = some (some (.ref f))) (l : K.lookup f = some ⟨oc, od, .func (PySem.W.fnOf x x (defArgs st) (defBody st) (defScope st) .none kV dc pm an cd ct), sl⟩) (c : PySem.W.codeIn K cd x = true) (k : PySem.W.keepIn K (.ref f) = true)
    (b : ∀ (kV doc pm : Value) (an : Option Addr) (cdv ct : Value) (us : List Value), us.length = ps.length → bindArgs (PySem.W.fnOf x x (defArgs st) (defBody st) (defScope st) .none kV doc pm an cdv ct) ⟨us, []⟩ = pure (ps.zip us)) :
    Df K mg x st ps f (PySem.W.fnOf x x (defArgs st) (defBody st) (defScope st) .none kV dc pm an cd ct) := by
  have F := fun_mk (st := st) l c k
  exact ⟨F, F.binds b, PySem.W.mg_of X G a⟩
theorem exm_self {S : Addr} (h1 : PySem.W.subIn K (.ref S) (.type "BaseException") = some true) (h2 : PySem.W.isClsIn K S = true) (h3 : PySem.W.typeIn K (.ref S) = some (.type "type")) (h4 : PySem.W.subIn K (.ref S) (.ref S) = some true) :
    PySem.W.exmOne K (.ref S) (.ref S) = some true := by
  have e1 : (PySem.W.subIn K (.ref S) (.type "BaseException") == some true) = true := by rw [h1] <;> rfl
  have e2 : ((PySem.W.clsIn K S).isSome && PySem.W.typeIn K (.ref S) == some (.type "type")) = true := by
    have h2' : (PySem.W.clsIn K S).isSome = true := h2
    rw [h2', h3] <;> rfl
  show (if (PySem.W.subIn K (.ref S) (.type "BaseException") == some true) = true then (if ((PySem.W.clsIn K S).isSome && PySem.W.typeIn K (.ref S) == some (.type "type")) = true then PySem.W.subIn K (.ref S) (.ref S) else none) else none) = some true
  rw [if_pos e1, if_pos e2]
  exact h4
theorem gh_mk {x : Str} {C : Addr} (X : K.In h) (G : h.Ns mainGlobals mg) (a : PySem.W.nsIn K mainGlobals x = some (some (.ref C))) : mg x = some (.ref C) := PySem.W.mg_of X G a
theorem gi_mk {x : Str} {n : Int} {t : Tok} (X : K.In h) (G : h.Ns mainGlobals mg) (a : PySem.W.nsIn K mainGlobals x = some (some (.int n t))) : ∃ t, mg x = some (.int n t) := ⟨t, PySem.W.mg_of X G a⟩
theorem gn_mk {x : Str} (X : K.In h) (G : h.Ns mainGlobals mg) (a : PySem.W.nsIn K mainGlobals x = some none) : mg x = none := PySem.W.mg_none_of X G a
theorem ec_mk {x : Str} {C : Addr} (X : K.In h) (G : h.Ns mainGlobals mg) (a : PySem.W.nsIn K mainGlobals x = some (some (.ref C)))
    (q : PySem.W.excIn K C [.type "ValueError", .type "Exception", .type "BaseException", .type "object"] "ValueError.__new__" = true) (k : PySem.W.keepIn K (.ref C) = true) (b : PySem.W.subIn K (.ref C) (.type "BaseException") = some true)
    (t : PySem.W.typeIn K (.ref C) = some (.type "type")) (i : PySem.W.isClsIn K C = true) (s : PySem.W.subIn K (.ref C) (.ref C) = some true) : Ec K mg x C := ⟨PySem.W.mg_of X G a, q, k, b, t, exm_self b i t s⟩

theorem xc_mk {x : Str} {C : Addr} {nm : Str} {oc : Obj} {cd : ClassData} (X : K.In h) (G : h.Ns mainGlobals mg) (a : PySem.W.nsIn K mainGlobals x = some (some (.ref C)))
    (q : PySem.W.excIn K C [.type "ValueError", .type "Exception", .type "BaseException", .type "object"] "ValueError.__new__" = true) (k : PySem.W.keepIn K (.ref C) = true)
    (c1 : PySem.W.findIn K (.ref C) "__getattribute__" = some (some (.builtin "BaseException.__getattribute__"))) (c2 : PySem.W.findIn K (.ref C) "__getattr__" = some none) (c3 : PySem.W.subIn K (.ref C) (.type "BaseException") = some true) (c4 : PySem.W.hasDictIn K C = true)
    (c5 : PySem.W.findIn K (.ref C) "__class__" = some (some (.builtin "object.__class__"))) (c6 : PySem.W.specialIn K (.builtin "object.__class__") "__get__" = some (some (.builtin "getset_descriptor.__get__"))) (c7 : PySem.W.takesIn K (.builtin "object.__class__") = some true) (c8 : PySem.W.mroIn K C (.type "object") = some true)
    (r1 : K.lookup C = some oc) (r2 : oc.data = .cls cd) (r3 : Str.ofString ((cd.name.toString.cutAt '.').getLastD "") = nm) (r4 : PySem.W.findIn K (.ref C) "__repr__" = some (some (.builtin "BaseException.__repr__")))
    (ki : PySem.W.kitOne K (.ref C) (.type "int") = some false) (kb : PySem.W.kitOne K (.ref C) (.type "bool") = some false) (ks : PySem.W.kitOne K (.ref C) (.type "str") = some false) (kt : PySem.W.kitOne K (.ref C) (.type "tuple") = some false) : Hu.Xc K mg x C nm :=
  ⟨PySem.W.mg_of X G a, q, k, ⟨c1, c2, c3, c4, c5, c6, c7, c8⟩, ⟨⟨oc, cd, r1, r2, r3⟩, r4, c3⟩, ki, kb, ks, kt⟩
theorem law_run {l : PySem.W.OpenLaw} {w : World} {f fa : Addr} {oc : Value} {od an : Option Addr} {sl : Array (Option Value)} {kV dc pm cd ct : Value} (X : K.In h) (G : h.Ns mainGlobals mg) (hfa : mg "law" = some (.ref fa))
    (a : PySem.W.nsIn K mainGlobals "law" = some (some (.ref f))) (lk : K.lookup f = some ⟨oc, od, .func (PySem.W.fnOf "law" "law" (defArgs lLaw) (defBody lLaw) (defScope lLaw) .none kV dc pm an cd ct), sl⟩) (c : PySem.W.codeIn K cd "law" = true)
    (A0 : La K mg) : ∀ (s : Shared) (a : Addr) (ns : List Int) (base : Heap) (H : Hp), K.In base → base.Ns mainGlobals mg → Env0 l.prog w K mg base callerA [] s H → SqL K H a (ns.map V.int) →
        codeAny (model l.prog w) callerA (.call (.ref fa) ⟨[.ref a], []⟩) (CR CX0 [] l.prog w H s (fun v _ => v = .bl true) (fun _ _ _ => False)) s := by
  have e := hfa.symm.trans (PySem.W.mg_of X G a)
  cases e
  exact fun s a ns base H kb gb ev hS => Gd.run_at (k := 40) (us := [.ref a]) (vs := [.ref a]) lk c scLaw ⟨rfl, by decide, by decide⟩ ev (.of_eq rfl) (.cons rfl .nil) rfl (fun room => law_body A0 hS room rfl)
end
end Hs
open PySem PySem.W PyProof.Rows
set_option maxRecDepth 100000 in
set_option maxHeartbeats 0 in
theorem PySem.Challenge.cw_homeshold_k01_forms_judged_and_majoritie_holds : PySem.Challenge.rw_homeshold_k01_forms_judged_and_majoritie.Holds := by
  w_on; o_law; k_head; (case hw => w_witness2)
  k_fill
  refine Gd.walk_at (l := PySem.Challenge.rw_homeshold_k01_forms_judged_and_majoritie) (n := 63) rfl (by decide) rfl (fun w h Y => PySem.W.kIn_of Y) ?F
  case F =>
    intro w mg fa h KX G hmg
    obtain h_law_mixed : ∃ f fd, Hs.Df _ mg "_law_mixed" Hs.sMixed ["number"] f fd := by
      refine' ⟨_, _, Hs.df_mk KX G ?a ?l ?c ?k (fun _ _ _ _ _ _ us hl => match us, hl with | [_], _ => rfl)⟩
      (case a => k_is); (case l => k_is); (case c => k_is); (case k => k_is)
    obtain h_law_filled : ∃ f fd, Hs.Df _ mg "_law_filled" Hs.sFilled ["well"] f fd := by
      refine' ⟨_, _, Hs.df_mk KX G ?a ?l ?c ?k (fun _ _ _ _ _ _ us hl => match us, hl with | [_], _ => rfl)⟩
      (case a => k_is); (case l => k_is); (case c => k_is); (case k => k_is)
    obtain h_law_draw : ∃ f fd, Hs.Df _ mg "_law_draw" Hs.sDraw ["well", "many"] f fd := by
      refine' ⟨_, _, Hs.df_mk KX G ?a ?l ?c ?k (fun _ _ _ _ _ _ us hl => match us, hl with | [_, _], _ => rfl)⟩
      (case a => k_is); (case l => k_is); (case c => k_is); (case k => k_is)
    obtain h_law_signs : ∃ f fd, Hs.Df _ mg "_law_signs" Hs.sSigns [] f fd := by
      refine' ⟨_, _, Hs.df_mk KX G ?a ?l ?c ?k (fun _ _ _ _ _ _ us hl => match us, hl with | [], _ => rfl)⟩
      (case a => k_is); (case l => k_is); (case c => k_is); (case k => k_is)
    obtain h_law_string : ∃ f fd, Hs.Df _ mg "_law_string" Hs.sString ["well", "many"] f fd := by
      refine' ⟨_, _, Hs.df_mk KX G ?a ?l ?c ?k (fun _ _ _ _ _ _ us hl => match us, hl with | [_, _], _ => rfl)⟩
      (case a => k_is); (case l => k_is); (case c => k_is); (case k => k_is)
    obtain h_law_well : ∃ f fd, Hs.Df _ mg "_law_well" Hs.sWell ["script"] f fd := by
      refine' ⟨_, _, Hs.df_mk KX G ?a ?l ?c ?k (fun _ _ _ _ _ _ us hl => match us, hl with | [_], _ => rfl)⟩
      (case a => k_is); (case l => k_is); (case c => k_is); (case k => k_is)
    obtain his_integer : ∃ f fd, Hs.Df _ mg "is_integer" Hs.sIsInt ["thing"] f fd := by
      refine' ⟨_, _, Hs.df_mk KX G ?a ?l ?c ?k (fun _ _ _ _ _ _ us hl => match us, hl with | [_], _ => rfl)⟩
      (case a => k_is); (case l => k_is); (case c => k_is); (case k => k_is)
    obtain his_from_one : ∃ f fd, Hs.Df _ mg "is_from_one" Hs.sFromOne ["thing"] f fd := by
      refine' ⟨_, _, Hs.df_mk KX G ?a ?l ?c ?k (fun _ _ _ _ _ _ us hl => match us, hl with | [_], _ => rfl)⟩
      (case a => k_is); (case l => k_is); (case c => k_is); (case k => k_is)
    obtain his_pair : ∃ f fd, Hs.Df _ mg "is_pair" Hs.sPair ["thing"] f fd := by
      refine' ⟨_, _, Hs.df_mk KX G ?a ?l ?c ?k (fun _ _ _ _ _ _ us hl => match us, hl with | [_], _ => rfl)⟩
      (case a => k_is); (case l => k_is); (case c => k_is); (case k => k_is)
    obtain his_signs : ∃ f fd, Hs.Df _ mg "is_signs" Hs.sIsSigns ["thing"] f fd := by
      refine' ⟨_, _, Hs.df_mk KX G ?a ?l ?c ?k (fun _ _ _ _ _ _ us hl => match us, hl with | [_], _ => rfl)⟩
      (case a => k_is); (case l => k_is); (case c => k_is); (case k => k_is)
    obtain his_ascending : ∃ f fd, Hs.Df _ mg "is_ascending" Hs.sAscending ["things"] f fd := by
      refine' ⟨_, _, Hs.df_mk KX G ?a ?l ?c ?k (fun _ _ _ _ _ _ us hl => match us, hl with | [_], _ => rfl)⟩
      (case a => k_is); (case l => k_is); (case c => k_is); (case k => k_is)
    obtain his_home : ∃ f fd, Hs.Df _ mg "is_home" Hs.sHome ["thing"] f fd := by
      refine' ⟨_, _, Hs.df_mk KX G ?a ?l ?c ?k (fun _ _ _ _ _ _ us hl => match us, hl with | [_], _ => rfl)⟩
      (case a => k_is); (case l => k_is); (case c => k_is); (case k => k_is)
    obtain his_hand : ∃ f fd, Hs.Df _ mg "is_hand" Hs.sHand ["thing"] f fd := by
      refine' ⟨_, _, Hs.df_mk KX G ?a ?l ?c ?k (fun _ _ _ _ _ _ us hl => match us, hl with | [_], _ => rfl)⟩
      (case a => k_is); (case l => k_is); (case c => k_is); (case k => k_is)
    obtain his_name : ∃ f fd, Hs.Df _ mg "is_name" Hs.sName ["thing"] f fd := by
      refine' ⟨_, _, Hs.df_mk KX G ?a ?l ?c ?k (fun _ _ _ _ _ _ us hl => match us, hl with | [_], _ => rfl)⟩
      (case a => k_is); (case l => k_is); (case c => k_is); (case k => k_is)
    obtain his_text : ∃ f fd, Hs.Df _ mg "is_text" Hs.sText ["thing"] f fd := by
      refine' ⟨_, _, Hs.df_mk KX G ?a ?l ?c ?k (fun _ _ _ _ _ _ us hl => match us, hl with | [_], _ => rfl)⟩
      (case a => k_is); (case l => k_is); (case c => k_is); (case k => k_is)
    obtain his_piece : ∃ f fd, Hs.Df _ mg "is_piece" Hs.sPiece ["thing"] f fd := by
      refine' ⟨_, _, Hs.df_mk KX G ?a ?l ?c ?k (fun _ _ _ _ _ _ us hl => match us, hl with | [_], _ => rfl)⟩
      (case a => k_is); (case l => k_is); (case c => k_is); (case k => k_is)
    obtain his_block_id : ∃ f fd, Hs.Df _ mg "is_block_id" Hs.sBlockId ["thing"] f fd := by
      refine' ⟨_, _, Hs.df_mk KX G ?a ?l ?c ?k (fun _ _ _ _ _ _ us hl => match us, hl with | [_], _ => rfl)⟩
      (case a => k_is); (case l => k_is); (case c => k_is); (case k => k_is)
    obtain his_row : ∃ f fd, Hs.Df _ mg "is_row" Hs.sRow ["thing"] f fd := by
      refine' ⟨_, _, Hs.df_mk KX G ?a ?l ?c ?k (fun _ _ _ _ _ _ us hl => match us, hl with | [_], _ => rfl)⟩
      (case a => k_is); (case l => k_is); (case c => k_is); (case k => k_is)
    obtain his_stamp : ∃ f fd, Hs.Df _ mg "is_stamp" Hs.sStamp ["thing"] f fd := by
      refine' ⟨_, _, Hs.df_mk KX G ?a ?l ?c ?k (fun _ _ _ _ _ _ us hl => match us, hl with | [_], _ => rfl)⟩
      (case a => k_is); (case l => k_is); (case c => k_is); (case k => k_is)
    obtain his_head : ∃ f fd, Hs.Df _ mg "is_head" Hs.sHead ["thing"] f fd := by
      refine' ⟨_, _, Hs.df_mk KX G ?a ?l ?c ?k (fun _ _ _ _ _ _ us hl => match us, hl with | [_], _ => rfl)⟩
      (case a => k_is); (case l => k_is); (case c => k_is); (case k => k_is)
    obtain his_members : ∃ f fd, Hs.Df _ mg "is_members" Hs.sMembers ["thing"] f fd := by
      refine' ⟨_, _, Hs.df_mk KX G ?a ?l ?c ?k (fun _ _ _ _ _ _ us hl => match us, hl with | [_], _ => rfl)⟩
      (case a => k_is); (case l => k_is); (case c => k_is); (case k => k_is)
    obtain hmajority : ∃ f fd, Hs.Df _ mg "majority" Hs.sMajority ["members"] f fd := by
      refine' ⟨_, _, Hs.df_mk KX G ?a ?l ?c ?k (fun _ _ _ _ _ _ us hl => match us, hl with | [_], _ => rfl)⟩
      (case a => k_is); (case l => k_is); (case c => k_is); (case k => k_is)
    obtain hfew : ∃ f fd, Hs.Df _ mg "few" Hs.sFew ["members"] f fd := by
      refine' ⟨_, _, Hs.df_mk KX G ?a ?l ?c ?k (fun _ _ _ _ _ _ us hl => match us, hl with | [_], _ => rfl)⟩
      (case a => k_is); (case l => k_is); (case c => k_is); (case k => k_is)
    obtain hchopped : ∃ f fd, Hs.Df _ mg "chopped" Hs.sChopped ["text"] f fd := by
      refine' ⟨_, _, Hs.df_mk KX G ?a ?l ?c ?k (fun _ _ _ _ _ _ us hl => match us, hl with | [_], _ => rfl)⟩
      (case a => k_is); (case l => k_is); (case c => k_is); (case k => k_is)
    obtain hjoined : ∃ f fd, Hs.Df _ mg "joined" Hs.sJoined ["pieces"] f fd := by
      refine' ⟨_, _, Hs.df_mk KX G ?a ?l ?c ?k (fun _ _ _ _ _ _ us hl => match us, hl with | [_], _ => rfl)⟩
      (case a => k_is); (case l => k_is); (case c => k_is); (case k => k_is)
    obtain h_law_number : ∃ f fd, Hs.Df _ mg "_law_number" Hs.lNumber ["well"] f fd := by
      refine' ⟨_, _, Hs.df_mk KX G ?a ?l ?c ?k (fun _ _ _ _ _ _ us hl => match us, hl with | [_], _ => rfl)⟩
      (case a => k_is); (case l => k_is); (case c => k_is); (case k => k_is)
    obtain h_law_name : ∃ f fd, Hs.Df _ mg "_law_name" Hs.lName ["well"] f fd := by
      refine' ⟨_, _, Hs.df_mk KX G ?a ?l ?c ?k (fun _ _ _ _ _ _ us hl => match us, hl with | [_], _ => rfl)⟩
      (case a => k_is); (case l => k_is); (case c => k_is); (case k => k_is)
    obtain h_law_any : ∃ f fd, Hs.Df _ mg "_law_any" Hs.lAny ["well", "deep"] f fd := by
      refine' ⟨_, _, Hs.df_mk KX G ?a ?l ?c ?k (fun _ _ _ _ _ _ us hl => match us, hl with | [_, _], _ => rfl)⟩
      (case a => k_is); (case l => k_is); (case c => k_is); (case k => k_is)
    obtain h_law_nodes : ∃ f fd, Hs.Df _ mg "_law_nodes" Hs.lNodes ["thing"] f fd := by
      refine' ⟨_, _, Hs.df_mk KX G ?a ?l ?c ?k (fun _ _ _ _ _ _ us hl => match us, hl with | [_], _ => rfl)⟩
      (case a => k_is); (case l => k_is); (case c => k_is); (case k => k_is)
    obtain h_law_changed : ∃ f fd, Hs.Df _ mg "_law_changed" Hs.lChanged ["thing", "well"] f fd := by
      refine' ⟨_, _, Hs.df_mk KX G ?a ?l ?c ?k (fun _ _ _ _ _ _ us hl => match us, hl with | [_, _], _ => rfl)⟩
      (case a => k_is); (case l => k_is); (case c => k_is); (case k => k_is)
    obtain h_law_spoilt : ∃ f fd, Hs.Df _ mg "_law_spoilt" Hs.lSpoilt ["thing", "at", "well"] f fd := by
      refine' ⟨_, _, Hs.df_mk KX G ?a ?l ?c ?k (fun _ _ _ _ _ _ us hl => match us, hl with | [_, _, _], _ => rfl)⟩
      (case a => k_is); (case l => k_is); (case c => k_is); (case k => k_is)
    obtain h_law_id : ∃ f fd, Hs.Df _ mg "_law_id" Hs.lId ["well"] f fd := by
      refine' ⟨_, _, Hs.df_mk KX G ?a ?l ?c ?k (fun _ _ _ _ _ _ us hl => match us, hl with | [_], _ => rfl)⟩
      (case a => k_is); (case l => k_is); (case c => k_is); (case k => k_is)
    obtain h_law_stamp : ∃ f fd, Hs.Df _ mg "_law_stamp" Hs.lStamp ["well"] f fd := by
      refine' ⟨_, _, Hs.df_mk KX G ?a ?l ?c ?k (fun _ _ _ _ _ _ us hl => match us, hl with | [_], _ => rfl)⟩
      (case a => k_is); (case l => k_is); (case c => k_is); (case k => k_is)
    obtain h_law_row : ∃ f fd, Hs.Df _ mg "_law_row" Hs.lRow ["well", "ids"] f fd := by
      refine' ⟨_, _, Hs.df_mk KX G ?a ?l ?c ?k (fun _ _ _ _ _ _ us hl => match us, hl with | [_, _], _ => rfl)⟩
      (case a => k_is); (case l => k_is); (case c => k_is); (case k => k_is)
    obtain h_law_members : ∃ f fd, Hs.Df _ mg "_law_members" Hs.lMembers ["well"] f fd := by
      refine' ⟨_, _, Hs.df_mk KX G ?a ?l ?c ?k (fun _ _ _ _ _ _ us hl => match us, hl with | [_], _ => rfl)⟩
      (case a => k_is); (case l => k_is); (case c => k_is); (case k => k_is)
    obtain h_law_count : ∃ f fd, Hs.Df _ mg "_law_count" Hs.lCount ["thing"] f fd := by
      refine' ⟨_, _, Hs.df_mk KX G ?a ?l ?c ?k (fun _ _ _ _ _ _ us hl => match us, hl with | [_], _ => rfl)⟩
      (case a => k_is); (case l => k_is); (case c => k_is); (case k => k_is)
    obtain h_law_long : ∃ f fd, Hs.Df _ mg "_law_long" Hs.lLong ["thing", "many"] f fd := by
      refine' ⟨_, _, Hs.df_mk KX G ?a ?l ?c ?k (fun _ _ _ _ _ _ us hl => match us, hl with | [_, _], _ => rfl)⟩
      (case a => k_is); (case l => k_is); (case c => k_is); (case k => k_is)
    obtain h_law_rising : ∃ f fd, Hs.Df _ mg "_law_rising" Hs.lRising ["things"] f fd := by
      refine' ⟨_, _, Hs.df_mk KX G ?a ?l ?c ?k (fun _ _ _ _ _ _ us hl => match us, hl with | [_], _ => rfl)⟩
      (case a => k_is); (case l => k_is); (case c => k_is); (case k => k_is)
    obtain h_law_name_fits : ∃ f fd, Hs.Df _ mg "_law_name_fits" Hs.lNameFits ["thing"] f fd := by
      refine' ⟨_, _, Hs.df_mk KX G ?a ?l ?c ?k (fun _ _ _ _ _ _ us hl => match us, hl with | [_], _ => rfl)⟩
      (case a => k_is); (case l => k_is); (case c => k_is); (case k => k_is)
    obtain h_law_hand_fits : ∃ f fd, Hs.Df _ mg "_law_hand_fits" Hs.lHandFits ["thing"] f fd := by
      refine' ⟨_, _, Hs.df_mk KX G ?a ?l ?c ?k (fun _ _ _ _ _ _ us hl => match us, hl with | [_], _ => rfl)⟩
      (case a => k_is); (case l => k_is); (case c => k_is); (case k => k_is)
    obtain h_law_signs_fit : ∃ f fd, Hs.Df _ mg "_law_signs_fit" Hs.lSignsFit ["thing", "least", "most"] f fd := by
      refine' ⟨_, _, Hs.df_mk KX G ?a ?l ?c ?k (fun _ _ _ _ _ _ us hl => match us, hl with | [_, _, _], _ => rfl)⟩
      (case a => k_is); (case l => k_is); (case c => k_is); (case k => k_is)
    obtain h_law_id_fits : ∃ f fd, Hs.Df _ mg "_law_id_fits" Hs.lIdFits ["thing"] f fd := by
      refine' ⟨_, _, Hs.df_mk KX G ?a ?l ?c ?k (fun _ _ _ _ _ _ us hl => match us, hl with | [_], _ => rfl)⟩
      (case a => k_is); (case l => k_is); (case c => k_is); (case k => k_is)
    obtain h_law_stamp_fits : ∃ f fd, Hs.Df _ mg "_law_stamp_fits" Hs.lStampFits ["thing"] f fd := by
      refine' ⟨_, _, Hs.df_mk KX G ?a ?l ?c ?k (fun _ _ _ _ _ _ us hl => match us, hl with | [_], _ => rfl)⟩
      (case a => k_is); (case l => k_is); (case c => k_is); (case k => k_is)
    obtain h_law_row_fits : ∃ f fd, Hs.Df _ mg "_law_row_fits" Hs.lRowFits ["thing"] f fd := by
      refine' ⟨_, _, Hs.df_mk KX G ?a ?l ?c ?k (fun _ _ _ _ _ _ us hl => match us, hl with | [_], _ => rfl)⟩
      (case a => k_is); (case l => k_is); (case c => k_is); (case k => k_is)
    obtain h_law_members_fit : ∃ f fd, Hs.Df _ mg "_law_members_fit" Hs.lMembersFit ["thing"] f fd := by
      refine' ⟨_, _, Hs.df_mk KX G ?a ?l ?c ?k (fun _ _ _ _ _ _ us hl => match us, hl with | [_], _ => rfl)⟩
      (case a => k_is); (case l => k_is); (case c => k_is); (case k => k_is)
    obtain h_law_thing : ∃ f fd, Hs.Df _ mg "_law_thing" Hs.lThing ["well"] f fd := by
      refine' ⟨_, _, Hs.df_mk KX G ?a ?l ?c ?k (fun _ _ _ _ _ _ us hl => match us, hl with | [_], _ => rfl)⟩
      (case a => k_is); (case l => k_is); (case c => k_is); (case k => k_is)
    obtain h_law_flags_due : ∃ f fd, Hs.Df _ mg "_law_flags_due" Hs.lFlagsDue ["thing"] f fd := by
      refine' ⟨_, _, Hs.df_mk KX G ?a ?l ?c ?k (fun _ _ _ _ _ _ us hl => match us, hl with | [_], _ => rfl)⟩
      (case a => k_is); (case l => k_is); (case c => k_is); (case k => k_is)
    obtain h_law_flags_told : ∃ f fd, Hs.Df _ mg "_law_flags_told" Hs.lFlagsTold ["thing"] f fd := by
      refine' ⟨_, _, Hs.df_mk KX G ?a ?l ?c ?k (fun _ _ _ _ _ _ us hl => match us, hl with | [_], _ => rfl)⟩
      (case a => k_is); (case l => k_is); (case c => k_is); (case k => k_is)
    obtain h_law_counted : ∃ f fd, Hs.Df _ mg "_law_counted" Hs.lCounted ["ask", "thing"] f fd := by
      refine' ⟨_, _, Hs.df_mk KX G ?a ?l ?c ?k (fun _ _ _ _ _ _ us hl => match us, hl with | [_, _], _ => rfl)⟩
      (case a => k_is); (case l => k_is); (case c => k_is); (case k => k_is)
    obtain h_law_members_hold : ∃ f fd, Hs.Df _ mg "_law_members_hold" Hs.lMembersHold ["thing", "right"] f fd := by
      refine' ⟨_, _, Hs.df_mk KX G ?a ?l ?c ?k (fun _ _ _ _ _ _ us hl => match us, hl with | [_, _], _ => rfl)⟩
      (case a => k_is); (case l => k_is); (case c => k_is); (case k => k_is)
    obtain h_law_text_refused : ∃ f fd, Hs.Df _ mg "_law_text_refused" Hs.lTextRefused ["thing"] f fd := by
      refine' ⟨_, _, Hs.df_mk KX G ?a ?l ?c ?k (fun _ _ _ _ _ _ us hl => match us, hl with | [_], _ => rfl)⟩
      (case a => k_is); (case l => k_is); (case c => k_is); (case k => k_is)
    obtain h_law_pieces_refused : ∃ f fd, Hs.Df _ mg "_law_pieces_refused" Hs.lPiecesRefused ["thing"] f fd := by
      refine' ⟨_, _, Hs.df_mk KX G ?a ?l ?c ?k (fun _ _ _ _ _ _ us hl => match us, hl with | [_], _ => rfl)⟩
      (case a => k_is); (case l => k_is); (case c => k_is); (case k => k_is)
    obtain h_law_pieces_fit : ∃ f fd, Hs.Df _ mg "_law_pieces_fit" Hs.lPiecesFit ["thing"] f fd := by
      refine' ⟨_, _, Hs.df_mk KX G ?a ?l ?c ?k (fun _ _ _ _ _ _ us hl => match us, hl with | [_], _ => rfl)⟩
      (case a => k_is); (case l => k_is); (case c => k_is); (case k => k_is)
    obtain eNoMembers : ∃ C, Hs.Ec _ mg "NoMembers" C := by
      refine' ⟨_, Hs.ec_mk KX G ?a ?xq ?k ?b ?t ?i ?s⟩
      (case a => k_is); (case xq => k_exc); (case k => k_is); (case b => k_is); (case t => k_is); (case i => k_is); (case s => first | rfl | k_is)
    obtain eNoText : ∃ C, Hs.Ec _ mg "NoText" C := by
      refine' ⟨_, Hs.ec_mk KX G ?a ?xq ?k ?b ?t ?i ?s⟩
      (case a => k_is); (case xq => k_exc); (case k => k_is); (case b => k_is); (case t => k_is); (case i => k_is); (case s => first | rfl | k_is)
    obtain eNoPieces : ∃ C, Hs.Ec _ mg "NoPieces" C := by
      refine' ⟨_, Hs.ec_mk KX G ?a ?xq ?k ?b ?t ?i ?s⟩
      (case a => k_is); (case xq => k_exc); (case k => k_is); (case b => k_is); (case t => k_is); (case i => k_is); (case s => first | rfl | k_is)
    have eH : ∃ C, mg "HomeError" = some (.ref C) := by
      refine' ⟨_, Hs.gh_mk KX G ?a⟩
      (case a => k_is)
    obtain eX : ∃ C, Hu.Xc _ mg "NoTable" C "NoTable" := by
      refine' ⟨_, Hs.xc_mk KX G ?a ?xq ?k ?c1 ?c2 ?c3 ?c4 ?c5 ?c6 ?c7 ?c8 ?r1 ?r2 ?r3 ?r4 ?ki ?kb ?ks ?kt⟩
      (case a => k_is)
      (case xq => k_exc)
      (case k => k_is)
      (case c1 => first | k_is)
      (case c2 => first | k_is)
      (case c3 => first | k_is)
      (case c4 => first | k_is)
      (case c5 => first | k_is)
      (case c6 => first | k_is)
      (case c7 => first | k_is)
      (case c8 => first | k_is)
      (case r1 => first | k_is)
      (case r2 => first | rfl)
      (case r3 => first | decide +kernel | rfl)
      (case r4 => first | k_is)
      (case ki => first | k_is | rfl | decide +kernel)
      (case kb => first | k_is | rfl | decide +kernel)
      (case ks => first | k_is | rfl | decide +kernel)
      (case kt => first | k_is | rfl | decide +kernel)
    have nMOST_HOMES : ∃ t, mg "MOST_HOMES" = some (.int 9 t) := by
      refine' Hs.gi_mk KX G ?a
      (case a => k_is)
    have nMOST_HANDS : ∃ t, mg "MOST_HANDS" = some (.int 99 t) := by
      refine' Hs.gi_mk KX G ?a
      (case a => k_is)
    have nMOST_PIECES : ∃ t, mg "MOST_PIECES" = some (.int 12 t) := by
      refine' Hs.gi_mk KX G ?a
      (case a => k_is)
    have nPIECE_SIGNS : ∃ t, mg "PIECE_SIGNS" = some (.int 8 t) := by
      refine' Hs.gi_mk KX G ?a
      (case a => k_is)
    have nNAME_SIGNS : ∃ t, mg "NAME_SIGNS" = some (.int 8 t) := by
      refine' Hs.gi_mk KX G ?a
      (case a => k_is)
    have nTEXT_SIGNS : ∃ t, mg "TEXT_SIGNS" = some (.int 96 t) := by
      refine' Hs.gi_mk KX G ?a
      (case a => k_is)
    have b_int : mg "int" = none := by
      refine' Hs.gn_mk KX G ?a
      (case a => k_is)
    have b_len : mg "len" = none := by
      refine' Hs.gn_mk KX G ?a
      (case a => k_is)
    have b_range : mg "range" = none := by
      refine' Hs.gn_mk KX G ?a
      (case a => k_is)
    have b_all : mg "all" = none := by
      refine' Hs.gn_mk KX G ?a
      (case a => k_is)
    have b_isinstance : mg "isinstance" = none := by
      refine' Hs.gn_mk KX G ?a
      (case a => k_is)
    have b_tuple : mg "tuple" = none := by
      refine' Hs.gn_mk KX G ?a
      (case a => k_is)
    have b_list : mg "list" = none := by
      refine' Hs.gn_mk KX G ?a
      (case a => k_is)
    have b_str : mg "str" = none := by
      refine' Hs.gn_mk KX G ?a
      (case a => k_is)
    have b_max : mg "max" = none := by
      refine' Hs.gn_mk KX G ?a
      (case a => k_is)
    have b_bool : mg "bool" = none := by
      refine' Hs.gn_mk KX G ?a
      (case a => k_is)
    have b_sum : mg "sum" = none := by
      refine' Hs.gn_mk KX G ?a
      (case a => k_is)
    have b_repr : mg "repr" = none := by
      refine' Hs.gn_mk KX G ?a
      (case a => k_is)
    have B : Hs.Bt mg := ⟨b_int, b_len, b_range, b_all, b_isinstance, b_tuple, b_list, b_str, b_max, b_bool, b_sum, b_repr⟩
    refine' Hs.law_run KX G hmg ?a ?l ?c ⟨B, ⟨nMOST_HOMES, nMOST_HANDS, nMOST_PIECES, nPIECE_SIGNS, nNAME_SIGNS, nTEXT_SIGNS⟩, eX, eNoMembers, eNoText, eNoPieces, eH, h_law_mixed, h_law_filled, h_law_draw, h_law_signs, h_law_string, h_law_well, his_integer, his_from_one, his_pair, his_signs, his_ascending, his_home, his_hand, his_name, his_text, his_piece, his_block_id, his_row, his_stamp, his_head, his_members, hmajority, hfew, hchopped, hjoined, h_law_number, h_law_name, h_law_any, h_law_nodes, h_law_changed, h_law_spoilt, h_law_id, h_law_stamp, h_law_row, h_law_members, h_law_count, h_law_long, h_law_rising, h_law_name_fits, h_law_hand_fits, h_law_signs_fit, h_law_id_fits, h_law_stamp_fits, h_law_row_fits, h_law_members_fit, h_law_thing, h_law_flags_due, h_law_flags_told, h_law_counted, h_law_members_hold, h_law_text_refused, h_law_pieces_refused, h_law_pieces_fit⟩
    (case a => k_is); (case l => k_is); (case c => k_is)
