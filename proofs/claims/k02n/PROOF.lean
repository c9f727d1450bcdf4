import PyProof.Rows.All
import Wide.All
import OpenK.AllK
import Wide.FinOn
import HandS.ForMost
import HandS.Evl
import HandS.Walk
import HandS.HeadHook1
import KE.KDictKeyed
import HandS.Lambda
import HandS.TupAny
import HandS.TupMul
import HandS.Deep
import KE.KStar
import HandS.IsInst
import HandS.TupLen
import HandS.Conv
import HandS.SortInts
import HandS.WordsExc
import HandS.Defaults
import HandS.Style
import KE.GoesEnumKw
import HandS.Head0
import HandS.Head1
import HandS.Head2
import HandS.HeadEnd
import HandS.HeadHook2
import HandS.Property
import HandS.TupSets
import KE.KDictDisplayH
import KE.KDictWalk
import HandS.SortRule
import KE.KStateDown
import PySem.Challenge.RW_gridlocks_k02_whole_blocks
set_option Elab.async false
set_option linter.all false
set_option maxRecDepth 100000
set_option maxHeartbeats 4000000
/-! A layer of plain data over the hand layer. -/
namespace Sh
open PySem PySem.Spec PyProof.Rows L2
/-- the world, one for all -/
class Wd where
  w : World
variable [Wd]
abbrev Ex := Evl.Ex

/-- plain data -/
inductive D where
  | non | bl (b : Bool) | int (i : Int) | str (s : Str)
  | lst (xs : List D) | tup (xs : List D)
  | dct (fz : Bool) (kvs : List (List Key × D))
  | ins (c : Str) (fs : List (Str × D))
  | scr (ns : List Int)
  | gt (ns : List Int)
  | dx (fz : Bool) (kvs : List (D × D))
  | sl (ds : List D)
abbrev NK := PySem.NestedKey
mutual
/-- data as a key -/
def nk : D → Option NK
  | .non => some .none
  | .bl b => some (.num (if b = true then 1 else 0))
  | .int i => some (.num i)
  | .str s => some (.text s)
  | .tup ds => (nks ds).map .tup
  | .gt ns => some (.tup (ns.map .num))
  | .lst _ => none | .dct _ _ => none | .ins _ _ => none | .scr _ => none | .dx _ _ => none | .sl _ => none
def nks : List D → Option (List NK)
  | [] => some []
  | d :: r => (nk d).bind fun a => (nks r).map (a :: ·)
end
def isTup : D → Bool
  | .tup _ => true
  | .gt _ => true
  | _ => false
/-- a tuple as a key -/
def kyX (d : D) : Option NK := if isTup d = true then (nk d).bind fun k => if k.depth ≤ 8 then some k else none else none

/-- a tuple of which the object is known -/
def StT (F : Hp) (a : Addr) (xs : List V) : Prop := ∃ o : Obj, F a = some (.frz o (.tup xs)) ∧ o.cls = .type "tuple" ∧ o.dict = none
theorem StT.sq {K : PySem.W.Frag} {F H : Hp} {a : Addr} {xs : List V} (h : StT F a xs) (e : Ex F H) : SqT K H a xs := let ⟨o, h, _⟩ := h; .inl (.inr ⟨o, e _ _ h⟩)
theorem StT.mono {F H : Hp} {a : Addr} {xs : List V} (h : StT F a xs) (e : Ex F H) : StT H a xs := let ⟨o, h, r⟩ := h; ⟨o, e _ _ h, r⟩
/-- a dict as its one object -/
def dxo (a : Addr) (o : Obj) : HO := .ext fun h => h.get? a = some o ∧ (a == sysModules) = false
abbrev ikd (P : Program) (w : World) : HeapKind P w NK := nestedKind P w
/-- the object o holds the entries xs: keys, where they stand, values -/
def DxS (o : Obj) (xs : List (NK × Addr × Value)) : Prop := o.ExactDict ∧ (xs.map (·.1)).Nodup ∧ xs.length ≤ sizeLine ∧ ∃ es ep, o.data = .dict es ep ∧ ∀ (P : Program), es.toList = xs.map (entryOfKey (ikd P Wd.w))
/-- a dict at a; fz: known to its object -/
def DcR (F : Hp) (a : Addr) (fz : Bool) (kvs : List (List Key × V)) : Prop := match fz with
  | true => ∃ o, F a = some (.frz o (.dT kvs))
  | false => Rd F a (.dT kvs)
theorem DcR.rd {F : Hp} {a : Addr} {fz : Bool} {kvs : List (List Key × V)} (h : DcR F a fz kvs) : Rd F a (.dT kvs) := by
  cases fz with
  | true => exact .inr h
  | false => exact h
theorem DcR.mono {F F' : Hp} {a : Addr} {fz : Bool} {kvs : List (List Key × V)} (e : Ex F F') (h : DcR F a fz kvs) : DcR F' a fz kvs := by
  cases fz with
  | true => obtain ⟨o, h⟩ := h; exact ⟨o, e _ _ h⟩
  | false => exact Evl.ex_rd e h
section
variable (K : PySem.W.Frag) (F : Hp)
mutual
/-- v is the datum d in the heap F -/
def Dt : D → V → Prop
  | .non, v => v = .non
  | .bl b, v => v = .bl b
  | .int i, v => v = .int i
  | .str x, v => v = .str x
  | .lst ds, v => ∃ a xs, v = .ref a ∧ F a = some (.lst xs) ∧ Dts ds xs
  | .tup ds, v => ∃ a xs, v = .ref a ∧ F a = some (.tup xs) ∧ Dts ds xs
  | .dct fz ks, v => ∃ a kvs, v = .ref a ∧ DcR F a fz kvs ∧ Dtk ks kvs
  | .ins c fs, v => ∃ a dx fvs, v = .ref a ∧ F a = some (.ins (He.ga K c) dx fvs) ∧ Dtf fs fvs
  | .scr ns, v => ∃ a, v = .ref a ∧ SqL K F a (ns.map V.int)
  | .gt ns, v => ∃ a, v = .ref a ∧ StT F a (ns.map V.int)
  | .dx _ ks, v => ∃ a b o xs, v = .ref a ∧ F a = some (dxo b o) ∧ DxS o xs ∧ Dtx ks xs
  | .sl ds, v => ∃ a xs, v = .ref a ∧ (∃ o, F a = some (.frz o (.lst xs))) ∧ Dts ds xs
def Dts : List D → List V → Prop
  | [], vs => vs = []
  | d :: ds, vs => ∃ x r, vs = x :: r ∧ Dt d x ∧ Dts ds r
def Dtk : List (List Key × D) → List (List Key × V) → Prop
  | [], vs => vs = []
  | (k, d) :: ds, vs => ∃ x r, vs = (k, x) :: r ∧ Dt d x ∧ Dtk ds r
def Dtx : List (D × D) → List (NK × Addr × Value) → Prop
  | [], xs => xs = []
  | (kd, d) :: ds, xs => ∃ k b u x t, xs = (k, b, u) :: t ∧ kyX kd = some k ∧ Dt kd (.ref b) ∧ RelV x u ∧ Dt d x ∧ Dtx ds t
def Dtf : List (Str × D) → List (Str × V) → Prop
  | [], vs => vs = []
  | (k, d) :: ds, vs => ∃ x r, vs = (k, x) :: r ∧ Dt d x ∧ Dtf ds r
end
end

section
variable {K : PySem.W.Frag} {F F' : Hp}
mutual
theorem Dt.mono (e : Ex F F') : ∀ (d : D) (v : V), Dt K F d v → Dt K F' d v
  | .non, _, h => h
  | .bl _, _, h => h
  | .int _, _, h => h
  | .str _, _, h => h
  | .lst ds, _, ⟨a, xs, e1, h1, h2⟩ => ⟨a, xs, e1, e _ _ h1, Dts.mono e ds xs h2⟩
  | .tup ds, _, ⟨a, xs, e1, h1, h2⟩ => ⟨a, xs, e1, e _ _ h1, Dts.mono e ds xs h2⟩
  | .dct _ ds, _, ⟨a, xs, e1, h1, h2⟩ => ⟨a, xs, e1, h1.mono e, Dtk.mono e ds xs h2⟩
  | .ins _ fs, _, ⟨a, dx, xs, e1, h1, h2⟩ => ⟨a, dx, xs, e1, e _ _ h1, Dtf.mono e fs xs h2⟩
  | .scr _, _, ⟨a, e1, h1⟩ => ⟨a, e1, Evl.ex_l e h1⟩
  | .gt _, _, ⟨a, e1, h⟩ => ⟨a, e1, h.mono e⟩
  | .dx _ ks, _, ⟨a, b, o, xs, e1, h1, h2, h3⟩ => ⟨a, b, o, xs, e1, e _ _ h1, h2, Dtx.mono e ks xs h3⟩
  | .sl ds, _, ⟨a, xs, e1, ⟨o, h1⟩, h2⟩ => ⟨a, xs, e1, ⟨o, e _ _ h1⟩, Dts.mono e ds xs h2⟩
theorem Dtx.mono (e : Ex F F') : ∀ (d : List (D × D)) (v : List (NK × Addr × Value)), Dtx K F d v → Dtx K F' d v
  | [], _, h => h
  | (kd, d) :: ds, _, ⟨k, b, u, x, t, e1, hk, h1, h2, h3, h4⟩ => ⟨k, b, u, x, t, e1, hk, Dt.mono e kd _ h1, h2, Dt.mono e d x h3, Dtx.mono e ds t h4⟩
theorem Dts.mono (e : Ex F F') : ∀ (d : List D) (v : List V), Dts K F d v → Dts K F' d v
  | [], _, h => h
  | d :: ds, _, ⟨x, r, e1, h1, h2⟩ => ⟨x, r, e1, Dt.mono e d x h1, Dts.mono e ds r h2⟩
theorem Dtk.mono (e : Ex F F') : ∀ (d : List (List Key × D)) (v : List (List Key × V)), Dtk K F d v → Dtk K F' d v
  | [], _, h => h
  | (_, d) :: ds, _, ⟨x, r, e1, h1, h2⟩ => ⟨x, r, e1, Dt.mono e d x h1, Dtk.mono e ds r h2⟩
theorem Dtf.mono (e : Ex F F') : ∀ (d : List (Str × D)) (v : List (Str × V)), Dtf K F d v → Dtf K F' d v
  | [], _, h => h
  | (_, d) :: ds, _, ⟨x, r, e1, h1, h2⟩ => ⟨x, r, e1, Dt.mono e d x h1, Dtf.mono e ds r h2⟩
end
theorem Dts.len : ∀ {ds : List D} {vs : List V}, Dts K F ds vs → vs.length = ds.length
  | [], _, h => by rw [show _ = ([] : List V) from h]; rfl
  | d :: ds, _, ⟨x, r, e1, _, h2⟩ => by rw [e1, List.length_cons, List.length_cons, Dts.len h2]
theorem Dts.at : ∀ {ds : List D} {vs : List V} {i : Nat} {d : D}, Dts K F ds vs → ds[i]? = some d → ∃ v, vs[i]? = some v ∧ Dt K F d v
  | [], _, i, d, _, e => by simp at e
  | a :: ds, _, 0, d, ⟨x, r, e1, h1, h2⟩, e => by
    have : a = d := by simpa using e
    subst this
    exact ⟨x, by rw [e1]; rfl, h1⟩
  | a :: ds, _, i + 1, d, ⟨x, r, e1, h1, h2⟩, e => by
    obtain ⟨v, hv, hd⟩ := Dts.at (i := i) (d := d) h2 (by simpa using e)
    exact ⟨v, by rw [e1]; simpa using hv, hd⟩
theorem Dts.at_v {ds : List D} {vs : List V} {i : Nat} {v : V} (h : Dts K F ds vs) (e : vs[i]? = some v) : ∃ d, ds[i]? = some d ∧ Dt K F d v := by
  obtain ⟨hi, _⟩ := List.getElem?_eq_some_iff.mp e
  rw [h.len] at hi
  have e2 : ds[i]? = some ds[i] := List.getElem?_eq_getElem hi
  obtain ⟨v', h1, h2⟩ := h.at e2
  rw [e] at h1
  cases h1
  exact ⟨_, e2, h2⟩
theorem Dts.app : ∀ {ds es : List D} {vs ws : List V}, Dts K F ds vs → Dts K F es ws → Dts K F (ds ++ es) (vs ++ ws)
  | [], _, _, _, h, g => by rw [show _ = ([] : List V) from h]; exact g
  | d :: ds, _, _, _, ⟨x, r, e1, h1, h2⟩, g => ⟨x, r ++ _, by rw [e1]; rfl, h1, Dts.app h2 g⟩
theorem Dts.one {d : D} {v : V} (h : Dt K F d v) : Dts K F [d] [v] := ⟨v, [], rfl, h, rfl⟩
theorem Dts.take : ∀ {ds : List D} {vs : List V} (n : Nat), Dts K F ds vs → Dts K F (ds.take n) (vs.take n)
  | _, _, 0, _ => by rw [List.take_zero, List.take_zero]; rfl
  | [], _, n + 1, h => by rw [show _ = ([] : List V) from h]; rfl
  | d :: ds, _, n + 1, ⟨x, r, e1, h1, h2⟩ => by rw [e1]; exact ⟨x, r.take n, rfl, h1, Dts.take n h2⟩
theorem Dts.drop : ∀ {ds : List D} {vs : List V} (n : Nat), Dts K F ds vs → Dts K F (ds.drop n) (vs.drop n)
  | _, _, 0, h => h
  | [], _, n + 1, h => by rw [show _ = ([] : List V) from h]; rfl
  | d :: ds, _, n + 1, ⟨x, r, e1, h1, h2⟩ => by rw [e1]; exact Dts.drop n h2
theorem Dts.set : ∀ {ds : List D} {vs : List V} {d : D} {v : V} (i : Nat), Dts K F ds vs → Dt K F d v → Dts K F (ds.set i d) (vs.set i v)
  | [], _, _, _, _, h, _ => by rw [show _ = ([] : List V) from h]; rfl
  | a :: ds, _, d, v, 0, ⟨x, r, e1, h1, h2⟩, g => by rw [e1]; exact ⟨v, r, rfl, g, h2⟩
  | a :: ds, _, d, v, i + 1, ⟨x, r, e1, h1, h2⟩, g => by rw [e1]; exact ⟨x, r.set i v, rfl, h1, Dts.set i h2 g⟩
theorem Dts.rev : ∀ {ds : List D} {vs : List V}, Dts K F ds vs → Dts K F ds.reverse vs.reverse
  | [], _, h => by rw [show _ = ([] : List V) from h]; rfl
  | d :: ds, _, ⟨x, r, e1, h1, h2⟩ => by
    rw [e1, List.reverse_cons, List.reverse_cons]
    exact Dts.app (Dts.rev h2) (Dts.one h1)
theorem Dts.ints : ∀ {ns : List Int} {vs : List V}, Dts K F (ns.map D.int) vs ↔ vs = ns.map V.int
  | [], _ => Iff.rfl
  | n :: ns, vs => ⟨fun ⟨x, r, e1, h1, h2⟩ => by rw [e1, show x = V.int n from h1, Dts.ints.mp h2]; rfl, fun h => ⟨.int n, ns.map V.int, h, rfl, Dts.ints.mpr rfl⟩⟩
end

theorem fit_ff {b c : Bool} {P : Prop} (h : (b && c) = true) (f : b = true → c = true → P) : P := by
  obtain ⟨h1, h2⟩ := Bool.and_eq_true_iff.mp h
  exact f h1 h2
/-! ### data without lists and dicts -/
mutual
def noM : D → Bool
  | .non => true | .bl _ => true | .int _ => true | .str _ => true
  | .lst _ => false | .tup xs => noMs xs | .dct _ _ => false | .ins _ fs => noMf fs | .scr _ => false | .gt _ => true | .dx _ _ => false | .sl xs => noMs xs
def noMs : List D → Bool
  | [] => true
  | d :: ds => noM d && noMs ds
def noMf : List (Str × D) → Bool
  | [] => true
  | (_, d) :: ds => noM d && noMf ds
end
def noMk (kvs : List (List Key × D)) : Bool := kvs.all fun p => noM p.2
def noMx (kvs : List (D × D)) : Bool := kvs.all fun p => noM p.1 && noM p.2
def noMd (kvs : List (Key × D)) : Bool := kvs.all fun p => noM p.2
/-- the entries of a dict whose keys are ints and texts -/
def Dtd (K : PySem.W.Frag) (F : Hp) : List (Key × D) → List (Key × V) → Prop
  | [], vs => vs = []
  | (k, d) :: ds, vs => ∃ x r, vs = (k, x) :: r ∧ Dt K F d x ∧ Dtd K F ds r
theorem Dtd.mono {K : PySem.W.Frag} {F F' : Hp} (e : Ex F F') : ∀ (d : List (Key × D)) (v : List (Key × V)), Dtd K F d v → Dtd K F' d v
  | [], _, h => h
  | (_, d) :: ds, _, ⟨x, r, e1, h1, h2⟩ => ⟨x, r, e1, Dt.mono e d x h1, Dtd.mono e ds r h2⟩
/-- without a -/
def drp (F : Hp) (a : Addr) : Hp := fun b => if b = a then none else F b
theorem drp_same {F : Hp} {a : Addr} : drp F a a = none := by unfold drp; rw [if_pos rfl]
theorem drp_ne {F : Hp} {a b : Addr} (h : b ≠ a) : drp F a b = F b := by unfold drp; rw [if_neg h]
def IsM : Option HO → Prop
  | some (.lst _) => True
  | some (.dT _) => True
  | some (.ext _) => True
  | _ => False
section
variable {K : PySem.W.Frag} {F : Hp} {a : Addr}
mutual
theorem Dt.drp (hm : IsM (F a)) : ∀ (d : D) (v : V), noM d = true → Dt K F d v → Dt K (Sh.drp F a) d v
  | .non, _, _, h => h
  | .bl _, _, _, h => h
  | .int _, _, _, h => h
  | .str _, _, _, h => h
  | .lst _, _, n, _ => nomatch (show false = true from n)
  | .dct _ _, _, n, _ => nomatch (show false = true from n)
  | .scr _, _, n, _ => nomatch (show false = true from n)
  | .gt _, _, _, ⟨b, e1, o, h1, h2⟩ => ⟨b, e1, o, by
      rw [drp_ne (fun z => by rw [z] at h1; rw [h1] at hm; exact hm)]; exact h1, h2⟩
  | .dx _ _, _, n, _ => nomatch (show false = true from n)
  | .sl ds, _, n, ⟨b, xs, e1, ⟨o, h1⟩, h2⟩ => ⟨b, xs, e1, ⟨o, by
      rw [drp_ne (fun z => by rw [z] at h1; rw [h1] at hm; exact hm)]; exact h1⟩, Dts.drp hm ds xs n h2⟩
  | .tup ds, _, n, ⟨b, xs, e1, h1, h2⟩ => ⟨b, xs, e1, by
      rw [drp_ne (fun z => by rw [z] at h1; rw [h1] at hm; exact hm)]; exact h1, Dts.drp hm ds xs n h2⟩
  | .ins _ fs, _, n, ⟨b, dx, xs, e1, h1, h2⟩ => ⟨b, dx, xs, e1, by
      rw [drp_ne (fun z => by rw [z] at h1; rw [h1] at hm; exact hm)]; exact h1, Dtf.drp hm fs xs n h2⟩
theorem Dts.drp (hm : IsM (F a)) : ∀ (d : List D) (v : List V), noMs d = true → Dts K F d v → Dts K (Sh.drp F a) d v
  | [], _, _, h => h
  | d :: ds, _, n, ⟨x, r, e1, h1, h2⟩ => fit_ff (show (noM d && noMs ds) = true from n) fun n1 n2 => ⟨x, r, e1, Dt.drp hm d x n1 h1, Dts.drp hm ds r n2 h2⟩
theorem Dtf.drp (hm : IsM (F a)) : ∀ (d : List (Str × D)) (v : List (Str × V)), noMf d = true → Dtf K F d v → Dtf K (Sh.drp F a) d v
  | [], _, _, h => h
  | (_, d) :: ds, _, n, ⟨x, r, e1, h1, h2⟩ => fit_ff (show (noM d && noMf ds) = true from n) fun n1 n2 => ⟨x, r, e1, Dt.drp hm d x n1 h1, Dtf.drp hm ds r n2 h2⟩
end
theorem Dtk.drp (hm : IsM (F a)) : ∀ (d : List (List Key × D)) (v : List (List Key × V)), noMk d = true → Dtk K F d v → Dtk K (Sh.drp F a) d v
  | [], _, _, h => h
  | (k, d) :: ds, _, n, ⟨x, r, e1, h1, h2⟩ => by
    have n' : (noM d && noMk ds) = true := by unfold noMk at n ⊢; rw [List.all_cons] at n; exact n
    exact fit_ff n' fun n1 n2 => ⟨x, r, e1, Dt.drp hm d x n1 h1, Dtk.drp hm ds r n2 h2⟩
end
theorem Dtd.drp {K : PySem.W.Frag} {F : Hp} {a : Addr} (hm : IsM (F a)) : ∀ (d : List (Key × D)) (v : List (Key × V)), noMd d = true → Dtd K F d v → Dtd K (Sh.drp F a) d v
  | [], _, _, h => h
  | (k, d) :: ds, _, n, ⟨x, r, e1, h1, h2⟩ => by
    have n' : (noM d && noMd ds) = true := by unfold noMd at n ⊢; rw [List.all_cons] at n; exact n
    exact fit_ff n' fun n1 n2 => ⟨x, r, e1, Dt.drp hm d x n1 h1, Dtd.drp hm ds r n2 h2⟩
theorem Dtx.drp {K : PySem.W.Frag} {F : Hp} {a : Addr} (hm : IsM (F a)) : ∀ (d : List (D × D)) (v : List (NK × Addr × Value)), noMx d = true → Dtx K F d v → Dtx K (Sh.drp F a) d v
  | [], _, _, h => h
  | (kd, d) :: ds, _, n, ⟨k, b, u, x, t, e1, hk, h1, h2, h3, h4⟩ => by
    have n' : ((noM kd && noM d) && noMx ds) = true := by unfold noMx at n ⊢; rw [List.all_cons] at n; exact n
    obtain ⟨n0, n2⟩ := Bool.and_eq_true_iff.mp n'
    obtain ⟨n1, n3⟩ := Bool.and_eq_true_iff.mp n0
    exact ⟨k, b, u, x, t, e1, hk, Dt.drp hm kd _ n1 h1, h2, Dt.drp hm d x n3 h3, Dtx.drp hm ds t n2 h4⟩
/-! ### the state of a body -/
abbrev Env := List (Option D)
/-- what a def may change: hid: not to be touched now; hl: the drawing state [s, its cells, i] -/
inductive Ob where
  | hid | lst (ds : List D) | dct (kvs : List (List Key × D)) | dk (kvs : List (Key × D)) | hl (s i : Int) | ins (c : Str) (fs : List (Str × D)) | dx (kvs : List (D × D)) | tbl (x : Str)
abbrev Mu := List Ob
/-- fixed through a call: the written part; the heap at the entry; which of its objects may change; the slots of the objects that the def may change -/
structure Ct where
  K : PySem.W.Frag
  F0 : Hp
  H0 : Hp
  ex0 : List (Option Addr)
  sl : List (Option Nat)
  ps : List Nat
  G : List (Addr × List V)

/-- what changes from call to call -/
structure Dy where
  F0 : Hp
  H0 : Hp
  ex0 : List (Option Addr)
def Ct.w (c : Ct) (y : Dy) : Ct := { c with F0 := y.F0, H0 := y.H0, ex0 := y.ex0 }

/-- the name of the lambda in the def x -/
def lamQ (x : Str) : Str := x ++ ".<locals>." ++ "<lambda>"
def ObR (K : PySem.W.Frag) (F H : Hp) (as : List (Option Addr)) (a : Addr) : Ob → Prop
  | .hid => True
  | .lst ds => noMs ds = true ∧ ∃ vs, H a = some (.lst vs) ∧ Dts K F ds vs
  | .dct kvs => (noMk kvs = true ∧ (kvs.map (·.1)).Nodup) ∧ ∃ ks, H a = some (.dT ks) ∧ Dtk K F kvs ks
  | .dk kvs => (noMd kvs = true ∧ (kvs.map (·.1)).Nodup) ∧ ∃ ks, H a = some (.dK ks) ∧ Dtd K F kvs ks
  | .hl s i => ∃ q, as[1]? = some (some q) ∧ H a = some (.lst [.int s, .ref q, .int i])
  | .ins c fs => noMf fs = true ∧ ∃ dx fvs, H a = some (.ins (He.ga K c) dx fvs) ∧ Dtf K F fs fvs
  | .dx kvs => noMx kvs = true ∧ ∃ b o xs, H a = some (dxo b o) ∧ DxS o xs ∧ Dtx K F kvs xs
  | .tbl x => (∃ cc, PySem.W.tabIn K x = some (cc, a)) ∧ ∃ ps : Array Value, H a = some (.tbl ps) ∧ TriplesOk ps.toList ∧ ∀ (pos : Pos) (cv : Value), codeAmong pos ps.toList = some cv → ∃ c, cv = .ref c ∧ F c = some (LamX.CodeO c (lamQ x))
def notHid : Ob → Prop
  | .hid => False
  | _ => True
/-- something that is no tuple -/
def NoTup (o : Option HO) : Prop := o ≠ none ∧ ∀ xs, o ≠ some (.tup xs)
structure Rel (c : Ct) (F H : Hp) (σ : L2.St) (env : Env) (μ : Mu) (as : List (Option Addr)) : Prop where
  ex : Ex F H
  sz : σ.length = env.length
  rd : ∀ (i : Nat) (d : D), env[i]? = some (some d) → ∃ v, σ[i]? = some (some v) ∧ Dt c.K F d v
  la : as.length = μ.length
  inj : ∀ (k l : Nat) (a : Addr), as[k]? = some (some a) → as[l]? = some (some a) → k = l
  out : ∀ (k : Nat) (a : Addr), as[k]? = some (some a) → F a = none ∧ NoTup (H a) ∧ (c.H0 a = none ∨ some a ∈ c.ex0)
  own : ∀ (k : Nat) (o : Ob), μ[k]? = some o → notHid o → ∃ a, as[k]? = some (some a) ∧ ObR c.K F H as a o ∧ ∀ (i : Nat), c.sl[k]? = some (some i) → σ[i]? = some (some (.ref a))
  base : ∀ b o, c.H0 b = some o → some b ∉ c.ex0 → H b = some o
  par : ∀ (k : Nat) (a : Addr), c.ex0[k]? = some (some a) → as[k]? = some (some a)
  pin : ∀ (k : Nat) (a : Addr), c.ex0[k]? = some (some a) → k ∈ c.ps
  nw : ∀ b, F b ≠ none → c.F0 b ≠ none ∨ c.H0 b = none ∨ ∃ xs, c.H0 b = some (.tup xs)
  gl : ∀ p ∈ c.G, F p.1 = some (.tup p.2)

/-- new objects alone -/
structure New (F H F' H' : Hp) : Prop where
  f : Ex F F'
  h : Ex H H'
  fh : Ex F' H'
  nw : ∀ b, F' b ≠ none → F b ≠ none ∨ H b = none ∨ ∃ xs, H b = some (.tup xs)
theorem New.refl {F H : Hp} (e : Ex F H) : New F H F H := ⟨Evl.Ex.refl _, Evl.Ex.refl _, e, fun _ h => .inl h⟩
theorem New.trans {F H F1 H1 F2 H2 : Hp} (a : New F H F1 H1) (b : New F1 H1 F2 H2) : New F H F2 H2 :=
  ⟨a.f.trans b.f, a.h.trans b.h, b.fh, fun x hx => by
    rcases b.nw x hx with h | h | ⟨xs, h⟩
    · exact a.nw x h
    · refine .inr (.inl ?_)
      cases q : H x with
      | none => rfl
      | some o => rw [a.h x o q] at h; cases h
    · refine .inr ?_
      cases q : H x with
      | none => exact .inl rfl
      | some o =>
        rw [a.h x o q] at h
        exact .inr ⟨xs, h⟩⟩
theorem New.mk1 {F H : Hp} {p : Addr} {o : HO} (e : Ex F H) (hp : H p = none) : New F H (upd F p o) (upd H p o) := by
  have fp : F p = none := by
    cases q : F p with
    | none => rfl
    | some u => rw [e p u q] at hp; cases hp
  refine ⟨Evl.Ex.new fp, Evl.Ex.new hp, fun b u h => ?_, fun b h => ?_⟩
  · by_cases hb : b = p
    · subst hb; rw [upd_same] at h ⊢; exact h
    · rw [upd_ne hb] at h ⊢; exact e b u h
  · by_cases hb : b = p
    · subst hb; exact .inr (.inl hp)
    · rw [upd_ne hb] at h; exact .inl h
/-- a tuple that the heap holds is known from now on -/
theorem New.tup {F H : Hp} {p : Addr} {xs : List V} (e : Ex F H) (hp : H p = some (.tup xs)) : New F H (upd F p (.tup xs)) H := by
  refine ⟨fun b u h => ?_, Evl.Ex.refl _, fun b u h => ?_, fun b h => ?_⟩
  · by_cases hb : b = p
    · subst hb
      have := e b u h
      rw [hp] at this; cases this
      exact upd_same
    · rw [upd_ne hb]; exact h
  · by_cases hb : b = p
    · subst hb; rw [upd_same] at h; cases h; exact hp
    · rw [upd_ne hb] at h; exact e b u h
  · by_cases hb : b = p
    · subst hb; exact .inr (.inr ⟨xs, hp⟩)
    · rw [upd_ne hb] at h; exact .inl h
theorem ObR.grow {K : PySem.W.Frag} {F H F' H' : Hp} {as : List (Option Addr)} {a : Addr} {o : Ob} (x : Ex F F') (y : Ex H H') (h : ObR K F H as a o) : ObR K F' H' as a o := by
  cases o with
  | hid => trivial
  | lst ds => obtain ⟨n, vs, h1, h2⟩ := h; exact ⟨n, vs, y _ _ h1, Dts.mono x _ _ h2⟩
  | dct kvs => obtain ⟨n, vs, h1, h2⟩ := h; exact ⟨n, vs, y _ _ h1, Dtk.mono x _ _ h2⟩
  | dk kvs => obtain ⟨n, vs, h1, h2⟩ := h; exact ⟨n, vs, y _ _ h1, Dtd.mono x _ _ h2⟩
  | hl s i => obtain ⟨q, h1, h2⟩ := h; exact ⟨q, h1, y _ _ h2⟩
  | ins c fs => obtain ⟨n, dx, vs, h1, h2⟩ := h; exact ⟨n, dx, vs, y _ _ h1, Dtf.mono x _ _ h2⟩
  | dx kvs => obtain ⟨n, b, o, xs, h1, h2, h3⟩ := h; exact ⟨n, b, o, xs, y _ _ h1, h2, Dtx.mono x _ _ h3⟩
  | tbl q => obtain ⟨t0, ps, h1, h2, h3⟩ := h; exact ⟨t0, ps, y _ _ h1, h2, fun pos cv e => let ⟨c, e1, e2⟩ := h3 pos cv e; ⟨c, e1, x _ _ e2⟩⟩
section
variable {c : Ct} {F H F' H' : Hp} {σ : L2.St} {env : Env} {μ : Mu} {as : List (Option Addr)}
/-- what was not there at the entry is not there from it -/
theorem Rel.was (r : Rel c F H σ env μ as) (b : Addr) (h : H b = none ∨ ∃ xs, H b = some (.tup xs)) : c.H0 b = none ∨ ∃ xs, c.H0 b = some (.tup xs) := by
  cases q : c.H0 b with
  | none => exact .inl rfl
  | some o =>
    by_cases hb : some b ∈ c.ex0
    · obtain ⟨l, hl, e⟩ := List.mem_iff_getElem.mp hb
      have e2 : c.ex0[l]? = some (some b) := by rw [List.getElem?_eq_getElem hl, e]
      obtain ⟨_, h2, _⟩ := r.out l b (r.par l b e2)
      rcases h with h | ⟨xs, h⟩
      · exact (h2.1 h).elim
      · exact (h2.2 xs h).elim
    · have z := r.base b o q hb
      rcases h with h | ⟨xs, h⟩
      · rw [h] at z; cases z
      · rw [h] at z; cases z; exact .inr ⟨xs, rfl⟩
theorem Rel.new (r : Rel c F H σ env μ as) (n : New F H F' H') : Rel c F' H' σ env μ as where
  ex := n.fh
  sz := r.sz
  rd := fun i d e => let ⟨v, h1, h2⟩ := r.rd i d e; ⟨v, h1, Dt.mono n.f _ _ h2⟩
  la := r.la
  inj := r.inj
  out := fun k a e => by
    obtain ⟨h1, h2, h3⟩ := r.out k a e
    refine ⟨?_, ?_, h3⟩
    · cases q : F' a with
      | none => rfl
      | some u =>
        rcases n.nw a (by rw [q]; simp) with z | z | ⟨xs, z⟩
        · exact (z h1).elim
        · exact (h2.1 z).elim
        · exact (h2.2 xs z).elim
    · cases q : H a with
      | none => exact (h2.1 q).elim
      | some u => rw [n.h a u q, ← q]; exact h2
  own := fun k o e hn => let ⟨a, h1, h2, h3⟩ := r.own k o e hn; ⟨a, h1, h2.grow n.f n.h, h3⟩
  base := fun b o e hb => n.h b o (r.base b o e hb)
  par := r.par
  pin := r.pin
  nw := fun b hb => by
    rcases n.nw b hb with z | z | z
    · exact r.nw b z
    · exact .inr (r.was b (.inl z))
    · exact .inr (r.was b (.inr z))
  gl := fun p hp => n.f _ _ (r.gl p hp)
end
end Sh
namespace Sh
open PySem PySem.Spec PyProof.Rows L2
variable [Wd]
abbrev Fs := List (Str × D)
inductive Res (α : Type) where
  | ok (a : α) (μ : Mu)
  | err (c : Str) (fs : Fs) (μ : Mu)
/-- a computation over the values of the slots and the objects that may change -/
abbrev Mx (α : Type) := Env → Mu → Option (Res α)
abbrev Em := Mx D
def XdR (K : PySem.W.Frag) (F H : Hp) (d : Option Addr) (fs : Fs) : Prop := (fs = [] ∧ d = none) ∨ ∃ a vs, d = some a ∧ H a = some (.xd vs) ∧ Dtf K F fs vs
section
variable {α β γ δ : Type}
/-- more is known of where things stand -/
def AsLe (as as' : List (Option Addr)) : Prop := ∀ (k : Nat) (a : Addr), as[k]? = some (some a) → as'[k]? = some (some a)
theorem AsLe.refl (as : List (Option Addr)) : AsLe as as := fun _ _ h => h
theorem AsLe.trans {a b c : List (Option Addr)} (x : AsLe a b) (y : AsLe b c) : AsLe a c := fun k d h => y k d (x k d h)
abbrev Pr (α β : Type) := Hp → List (Option Addr) → α → β → Prop
def Aft (P : Pr α β) (c : Ct) (W : WX) (F : Hp) (σ : L2.St) (env : Env) (as : List (Option Addr)) (r : Option (Res α)) (Q : β → Hp → Prop) : Prop :=
  match r with
  | none => False
  | some (.ok d μ') => ∀ v F' H' as', Ex F F' → AsLe as as' → Rel c F' H' σ env μ' as' → P F' as' d v → Q v H'
  | some (.err x fs μ') => ∀ F' H' as' d, Ex F F' → AsLe as as' → Rel c F' H' σ env μ' as' → XdR c.K F' H' d fs → W (.ref (He.ga c.K x)) d σ H'
def TX (P : Pr α β) (c : Ct) (W : WX) (f : Mx α) : L2.St → Hp → (β → Hp → Prop) → Prop := fun σ H Q =>
  ∃ yy F env μ as, Rel (c.w yy) F H σ env μ as ∧ Aft P (c.w yy) W F σ env as (f env μ) Q
/-- one behind the other -/
def bnd (f : Mx α) (g : α → Mx β) : Mx β := fun env μ => match f env μ with
  | none => none
  | some (.ok a μ') => g a env μ'
  | some (.err x fs μ') => some (.err x fs μ')
def lift (o : Option α) : Mx α := fun _ μ => match o with
  | none => none
  | some a => some (.ok a μ)
def ret (a : α) : Mx α := fun _ μ => some (.ok a μ)
variable {P : Pr α β} {P' : Pr γ δ} {c : Ct} {W : WX} {F F1 H : Hp} {σ : L2.St} {env : Env} {as as1 : List (Option Addr)} {μ : Mu} {f : Mx α} {g : α → Mx γ}
theorem Aft.mono {r : Option (Res α)} {Q : β → Hp → Prop} (e : Ex F F1) (l : AsLe as as1) (h : Aft P c W F σ env as r Q) : Aft P c W F1 σ env as1 r Q := by
  cases r with
  | none => exact h
  | some r => cases r with
    | ok d μ' => exact fun v F' H' as' x y => h v F' H' as' (e.trans x) (l.trans y)
    | err y fs μ' => exact fun F' H' as' d x y => h F' H' as' d (e.trans x) (l.trans y)
theorem Aft.imp {r : Option (Res α)} {Q Q' : β → Hp → Prop} (h : Aft P c W F σ env as r Q) (q : ∀ v H, Q v H → Q' v H) : Aft P c W F σ env as r Q' := by
  cases r with
  | none => exact h
  | some r => cases r with
    | ok d μ' => exact fun v F' H' as' x y r p => q _ _ (h v F' H' as' x y r p)
    | err y fs μ' => exact h
theorem TX.imp {Q Q' : β → Hp → Prop} (h : TX P c W f σ H Q) (q : ∀ v H, Q v H → Q' v H) : TX P c W f σ H Q' :=
  let ⟨yy, F, env, μ, as, r, a⟩ := h
  ⟨yy, F, env, μ, as, r, a.imp q⟩
theorem aft_bind {yy : Dy} {Q : δ → Hp → Prop} (r : Rel (c.w yy) F H σ env μ as) (h : Aft P' (c.w yy) W F σ env as (bnd f g env μ) Q) :
    TX P c W f σ H (fun v H1 => ∃ d F1 μ1 as1, Ex F F1 ∧ AsLe as as1 ∧ P F1 as1 d v ∧ Rel (c.w yy) F1 H1 σ env μ1 as1 ∧ Aft P' (c.w yy) W F1 σ env as1 (g d env μ1) Q) := by
  refine ⟨yy, F, env, μ, as, r, ?_⟩
  unfold bnd at h
  cases e : f env μ with
  | none => rw [e] at h; exact h
  | some z =>
    rw [e] at h
    cases z with
    | ok d μ' => exact fun v F' H' as' x y r' p => ⟨d, F', μ', as', x, y, p, r', h.mono x y⟩
    | err y fs μ' => exact h
theorem aft_ret {a : α} {Q : β → Hp → Prop} (r : Rel c F H σ env μ as) (h : Aft P c W F σ env as (ret a env μ) Q) : ∀ v F' H', New F H F' H' → P F' as a v → Q v H' :=
  fun v F' H' n p => h v F' H' as n.f (AsLe.refl _) (r.new n) p
theorem aft_lift {o : Option α} {Q : β → Hp → Prop} (r : Rel c F H σ env μ as) (h : Aft P c W F σ env as (lift o env μ) Q) : ∃ a, o = some a ∧ ∀ v F' H', New F H F' H' → P F' as a v → Q v H' := by
  cases o with
  | none => exact h.elim
  | some a => exact ⟨a, rfl, fun v F' H' n p => h v F' H' as n.f (AsLe.refl _) (r.new n) p⟩
end
abbrev PD (c : Ct) : Pr D V := fun F _ d v => Dt c.K F d v
abbrev PL (c : Ct) : Pr (List D) (List V) := fun F _ d v => Dts c.K F d v
abbrev PB : Pr Bool Bool := fun _ _ b b' => b' = b
abbrev T (c : Ct) (W : WX) (f : Em) : TE := TX (PD c) c W f
abbrev TB (c : Ct) (W : WX) (f : Mx Bool) : TT := TX PB c W f
abbrev TL (c : Ct) (W : WX) (f : Mx (List D)) : TA := TX (PL c) c W f
theorem impE {X : Cx} {e : Expr} {t t' : TE} (h : PE X e t) (q : ∀ σ H Q, t' σ H Q → t σ H Q) : PE X e t' := ⟨fun pins s σ H Q I hw => h.run pins s σ H Q I (q _ _ _ hw)⟩
theorem impT {X : Cx} {e : Expr} {t t' : TT} (h : PT X e t) (q : ∀ σ H Q, t' σ H Q → t σ H Q) : PT X e t' := ⟨fun pins s σ H Q I hw => h.run pins s σ H Q I (q _ _ _ hw)⟩
theorem impW {X : Cx} {e : Expr} {t t' : TT} (h : PW X e t) (q : ∀ σ H Q, t' σ H Q → t σ H Q) : PW X e t' := ⟨fun wh pins s σ H Q I hw => h.run wh pins s σ H Q I (q _ _ _ hw)⟩
theorem impA {X : Cx} {e : List Expr} {t t' : TA} (h : PA X e t) (q : ∀ σ H Q, t' σ H Q → t σ H Q) : PA X e t' := ⟨fun p pins s σ H Q I hw => h.run p pins s σ H Q I (q _ _ _ hw)⟩
theorem impS {X : Cx} {e : Stmt} {t t' : TS} (h : PS X e t) (q : ∀ D σ H, t' D σ H → t D σ H) : PS X e t' := ⟨fun pins s σ H D I hw => h.run pins s σ H D I (q _ _ _ hw)⟩
theorem impSs {X : Cx} {e : List Stmt} {t t' : TS} (h : PSs X e t) (q : ∀ D σ H, t' D σ H → t D σ H) : PSs X e t' := ⟨fun pins s σ H D I hw => h.run pins s σ H D I (q _ _ _ hw)⟩

/-! ### names, constants -/
section
variable {X : Cx} {c : Ct} {W : WX} {pos : Pos}
def mVar (i : Nat) : Em := fun env μ => match env[i]? with
  | some (some d) => some (.ok d μ)
  | _ => none
theorem de_var {i : Nat} {x : Str} (h : PE X (.Name x pos) (tVar i)) : PE X (.Name x pos) (T c W (mVar i)) := impE h fun σ H Q hw => by
  obtain ⟨yy, F, env, μ, as, r, a⟩ := hw
  unfold mVar at a
  cases e : env[i]? with
  | none => rw [e] at a; exact a.elim
  | some o =>
    rw [e] at a
    cases o with
    | none => exact a.elim
    | some d =>
      obtain ⟨v, h1, h2⟩ := r.rd i d e
      exact ⟨v, h1, a v F H as (Evl.Ex.refl _) (AsLe.refl _) r h2⟩
/-- a constant that stands for itself -/
theorem de_c {e : Expr} {d : D} {v : V} (h : PE X e (tC v)) (hd : ∀ F, Dt c.K F d v) : PE X e (T c W (ret d)) := impE h fun σ H Q hw => by
  obtain ⟨yy, F, env, μ, as, r, a⟩ := hw
  exact a v F H as (Evl.Ex.refl _) (AsLe.refl _) r (hd F)
theorem de_int {i j} : PE X (.Constant (.int i) j pos) (T c W (ret (.int i))) := de_c pe_int fun _ => rfl
theorem de_bl {b j} : PE X (.Constant (.bool b) j pos) (T c W (ret (.bl b))) := de_c pe_bl fun _ => rfl
theorem de_non {j} : PE X (.Constant .none j pos) (T c W (ret .non)) := de_c pe_non fun _ => rfl
theorem de_str {x j} : PE X (.Constant (.str x) j pos) (T c W (ret (.str x))) := de_c pe_str fun _ => rfl

/-! ### two-place operations -/
def OpSem (K : PySem.W.Frag) (r : R2) (g : D → D → Option D) : Prop := ∀ (F H : Hp) (x y : V) (dx dy d : D) (Q : VK), Ex F H → Dt K F dx x → Dt K F dy y → g dx dy = some d → (∀ v F' H', New F H F' H' → Dt K F' d v → Q v H') → r x y H Q
def mBin (g : D → D → Option D) (a b : Em) : Em := bnd a fun x => bnd b fun y => lift (g x y)
theorem t_bin {r : R2} {g : D → D → Option D} {f1 f2 : Em} (hr : OpSem c.K r g) {σ : L2.St} {H : Hp} {Q : VK} (h : T c W (mBin g f1 f2) σ H Q) : tOp r (T c W f1) (T c W f2) σ H Q := by
  obtain ⟨yy, F, env, μ, as, R, a⟩ := h
  refine (aft_bind (P := PD c) R a).imp fun v H1 ⟨d, F1, μ1, as1, x1, y1, p1, R1, a1⟩ => ?_
  refine (aft_bind (P := PD c) R1 a1).imp fun v2 H2 ⟨d2, F2, μ2, as2, x2, y2, p2, R2, a2⟩ => ?_
  obtain ⟨z, ez, k⟩ := aft_lift R2 a2
  exact hr F2 H2 v v2 d d2 z Q R2.ex (Dt.mono x2 _ _ p1) p2 ez k
variable {a b : Expr} {f1 f2 f3 : Em}
theorem de_bin {op : Operator} {r : R2} {g : D → D → Option D} (ho : OpR X (binaryOp op) r) (hr : OpSem c.K r g) (ha : PE X a (T c W f1)) (hb : PE X b (T c W f2)) : PE X (.BinOp a op b pos) (T c W (mBin g f1 f2)) :=
  impE (pe_op ho ha hb) fun _ _ _ h => t_bin hr h
theorem de_cmp {op : CmpOp} {r : R2} {g : D → D → Option D} (ho : OpR X (compareOp op) r) (hr : OpSem c.K r g) (ha : PE X a (T c W f1)) (hb : PE X b (T c W f2)) (hm : behindInMarks op b = false) : PE X (.Compare a [op] [b] pos) (T c W (mBin g f1 f2)) :=
  impE (pe_cmpR ho ha hb hm) fun _ _ _ h => t_bin hr h
/-- a value as a test: it is True or False -/
def asB : D → Option Bool
  | .bl b => some b
  | _ => none
def mTest (f : Em) : Mx Bool := bnd f fun d => lift (asB d)
theorem t_test {f : Em} {σ : L2.St} {H : Hp} {Q : Bool → Hp → Prop} (h : TB c W (mTest f) σ H Q) : tTest (T c W f) σ H Q := by
  obtain ⟨yy, F, env, μ, as, R, a⟩ := h
  refine (aft_bind (P := PD c) R a).imp fun v H1 ⟨d, F1, μ1, as1, x1, y1, p1, R1, a1⟩ => ?_
  obtain ⟨z, ez, k⟩ := aft_lift R1 a1
  cases d with
  | bl b => cases ez; exact ⟨_, p1, k _ F1 H1 (New.refl R1.ex) rfl⟩
  | _ => cases ez
theorem dt_cmp {op : CmpOp} {r : R2} {g : D → D → Option D} (ho : OpR X (compareOp op) r) (hr : OpSem c.K r g) (ha : PE X a (T c W f1)) (hb : PE X b (T c W f2)) (hm : behindInMarks op b = false) : PT X (.Compare a [op] [b] pos) (TB c W (mTest (mBin g f1 f2))) :=
  impT (pt_cmpR ho ha hb hm) fun σ H Q h => by
    have q := t_test h
    unfold tTest at q ⊢
    exact t_bin hr q
end
/-! ### a dict of one's own as its one object: its keys are tuples, nested ones too -/
abbrev Kx := List (D × D)
def xlook : Kx → NK → Option D
  | [], _ => none
  | (j, d) :: r, k => if kyX j = some k then some d else xlook r k
def xput : Kx → D → NK → D → Kx
  | [], kd, _, d => [(kd, d)]
  | (j, e) :: r, kd, k, d => if kyX j = some k then (j, d) :: r else (j, e) :: xput r kd k d
theorem xput_len : ∀ (kvs : Kx) (kd : D) (k : NK) (d : D), (xput kvs kd k d).length ≤ kvs.length + 1
  | [], _, _, _ => Nat.le_refl _
  | (j, e) :: r, kd, k, d => by
    unfold xput
    split
    · simp
    · have := xput_len r kd k d
      simp only [List.length_cons]; omega
theorem noMx_cons {j d : D} {r : Kx} : noMx ((j, d) :: r) = ((noM j && noM d) && noMx r) := by unfold noMx; rw [List.all_cons]
theorem noMx_put : ∀ {kvs : Kx} {kd : D} {k : NK} {d : D}, noMx kvs = true → noM kd = true → noM d = true → noMx (xput kvs kd k d) = true
  | [], kd, k, d, _, g0, g => by unfold xput; rw [noMx_cons, g0, g]; rfl
  | (j, e) :: r, kd, k, d, h, g0, g => by
    rw [noMx_cons] at h
    obtain ⟨h0, h2⟩ := Bool.and_eq_true_iff.mp h
    obtain ⟨h1, h3⟩ := Bool.and_eq_true_iff.mp h0
    unfold xput
    by_cases q : kyX j = some k
    · rw [if_pos q, noMx_cons, h1, g, h2]; rfl
    · rw [if_neg q, noMx_cons, h1, h3, noMx_put h2 g0 g]; rfl
def dInts : List D → Option (List Int)
  | [] => some []
  | .int i :: r => (dInts r).map (i :: ·)
  | _ => none
theorem dInts_eq : ∀ {ds : List D} {k : List Int}, dInts ds = some k → ds = k.map D.int
  | [], k, h => by cases h; rfl
  | d :: r, k, h => by
    cases d with
    | int i =>
      obtain ⟨k', h1, h2⟩ := Option.map_eq_some_iff.mp (show (dInts r).map (i :: ·) = some k from h)
      subst h2
      rw [dInts_eq h1]; rfl
    | _ => cases h
section
variable {K : PySem.W.Frag} {F : Hp}
theorem kyX_tup {d : D} {k : NK} (e : kyX d = some k) : isTup d = true ∧ nk d = some k ∧ k.depth ≤ 8 := by
  unfold kyX at e
  by_cases h : isTup d = true
  · rw [if_pos h] at e
    obtain ⟨k', e1, e2⟩ := Option.bind_eq_some_iff.mp e
    by_cases g : k'.depth ≤ 8
    · rw [if_pos g] at e2; cases e2; exact ⟨h, e1, g⟩
    · rw [if_neg g] at e2; cases e2
  · rw [if_neg h] at e; cases e
theorem kyX_at {d : D} {v : V} {k : NK} (h : Dt K F d v) (e : kyX d = some k) : ∃ b, v = .ref b ∧ Dt K F d (.ref b) := by
  have t := (kyX_tup e).1
  cases d with
  | tup ds => obtain ⟨b, vs, rfl, h1, h2⟩ := h; exact ⟨b, rfl, b, vs, rfl, h1, h2⟩
  | gt ns => obtain ⟨b, rfl, h⟩ := h; exact ⟨b, rfl, b, rfl, h⟩
  | _ => cases t
theorem nk_noM : ∀ (d : D) (k : NK), nk d = some k → noM d = true
  | .non, _, _ => rfl
  | .bl _, _, _ => rfl
  | .int _, _, _ => rfl
  | .str _, _, _ => rfl
  | .gt _, _, _ => rfl
  | .tup ds, k, h => by
    obtain ⟨ks, h1, _⟩ := Option.map_eq_some_iff.mp (show (nks ds).map .tup = some k by rw [← h, nk])
    exact nks_noM ds ks h1
  | .lst _, _, h => by rw [nk] at h; cases h
  | .dct _ _, _, h => by rw [nk] at h; cases h
  | .ins _ _, _, h => by rw [nk] at h; cases h
  | .scr _, _, h => by rw [nk] at h; cases h
  | .dx _ _, _, h => by rw [nk] at h; cases h
  | .sl _, _, h => by rw [nk] at h; cases h
where nks_noM : ∀ (ds : List D) (ks : List NK), nks ds = some ks → noMs ds = true
  | [], _, _ => rfl
  | d :: r, ks, h => by
    rw [nks] at h
    obtain ⟨a, h1, h2⟩ := Option.bind_eq_some_iff.mp h
    obtain ⟨b, h3, _⟩ := Option.map_eq_some_iff.mp h2
    exact Bool.and_eq_true_iff.mpr ⟨nk_noM d a h1, nks_noM r b h3⟩
theorem kyX_noM {d : D} {k : NK} (e : kyX d = some k) : noM d = true := nk_noM d k (kyX_tup e).2.1
theorem atKey_cons {x : NK × Addr × Value} {xs : List (NK × Addr × Value)} {k : NK} : atKey (x :: xs) k = if x.1 = k then some x.2 else atKey xs k := by
  unfold atKey
  rw [List.find?_cons]
  by_cases h : x.1 = k
  · rw [if_pos h, decide_eq_true h]; rfl
  · rw [if_neg h, decide_eq_false h]
/-- what the object has at a key -/
theorem Dtx.at : ∀ {kvs : Kx} {xs : List (NK × Addr × Value)} {k : NK}, Dtx K F kvs xs → match xlook kvs k with
    | none => atKey xs k = none
    | some d => ∃ b u x, atKey xs k = some (b, u) ∧ RelV x u ∧ Dt K F d x
  | [], xs, k, h => by rw [show xs = [] from h]; rfl
  | (kd, d) :: r, xs, k, ⟨k', b, u, x, t, e, hk, h1, h2, h3, h4⟩ => by
    subst e
    rw [atKey_cons]
    unfold xlook
    rw [hk]
    by_cases q : k' = k
    · rw [if_pos (congrArg some q), if_pos q]; exact ⟨b, u, x, rfl, h2, h3⟩
    · rw [if_neg (fun z => q (Option.some.inj z)), if_neg q]; exact Dtx.at h4
theorem Dtx.isSome {kvs : Kx} {xs : List (NK × Addr × Value)} {k : NK} (h : Dtx K F kvs xs) : (atKey xs k).isSome = (xlook kvs k).isSome := by
  have := h.at (k := k)
  cases e : xlook kvs k with
  | none => rw [e] at this; simp only at this; rw [this]; rfl
  | some d => rw [e] at this; obtain ⟨b, u, x, h1, _⟩ := this; rw [h1]; rfl
/-- the object's entries with one more, or one changed; recursively -/
def sto : List (NK × Addr × Value) → NK → Addr → Value → List (NK × Addr × Value)
  | [], k, b, u => [(k, b, u)]
  | x :: r, k, b, u => if x.1 = k then (x.1, x.2.1, u) :: r else x :: sto r k b u
theorem map_no : ∀ {xs : List (NK × Addr × Value)} {k : NK} {u : Value}, k ∉ xs.map (·.1) → xs.map (putAt k u) = xs
  | [], _, _, _ => rfl
  | x :: r, k, u, h => by
    rw [List.map_cons, List.mem_cons, not_or] at h
    have hx : ¬ x.1 = k := fun z => h.1 z.symm
    rw [List.map_cons, map_no h.2]
    unfold putAt
    rw [if_neg hx]
theorem sto_eq : ∀ {xs : List (NK × Addr × Value)} {k : NK} {b : Addr} {u : Value}, (xs.map (·.1)).Nodup → storedH xs k b u = sto xs k b u
  | [], k, b, u, _ => rfl
  | x :: r, k, b, u, nd => by
    obtain ⟨n1, n2⟩ := List.nodup_cons.mp (show (x.1 :: r.map (·.1)).Nodup from nd)
    have ih := sto_eq (k := k) (b := b) (u := u) n2
    unfold sto
    unfold storedH at ih ⊢
    rw [atKey_cons]
    by_cases q : x.1 = k
    · rw [if_pos q, if_pos q]
      show List.map (putAt k u) (x :: r) = _
      rw [List.map_cons, map_no (by rw [← q]; exact n1)]
      unfold putAt
      rw [if_pos q]
    · rw [if_neg q, if_neg q, ← ih]
      by_cases z : (atKey r k).isSome = true
      · rw [if_pos z, if_pos z, List.map_cons]
        have : putAt k u x = x := by unfold putAt; rw [if_neg q]
        rw [this]
      · rw [if_neg z, if_neg z]; rfl
theorem Dtx.put : ∀ {kvs : Kx} {xs : List (NK × Addr × Value)} {kd : D} {k : NK} {b : Addr} {u : Value} {x : V} {d : D}, Dtx K F kvs xs → kyX kd = some k → Dt K F kd (.ref b) → RelV x u → Dt K F d x → Dtx K F (xput kvs kd k d) (sto xs k b u)
  | [], xs, kd, k, b, u, x, d, h, hk, g1, g2, g3 => by
    rw [show xs = [] from h]
    exact ⟨k, b, u, x, [], rfl, hk, g1, g2, g3, rfl⟩
  | (j, e) :: r, xs, kd, k, b, u, x, d, ⟨k', b', u', x', t, eq, hj, h1, h2, h3, h4⟩, hk, g1, g2, g3 => by
    subst eq
    unfold xput sto
    rw [hj]
    by_cases q : k' = k
    · rw [if_pos (congrArg some q), if_pos q]; exact ⟨k', b', u, x, t, rfl, hj, h1, g2, g3, h4⟩
    · rw [if_neg (fun z => q (Option.some.inj z)), if_neg q]; exact ⟨k', b', u', x', _, rfl, hj, h1, h2, h3, Dtx.put h4 hk g1 g2 g3⟩
theorem Dtx.len : ∀ {kvs : Kx} {xs : List (NK × Addr × Value)}, Dtx K F kvs xs → xs.length = kvs.length
  | [], xs, h => by rw [show xs = [] from h]; rfl
  | (kd, e) :: r, xs, ⟨k', b', u', x', t, eq, hk, h1, h2, h3, h4⟩ => by subst eq; rw [List.length_cons, List.length_cons, Dtx.len h4]
end
/-! #### over the model's heap -/
section
variable {X : Cx} {pins : List (Addr × Obj)} {σ : L2.St} {F H : Hp} {s : Shared} {a b : Addr} {o : Obj} {xs : List (NK × Addr × Value)} {kvs : Kx} {k : NK}
theorem ints_nk {h : Heap} : ∀ {ks : List Int} {us : List Value}, Vals (ks.map V.int) us → NestedAll h (ks.map .num) us
  | [], _, r => by rw [List.map_nil] at r; cases r; exact .nil
  | k :: ks, _, r => by
    rw [List.map_cons] at r
    cases r with
    | cons h t =>
      obtain ⟨tk, rfl⟩ := h
      exact .cons (.int k tk) (ints_nk t)
mutual
theorem nk_is (I : Inv X pins σ H s) (e : Ex F H) : ∀ (d : D) (v : V) (u : Value) (k : NK), Dt X.K F d v → RelV v u → nk d = some k → NestedIs s.heap k u
  | .non, v, u, k, h, r, hk => by
    rw [show v = V.non from h] at r
    rw [nk] at hk; cases hk
    rw [show u = Value.none from r]; exact .none
  | .bl b, v, u, k, h, r, hk => by
    rw [show v = V.bl b from h] at r
    rw [nk] at hk; cases hk
    rw [show u = Value.bool b from r]; exact .bool rfl
  | .int i, v, u, k, h, r, hk => by
    rw [show v = V.int i from h] at r
    rw [nk] at hk; cases hk
    obtain ⟨t, rfl⟩ := r; exact .int i t
  | .str x, v, u, k, h, r, hk => by
    rw [show v = V.str x from h] at r
    rw [nk] at hk; cases hk
    obtain ⟨t, rfl⟩ := r; exact .text x t
  | .gt ns, v, u, k, h, r, hk => by
    obtain ⟨b, rfl, h⟩ := h
    rw [nk] at hk; cases hk
    rw [show u = Value.ref b from r]
    obtain ⟨o, h1, _⟩ := h
    obtain ⟨_, _, its, r2, o2, g1, g2, n, g3⟩ := (show ObjOk X.prog X.w H s.heap b (.frz o (.tup (ns.map V.int))) from I.hok b _ (e _ _ h1))
    exact .tup g1 g2 g3 (by simpa using ints_nk r2)
  | .tup ds, v, u, k, h, r, hk => by
    obtain ⟨b, vs, rfl, h1, h2⟩ := h
    rw [nk] at hk
    obtain ⟨ks, e1, rfl⟩ := Option.map_eq_some_iff.mp hk
    rw [show u = Value.ref b from r]
    obtain ⟨_, its, r2, o, g1, g2, n, g3⟩ := (show ObjOk X.prog X.w H s.heap b (.tup vs) from I.hok b _ (e _ _ h1))
    exact .tup g1 g2 g3 (by simpa using nks_is I e ds vs its ks h2 r2 e1)
  | .lst _, _, _, _, _, _, hk => by rw [nk] at hk; cases hk
  | .dct _ _, _, _, _, _, _, hk => by rw [nk] at hk; cases hk
  | .ins _ _, _, _, _, _, _, hk => by rw [nk] at hk; cases hk
  | .scr _, _, _, _, _, _, hk => by rw [nk] at hk; cases hk
  | .dx _ _, _, _, _, _, _, hk => by rw [nk] at hk; cases hk
  | .sl _, _, _, _, _, _, hk => by rw [nk] at hk; cases hk
theorem nks_is (I : Inv X pins σ H s) (e : Ex F H) : ∀ (ds : List D) (vs : List V) (us : List Value) (ks : List NK), Dts X.K F ds vs → Vals vs us → nks ds = some ks → NestedAll s.heap ks us
  | [], vs, us, ks, h, r, hk => by
    rw [show vs = [] from h] at r
    cases r
    rw [nks] at hk; cases hk; exact .nil
  | d :: ds, vs, us, ks, ⟨x, t, e1, h1, h2⟩, r, hk => by
    subst e1
    cases r with
    | cons r1 r2 =>
      rw [nks] at hk
      obtain ⟨a, k1, k2⟩ := Option.bind_eq_some_iff.mp hk
      obtain ⟨b, k3, rfl⟩ := Option.map_eq_some_iff.mp k2
      exact .cons (nk_is I e d x _ a h1 r1 k1) (nks_is I e ds t _ b h2 r2 k3)
end
theorem keyX_of {kd : D} (I : Inv X pins σ H s) (e : Ex F H) (h : Dt X.K F kd (.ref b)) (hk : kyX kd = some k) : (ikd X.prog X.w).is s.heap k b := by
  obtain ⟨_, h1, h2⟩ := kyX_tup hk
  exact ⟨nk_is I e kd (.ref b) (.ref b) k h rfl h1, h2⟩
theorem Dtx.keys (I : Inv X pins σ H s) (e : Ex F H) : ∀ {kvs : Kx} {xs : List (NK × Addr × Value)}, Dtx X.K F kvs xs → ∀ x ∈ xs, (ikd X.prog X.w).is s.heap x.1 x.2.1
  | [], xs, h => by rw [show xs = [] from h]; intro x hx; cases hx
  | (kd, d) :: r, xs, ⟨k', b', u', x', t, eq, hk, h1, h2, h3, h4⟩ => by
    subst eq
    intro x hx
    rcases List.mem_cons.mp hx with z | z
    · subst z; exact keyX_of I e h1 hk
    · exact Dtx.keys I e h4 x z
theorem dxo_addr {P : Program} {w : World} {h : Heap} {b : Addr} (ok : ObjOk P w H h a (dxo b o)) : b = a := by
  obtain ⟨p, _, st⟩ := ok
  refine Classical.byContradiction fun ne => ?_
  have q := st h (h.update b fun ob => { ob with data := .freed }) p fun u e => by rw [Heap.get?_update_ne _ _ _ _ (fun z => ne z.symm)]; exact e
  have z : (h.update b fun ob => { ob with data := .freed }).get? b = none := by
    obtain ⟨os, l⟩ := h
    show (match (os.modify b fun ob => { ob with data := .freed })[b]? with | some ⟨_, _, .freed, _⟩ => none | o => o) = none
    rw [Array.getElem?_modify, if_pos rfl]
    cases os[b]? <;> rfl
  have q1 := q.1
  rw [z] at q1
  cases q1
theorem dx_of (hw : X.w = Wd.w) (I : Inv X pins σ H s) (e : Ex F H) (ha : H a = some (dxo b o)) (hs : DxS o xs) (hd : Dtx X.K F kvs xs) : (a == sysModules) = false ∧ s.heap.DictOfH (ikd X.prog X.w) a xs := by
  have ok := (show ObjOk X.prog X.w H s.heap a (dxo b o) from I.hok a _ ha)
  have eb := dxo_addr ok
  subst eb
  obtain ⟨⟨ho, hsys⟩, _⟩ := ok
  obtain ⟨h1, h2, h3, es, ep, h4, h5⟩ := hs
  have h5 := h5 X.prog
  rw [← hw] at h5
  exact ⟨hsys, o, es, ep, ho, h1, h4, h5, hd.keys I e, h2⟩
/-- the dict is written -/
theorem dx_write (hw : X.w = Wd.w) {h' : Heap} {t' : Nat} {ys : List (NK × Addr × Value)} (I : Inv X pins σ H s) (ha : H a = some (dxo b o)) (hn : ys.length ≤ sizeLine) (d' : h'.DictOfH (ikd X.prog X.w) a ys) (same : Heap.SameBut a s.heap h') :
    ∃ o', DxS o' ys ∧ Inv X pins σ (upd H a (dxo a o')) { s with heap := h', toks := t' } := by
  have ok := (show ObjOk X.prog X.w H s.heap a (dxo b o) from I.hok a _ ha)
  have eb := dxo_addr ok
  subst eb
  obtain ⟨⟨ho, hsys⟩, _⟩ := ok
  obtain ⟨o', es, ep, ho', k1, k2, k3, _, k5⟩ := d'
  rw [hw] at k3
  refine ⟨o', ⟨k1, k5, hn, es, ep, k2, fun P => k3⟩, ?_⟩
  exact d_write I (by rw [ha]; trivial) same ⟨o', ho'⟩ ⟨⟨ho', hsys⟩, ⟨o', ho'⟩, fun h1 h2 p q => ⟨q _ p.1, p.2⟩⟩
end
theorem dxo_get {X : Cx} {pins : List (Addr × Obj)} {σ : L2.St} {H : Hp} {s : Shared} {d b : Addr} {o : Obj} (I : Inv X pins σ H s) (h : H d = some (dxo b o)) : s.heap.get? d = some o ∧ (d == sysModules) = false := by
  have ok := (show ObjOk X.prog X.w H s.heap d (dxo b o) from I.hok d _ h)
  have eb := dxo_addr ok
  subst eb
  exact ok.1
end Sh
namespace Sh
open PySem PySem.Spec PyProof.Rows L2
variable [Wd]
/-! ### as comparable data -/
mutual
def py : D → PyData
  | .non => .none | .bl b => .bool b | .int i => .int i | .str s => .str s
  | .lst xs => .list (pys xs) | .tup xs => .tuple (pys xs)
  | .dct _ _ => .none | .ins _ _ => .none | .scr _ => .none | .gt _ => .none | .dx _ _ => .none | .sl _ => .none
def pys : List D → List PyData
  | [] => []
  | d :: ds => py d :: pys ds
end
mutual
/-- comparable data of at most n levels -/
def fit : D → Nat → Bool
  | .non, _ => true | .bl _, _ => true | .int _, _ => true | .str s, _ => PyData.strOk s
  | .lst xs, n => Nat.blt 0 n && fits xs (n - 1) | .tup xs, n => Nat.blt 0 n && fits xs (n - 1)
  | .dct _ _, _ => false | .ins _ _, _ => false | .scr _, _ => false | .gt _, _ => false | .dx _ _, _ => false | .sl _, _ => false
def fits : List D → Nat → Bool
  | [], _ => true
  | d :: ds, n => fit d n && fits ds n
end
mutual
/-- == -/
def deq : D → D → Bool
  | .non, .non => true
  | .bl a, .bl b => a == b
  | .bl a, .int j => (if a then 1 else 0) == j
  | .int i, .bl b => i == (if b then 1 else 0)
  | .int i, .int j => i == j
  | .str x, .str y => x == y
  | .lst xs, .lst ys => deqs xs ys
  | .tup xs, .tup ys => deqs xs ys
  | _, _ => false
def deqs : List D → List D → Bool
  | [], [] => true
  | x :: xs, y :: ys => deq x y && deqs xs ys
  | _, _ => false
end
mutual
theorem fit_lay : ∀ (d : D) (n : Nat), fit d n = true → PyData.canLay0 (py d) = true ∧ PyData.depth (py d) ≤ n
  | .non, _, _ => ⟨rfl, Nat.zero_le _⟩
  | .bl _, _, _ => ⟨rfl, Nat.zero_le _⟩
  | .int _, _, _ => ⟨rfl, Nat.zero_le _⟩
  | .str s, _, h => ⟨h, Nat.zero_le _⟩
  | .lst xs, n, h => fit_ff (show (Nat.blt 0 n && fits xs (n - 1)) = true from h) fun h1 h2 => by
    have h3 := fits_lay xs (n - 1) h2
    have h4 : 0 < n := Nat.le_of_ble_eq_true h1
    refine ⟨h3.1, ?_⟩
    show PyData.depthAll (pys xs) + 1 ≤ n
    omega
  | .tup xs, n, h => fit_ff (show (Nat.blt 0 n && fits xs (n - 1)) = true from h) fun h1 h2 => by
    have h3 := fits_lay xs (n - 1) h2
    have h4 : 0 < n := Nat.le_of_ble_eq_true h1
    refine ⟨h3.1, ?_⟩
    show PyData.depthAll (pys xs) + 1 ≤ n
    omega
  | .dct _ _, _, h => nomatch (show false = true from h)
  | .ins _ _, _, h => nomatch (show false = true from h)
  | .scr _, _, h => nomatch (show false = true from h)
  | .gt _, _, h => nomatch (show false = true from h)
  | .dx _ _, _, h => nomatch (show false = true from h)
  | .sl _, _, h => nomatch (show false = true from h)
theorem fits_lay : ∀ (d : List D) (n : Nat), fits d n = true → PyData.canLayAll0 (pys d) = true ∧ PyData.depthAll (pys d) ≤ n
  | [], _, _ => ⟨rfl, Nat.zero_le _⟩
  | d :: ds, n, h => fit_ff (show (fit d n && fits ds n) = true from h) fun h1 h2 => by
    have a := fit_lay d n h1
    have b := fits_lay ds n h2
    exact ⟨Bool.and_eq_true_iff.mpr ⟨a.1, b.1⟩, Nat.max_le.mpr ⟨a.2, b.2⟩⟩
end
theorem fit_shaped {d : D} (h : fit d 64 = true) : SeqAt.shaped (py d) = true := by
  obtain ⟨h1, h2⟩ := fit_lay d 64 h
  exact Bool.and_eq_true_iff.mpr ⟨h1, decide_eq_true h2⟩
mutual
theorem eqv_py : ∀ (x y : D) (n m : Nat), fit x n = true → fit y m = true → PyData.eqv (py x) (py y) = deq x y
  | .non, y, _, _, _, g => by cases y <;> first | rfl | exact nomatch (show false = true from g)
  | .bl _, y, _, _, _, g => by cases y <;> first | rfl | exact nomatch (show false = true from g)
  | .int _, y, _, _, _, g => by cases y <;> first | rfl | exact nomatch (show false = true from g)
  | .str _, y, _, _, _, g => by cases y <;> first | rfl | exact nomatch (show false = true from g)
  | .lst xs, y, n, m, h, g => by
    cases y with
    | lst ys => exact fit_ff (show (Nat.blt 0 n && fits xs (n - 1)) = true from h) fun _ h2 => fit_ff (show (Nat.blt 0 m && fits ys (m - 1)) = true from g) fun _ g2 => eqvs_py xs ys _ _ h2 g2
    | _ => first | rfl | exact nomatch (show false = true from g)
  | .tup xs, y, n, m, h, g => by
    cases y with
    | tup ys => exact fit_ff (show (Nat.blt 0 n && fits xs (n - 1)) = true from h) fun _ h2 => fit_ff (show (Nat.blt 0 m && fits ys (m - 1)) = true from g) fun _ g2 => eqvs_py xs ys _ _ h2 g2
    | _ => first | rfl | exact nomatch (show false = true from g)
  | .dct _ _, _, _, _, h, _ => nomatch (show false = true from h)
  | .ins _ _, _, _, _, h, _ => nomatch (show false = true from h)
  | .scr _, _, _, _, h, _ => nomatch (show false = true from h)
  | .gt _, _, _, _, h, _ => nomatch (show false = true from h)
  | .dx _ _, _, _, _, h, _ => nomatch (show false = true from h)
  | .sl _, _, _, _, h, _ => nomatch (show false = true from h)
theorem eqvs_py : ∀ (x y : List D) (n m : Nat), fits x n = true → fits y m = true → PyData.eqvAll (pys x) (pys y) = deqs x y
  | [], [], _, _, _, _ => rfl
  | [], _ :: _, _, _, _, _ => rfl
  | _ :: _, [], _, _, _, _ => rfl
  | x :: xs, y :: ys, n, m, h, g => fit_ff (show (fit x n && fits xs n) = true from h) fun h1 h2 => fit_ff (show (fit y m && fits ys m) = true from g) fun g1 g2 => by
    show (PyData.eqv (py x) (py y) && PyData.eqvAll (pys xs) (pys ys)) = (deq x y && deqs xs ys)
    rw [eqv_py x y n m h1 g1, eqvs_py xs ys n m h2 g2]
end
section
variable {K : PySem.W.Frag} {F : Hp}
mutual
theorem Dt.dp : ∀ (d : D) (v : V) (n : Nat), fit d n = true → Dt K F d v → Dp K F v (py d)
  | .non, _, _, _, h => by cases h; exact .non
  | .bl _, _, _, _, h => by cases h; exact .bl _
  | .int _, _, _, _, h => by cases h; exact .int _
  | .str _, _, _, _, h => by cases h; exact .str _
  | .lst xs, _, n, f, ⟨a, vs, e, h1, h2⟩ => fit_ff (show (Nat.blt 0 n && fits xs (n - 1)) = true from f) fun _ f2 => by
    rw [e]; exact .lst (SqL.of h1) (Dts.dp xs vs _ f2 h2)
  | .tup xs, _, n, f, ⟨a, vs, e, h1, h2⟩ => fit_ff (show (Nat.blt 0 n && fits xs (n - 1)) = true from f) fun _ f2 => by
    rw [e]; exact .tup (SqT.of h1) (Dts.dp xs vs _ f2 h2)
  | .dct _ _, _, _, f, _ => nomatch (show false = true from f)
  | .ins _ _, _, _, f, _ => nomatch (show false = true from f)
  | .scr _, _, _, f, _ => nomatch (show false = true from f)
  | .gt _, _, _, f, _ => nomatch (show false = true from f)
  | .dx _ _, _, _, f, _ => nomatch (show false = true from f)
  | .sl _, _, _, f, _ => nomatch (show false = true from f)
theorem Dts.dp : ∀ (d : List D) (v : List V) (n : Nat), fits d n = true → Dts K F d v → DpAll K F v (pys d)
  | [], _, _, _, h => by rw [show _ = ([] : List V) from h]; exact .nil
  | d :: ds, _, n, f, ⟨x, r, e, h1, h2⟩ => fit_ff (show (fit d n && fits ds n) = true from f) fun f1 f2 => by
    rw [e]; exact .cons (Dt.dp d x n f1 h1) (Dts.dp ds r n f2 h2)
end
end
/-! ### operators -/
/-- d, where b holds -/
def gd {α : Type} (b : Bool) (d : α) : Option α := if b = true then some d else none
theorem gd_ok {α : Type} {b : Bool} {d e : α} (h : gd b d = some e) : b = true ∧ e = d := by
  unfold gd at h
  by_cases q : b = true
  · rw [if_pos q] at h; exact ⟨q, (Option.some.inj h).symm⟩
  · rw [if_neg q] at h; cases h
def szb (n : Nat) : Bool := decide (n ≤ 100000)
theorem szb_ok {n : Nat} (h : szb n = true) : n ≤ sizeLine := Evl.sz_of (of_decide_eq_true h)
def dAdd : D → D → Option D
  | .int i, .int j => some (.int (i + j))
  | .str x, .str y => gd (szb (x.length + y.length)) (.str (x ++ y))
  | .tup xs, .tup ys => gd (szb (xs.length + ys.length)) (.tup (xs ++ ys))
  | .lst xs, .lst ys => gd (szb (xs.length + ys.length)) (.lst (xs ++ ys))
  | _, _ => none
def dSub : D → D → Option D
  | .int i, .int j => some (.int (i - j))
  | _, _ => none
def dMul : D → D → Option D
  | .int i, .int j => gd ((decide (-(2 ^ 64) < i) && decide (i < 2 ^ 64)) || (decide (-(2 ^ 64) < j) && decide (j < 2 ^ 64))) (.int (i * j))
  | .tup xs, .int k => gd (decide (2 ≤ k) && decide (k ≤ 1000) && decide (0 < xs.length) && decide (xs.length ≤ 1000)) (.tup (List.replicate k.toNat xs).flatten)
  | .lst xs, .int k => gd (decide (k < 1000) && decide (-1000 < k) && decide (xs.length ≤ 100)) (.lst (List.replicate k.toNat xs).flatten)
  | _, _ => none
def dFdiv : D → D → Option D
  | .int i, .int j => gd (decide (0 < j) && decide (j < 1073741824)) (.int (i / j))
  | _, _ => none
def dMod : D → D → Option D
  | .int i, .int j => gd (decide (0 < j)) (.int (i % j))
  | _, _ => none
def dPow : D → D → Option D
  | .int i, .int j => gd (decide (0 ≤ j) && decide (j ≤ 1000000) && decide (i.natAbs < 2 ^ 64)) (.int (i ^ j.toNat))
  | _, _ => none
section
variable {K : PySem.W.Frag} {X : Cx}
abbrev rAddS : R2 := fun x y H Q => ∃ i j, x = .str i ∧ y = .str j ∧ i.length + j.length ≤ sizeLine ∧ Q (.str (i ++ j)) H
abbrev rAddI : R2 := rI0 fun i j => .int (i + j)
def rAdd4 (K : PySem.W.Frag) : R2 := fun x y H Q => rAddI x y H Q ∨ (rAddS x y H Q ∨ (rCatA K x y H Q ∨ rCat x y H Q))
theorem op_add4 : OpR X (binaryOp .Add) (rAdd4 X.K) := OpR.or op_add (OpR.or op_add_str (OpR.or op_catA op_cat))
theorem new1 {F H : Hp} {p : Addr} {o : HO} (e : Ex F H) (hp : H p = none) : New F H (upd F p o) (upd H p o) := New.mk1 e hp
theorem sem_add : OpSem K (rAdd4 K) dAdd := by
  intro F H x y dx dy d Q eF hx hy e k
  cases dx with
  | int i =>
    cases dy with
    | int j =>
      cases e
      exact .inl ⟨i, j, hx, hy, k _ F H (New.refl eF) rfl⟩
    | _ => cases e
  | str i =>
    cases dy with
    | str j =>
      obtain ⟨h, rfl⟩ := gd_ok (show gd (szb (i.length + j.length)) (D.str (i ++ j)) = some d from e)
      · exact .inr (.inl ⟨i, j, hx, hy, szb_ok h, k _ F H (New.refl eF) rfl⟩)
    | _ => cases e
  | tup xs =>
    cases dy with
    | tup ys =>
      obtain ⟨h, rfl⟩ := gd_ok (show gd (szb (xs.length + ys.length)) (D.tup (xs ++ ys)) = some d from e)
      · obtain ⟨a, vs, rfl, h1, h2⟩ := hx
        obtain ⟨b, ws, rfl, g1, g2⟩ := hy
        have l1 := h2.len
        have l2 := g2.len
        refine .inr (.inr (.inl ⟨a, b, vs, ws, rfl, rfl, SqT.of (eF _ _ h1), SqT.of (eF _ _ g1), by rw [l1, l2]; exact szb_ok h, fun z => ?_, fun _ z => ?_, fun _ _ p hp => ?_⟩))
        · rw [z] at l1
          have : xs = [] := List.eq_nil_of_length_eq_zero l1.symm
          subst this
          exact k _ F H (New.refl eF) ⟨b, ws, rfl, g1, g2⟩
        · rw [z] at l2
          have : ys = [] := List.eq_nil_of_length_eq_zero l2.symm
          subst this
          rw [List.append_nil] at k
          exact k _ F H (New.refl eF) ⟨a, vs, rfl, h1, h2⟩
        · have n := new1 (o := .tup (vs ++ ws)) eF hp
          exact k _ _ _ n ⟨p, vs ++ ws, rfl, upd_same, Dts.app (Dts.mono n.f _ _ h2) (Dts.mono n.f _ _ g2)⟩
    | _ => cases e
  | lst xs =>
    cases dy with
    | lst ys =>
      obtain ⟨h, rfl⟩ := gd_ok (show gd (szb (xs.length + ys.length)) (D.lst (xs ++ ys)) = some d from e)
      · obtain ⟨a, vs, rfl, h1, h2⟩ := hx
        obtain ⟨b, ws, rfl, g1, g2⟩ := hy
        have l1 := h2.len
        have l2 := g2.len
        refine .inr (.inr (.inr ⟨a, b, vs, ws, rfl, rfl, eF _ _ h1, eF _ _ g1, by rw [l1, l2]; exact szb_ok h, fun p hp => ?_⟩))
        have n := new1 (o := .lst (vs ++ ws)) eF hp
        exact k _ _ _ n ⟨p, vs ++ ws, rfl, upd_same, Dts.app (Dts.mono n.f _ _ h2) (Dts.mono n.f _ _ g2)⟩
    | _ => cases e
  | _ => cases e
theorem sem_int0 {g : Int → Int → Int} {f : D → D → Option D} (hf : ∀ dx dy d, f dx dy = some d → ∃ i j, dx = .int i ∧ dy = .int j ∧ d = .int (g i j)) : OpSem K (rI0 fun i j => .int (g i j)) f := by
  intro F H x y dx dy d Q eF hx hy e k
  obtain ⟨i, j, rfl, rfl, rfl⟩ := hf _ _ _ e
  exact ⟨i, j, hx, hy, k _ F H (New.refl eF) rfl⟩
theorem sem_intC {C : Int → Int → Prop} {g : Int → Int → Int} {f : D → D → Option D} (hf : ∀ dx dy d, f dx dy = some d → ∃ i j, dx = .int i ∧ dy = .int j ∧ C i j ∧ d = .int (g i j)) : OpSem K (rI C fun i j => .int (g i j)) f := by
  intro F H x y dx dy d Q eF hx hy e k
  obtain ⟨i, j, rfl, rfl, hc, rfl⟩ := hf _ _ _ e
  exact ⟨i, j, hx, hy, hc, k _ F H (New.refl eF) rfl⟩
theorem sem_sub : OpSem K (rI0 fun i j => .int (i - j)) dSub := sem_int0 fun dx dy d e => by
  cases dx <;> cases dy <;> first | (cases e; exact ⟨_, _, rfl, rfl, rfl⟩) | cases e
theorem sem_fdiv : OpSem K (rI CDiv fun i j => .int (i / j)) dFdiv := sem_intC fun dx dy d e => by
  cases dx <;> try cases e
  cases dy <;> try cases e
  obtain ⟨h, rfl⟩ := gd_ok (show gd _ _ = some d from e)
  simp only [Bool.and_eq_true, decide_eq_true_eq] at h
  exact ⟨_, _, rfl, rfl, h, rfl⟩
theorem sem_mod : OpSem K (rI (fun _ j => 0 < j) fun i j => .int (i % j)) dMod := sem_intC fun dx dy d e => by
  cases dx <;> try cases e
  cases dy <;> try cases e
  obtain ⟨h, rfl⟩ := gd_ok (show gd _ _ = some d from e)
  exact ⟨_, _, rfl, rfl, of_decide_eq_true h, rfl⟩
theorem sem_pow : OpSem K (rI CPow fun i j => .int (i ^ j.toNat)) dPow := sem_intC fun dx dy d e => by
  cases dx <;> try cases e
  cases dy <;> try cases e
  obtain ⟨h, rfl⟩ := gd_ok (show gd _ _ = some d from e)
  simp only [Bool.and_eq_true, decide_eq_true_eq] at h
  exact ⟨_, _, rfl, rfl, ⟨h.1.1, h.1.2, h.2⟩, rfl⟩
abbrev rMulI : R2 := rI CMul fun i j => .int (i * j)
def rMul2 (K : PySem.W.Frag) : R2 := fun x y H Q => rMulI x y H Q ∨ (rRep x y H Q ∨ rRepT K x y H Q)
theorem op_mul2 : OpR X (binaryOp .Mult) (rMul2 X.K) := OpR.or op_mul (OpR.or op_rep op_repT)
theorem Dts.flat {F : Hp} {xs : List D} {vs : List V} (h : Dts K F xs vs) : ∀ n : Nat, Dts K F (List.replicate n xs).flatten (List.replicate n vs).flatten
  | 0 => rfl
  | n + 1 => by
    rw [List.replicate_succ, List.replicate_succ, List.flatten_cons, List.flatten_cons]
    exact Dts.app h (Dts.flat h n)
theorem sem_mul : OpSem K (rMul2 K) dMul := by
  intro F H x y dx dy d Q eF hx hy e k
  cases dx with
  | int i =>
    cases dy with
    | int j =>
      obtain ⟨h, rfl⟩ := gd_ok (show gd _ _ = some d from e)
      simp only [Bool.or_eq_true, Bool.and_eq_true, decide_eq_true_eq] at h
      exact .inl ⟨i, j, hx, hy, h, k _ F H (New.refl eF) rfl⟩
    | _ => cases e
  | lst xs =>
    cases dy with
    | int j =>
      obtain ⟨h, rfl⟩ := gd_ok (show gd _ _ = some d from e)
      simp only [Bool.and_eq_true, decide_eq_true_eq] at h
      obtain ⟨⟨h1, h2⟩, h3⟩ := h
      obtain ⟨a, vs, rfl, g1, g2⟩ := hx
      have l1 := g2.len
      refine .inr (.inl ⟨a, j, vs, rfl, hy, eF _ _ g1, by omega, by omega, ?_, fun p hp => ?_⟩)
      · rw [l1]
        have b1 : j.toNat ≤ 1000 := by omega
        exact Evl.sz_of (Nat.le_trans (Nat.mul_le_mul h3 b1) (by decide))
      · have n := new1 (o := .lst (List.replicate j.toNat vs).flatten) eF hp
        exact k _ _ _ n ⟨p, _, rfl, upd_same, (Dts.mono n.f _ _ g2).flat _⟩
    | _ => cases e
  | tup xs =>
    cases dy with
    | int j =>
      obtain ⟨h, rfl⟩ := gd_ok (show gd _ _ = some d from e)
      simp only [Bool.and_eq_true, decide_eq_true_eq] at h
      obtain ⟨⟨⟨h1, h2⟩, h3⟩, h4⟩ := h
      obtain ⟨a, vs, rfl, g1, g2⟩ := hx
      have l1 := g2.len
      refine .inr (.inr ⟨a, j, vs, rfl, hy, SqT.of (eF _ _ g1), fun z => ?_, h1, h2, by omega, fun p hp => ?_⟩)
      · rw [z] at l1; simp at l1; omega
      · have n := new1 (o := .tup (List.replicate j.toNat vs).flatten) eF hp
        exact k _ _ _ n ⟨p, _, rfl, upd_same, (Dts.mono n.f _ _ g2).flat _⟩
    | _ => cases e
  | _ => cases e
/-! ### comparisons -/
/-- the module's own tuples as tuples -/
def un : D → D
  | .gt ns => .tup (ns.map D.int)
  | .sl ds => .lst ds
  | d => d
theorem dp_ints {F : Hp} : ∀ ns : List Int, DpAll K F (ns.map V.int) (pys (ns.map D.int))
  | [] => .nil
  | n :: ns => .cons (.int n) (dp_ints ns)
theorem Dt.dpU {F : Hp} {d : D} {v : V} (f : fit (un d) 64 = true) (h : Dt K F d v) : Dp K F v (py (un d)) := by
  cases d with
  | gt ns => obtain ⟨a, rfl, h⟩ := h; exact .tup (h.sq (Evl.Ex.refl _)) (dp_ints ns)
  | sl ds =>
    obtain ⟨a, vs, rfl, ⟨o, h1⟩, h2⟩ := h
    exact fit_ff (show (Nat.blt 0 64 && fits ds 63) = true from f) fun _ f2 => .lst (.inl (.inr ⟨o, h1⟩)) (Dts.dp ds vs _ f2 h2)
  | _ => exact Dt.dp _ _ _ f h
def fit2 (x y : D) : Bool := fit (un x) 64 && fit (un y) 64
def dEq (x y : D) : Option D := gd (fit2 x y) (.bl (deq (un x) (un y)))
def dNe (x y : D) : Option D := gd (fit2 x y) (.bl (!deq (un x) (un y)))
theorem sem_eq : OpSem K (rEqD K) dEq := by
  intro F H x y dx dy d Q eF hx hy e k
  obtain ⟨h, rfl⟩ := gd_ok e
  obtain ⟨h1, h2⟩ := Bool.and_eq_true_iff.mp h
  refine ⟨py (un dx), py (un dy), Dt.dpU h1 (Dt.mono eF _ _ hx), Dt.dpU h2 (Dt.mono eF _ _ hy), fit_shaped h1, fit_shaped h2, ?_⟩
  rw [eqv_py (un dx) (un dy) _ _ h1 h2]
  exact k _ F H (New.refl eF) rfl
theorem sem_ne : OpSem K (rNeD K) dNe := by
  intro F H x y dx dy d Q eF hx hy e k
  obtain ⟨h, rfl⟩ := gd_ok e
  obtain ⟨h1, h2⟩ := Bool.and_eq_true_iff.mp h
  refine ⟨py (un dx), py (un dy), Dt.dpU h1 (Dt.mono eF _ _ hx), Dt.dpU h2 (Dt.mono eF _ _ hy), fit_shaped h1, fit_shaped h2, ?_⟩
  rw [eqv_py (un dx) (un dy) _ _ h1 h2]
  exact k _ F H (New.refl eF) rfl
/-- in a tuple of data -/
def rInU (K : PySem.W.Frag) : R2 := fun x y H Q => ∃ d ds, Dp K H x d ∧ Dp K H y (.tuple ds) ∧ SeqAt.shaped d = true ∧ SeqAt.shaped (.tuple ds) = true ∧ Q (.bl (ds.any fun z => PyData.eqv z d)) H
def rNiU (K : PySem.W.Frag) : R2 := fun x y H Q => ∃ d ds, Dp K H x d ∧ Dp K H y (.tuple ds) ∧ SeqAt.shaped d = true ∧ SeqAt.shaped (.tuple ds) = true ∧ Q (.bl (!ds.any fun z => PyData.eqv z d)) H
theorem op_inU (hu : X.A.units + 65 < cLine) : OpR X (compareOp .In) (rInU X.K) := by
  intro pins s σ H x y v u Q I rx ry h
  obtain ⟨d, ds, hd, he, sd, se, q⟩ := h
  obtain ⟨as, r1⟩ := Dp.reads I d x v hd rx
  obtain ⟨bs, r2⟩ := Dp.reads I (.tuple ds) y u he ry
  exact SeqAt.in_tuple_reads r2 r1 (SeqAt.canLay_of_shaped se) (SeqAt.canLay_of_shaped sd) (PyProof.Rows.room_in_shaped sd hu) ⟨.bl _, H, I, rfl, q⟩
theorem op_niU (hu : X.A.units + 65 < cLine) : OpR X (compareOp .NotIn) (rNiU X.K) := by
  intro pins s σ H x y v u Q I rx ry h
  obtain ⟨d, ds, hd, he, sd, se, q⟩ := h
  obtain ⟨as, r1⟩ := Dp.reads I d x v hd rx
  obtain ⟨bs, r2⟩ := Dp.reads I (.tuple ds) y u he ry
  exact SeqAt.notIn_tuple_reads r2 r1 (SeqAt.canLay_of_shaped se) (SeqAt.canLay_of_shaped sd) (PyProof.Rows.room_in_shaped sd hu) ⟨.bl _, H, I, rfl, q⟩
/-- .. the dict as its one object -/
def DGx (K : PySem.W.Frag) (H : Hp) (a : Addr) (y : V) (r : Option V) : Prop := ∃ (F : Hp) (b' : Addr) (o : Obj) (xs : List (NK × Addr × Value)) (kvs : Kx) (b : Addr) (kd : D) (k : NK), Ex F H ∧ H a = some (dxo b' o) ∧ DxS o xs ∧ Dtx K F kvs xs ∧ y = .ref b ∧ Dt K F kd (.ref b) ∧ kyX kd = some k ∧
  match atKey xs k with
  | none => r = none
  | some p => ∃ v, r = some v ∧ RelV v p.2
theorem dgx_of (hw : X.w = Wd.w) {pins : List (Addr × Obj)} {σ : L2.St} {H : Hp} {s : Shared} {a : Addr} {y : V} {r : Option V} (I : Inv X pins σ H s) (g : DGx X.K H a y r) : ∃ (xs : List (NK × Addr × Value)) (b : Addr) (k : NK), y = .ref b ∧ (a == sysModules) = false ∧ s.heap.DictOfH (ikd X.prog X.w) a xs ∧ (ikd X.prog X.w).is s.heap k b ∧
    match atKey xs k with
    | none => r = none
    | some p => ∃ v, r = some v ∧ RelV v p.2 := by
  obtain ⟨F, b', o, xs, kvs, b, kd, k, e, h1, h2, h3, rfl, h4, h5, h6⟩ := g
  obtain ⟨z1, z2⟩ := dx_of hw I e h1 h2 h3
  exact ⟨xs, b, k, rfl, z1, z2, keyX_of I e h4 h5, h6⟩
theorem dgx_some {xs : List (NK × Addr × Value)} {k : NK} {r : Option V} (h : match atKey xs k with
    | none => r = none
    | some p => ∃ v, r = some v ∧ RelV v p.2) : (atKey xs k).isSome = r.isSome := by
  cases e : atKey xs k with
  | none => rw [e] at h; simp only at h; rw [h]; rfl
  | some p => rw [e] at h; obtain ⟨v, h, _⟩ := h; rw [h]; rfl
theorem Dt.dgx {fz : Bool} {F H : Hp} {kvs : Kx} {k : NK} {dx : D} {x y : V} (eF : Ex F H) (hx : Dt K F dx x) (hy : Dt K F (.dx fz kvs) y) (ek : kyX dx = some k) :
    ∃ a o, y = .ref a ∧ DGx K H a x o ∧ ((xlook kvs k = none ∧ o = none) ∨ ∃ d v, xlook kvs k = some d ∧ o = some v ∧ Dt K F d v) := by
  obtain ⟨b, rfl, hk⟩ := kyX_at hx ek
  obtain ⟨a, b', o, xs, rfl, h1, h2, h3⟩ := hy
  have look := h3.at (k := k)
  cases e : xlook kvs k with
  | none =>
    rw [e] at look
    simp only at look
    exact ⟨a, none, rfl, ⟨F, b', o, xs, kvs, b, dx, k, eF, eF _ _ h1, h2, h3, rfl, hk, ek, by rw [look]⟩, .inl ⟨rfl, rfl⟩⟩
  | some d =>
    rw [e] at look
    obtain ⟨b2, u, v, l1, l2, l3⟩ := look
    exact ⟨a, some v, rfl, ⟨F, b', o, xs, kvs, b, dx, k, eF, eF _ _ h1, h2, h3, rfl, hk, ek, by rw [l1]; exact ⟨v, rfl, l2⟩⟩, .inr ⟨d, v, rfl, rfl, l3⟩⟩
theorem ikd_room {P : Program} {w : World} {A : Around} (h : A.units + 9 < cLine) : (ikd P w).room A.in1 := by
  show A.units + 1 + 8 < cLine
  omega
/-- in a dict; the key may be a tuple of the module's own -/
def DGs (K : PySem.W.Frag) (H : Hp) (a : Addr) (y : V) (r : Option V) : Prop := DGet H a y r ∨ (∃ kvs k b, Rd H a (.dT kvs) ∧ y = .ref b ∧ StT H b (k.map kV) ∧ r = valV kvs k) ∨ DGx K H a y r
theorem st_key {pins : List (Addr × Obj)} {σ : L2.St} {H : Hp} {s : Shared} {k : List Key} {b : Addr} (I : Inv X pins σ H s) (h : StT H b (k.map kV)) : (tupleKind (mixKind X.prog X.w)).is s.heap k b := by
  obtain ⟨o, h1, _⟩ := h
  obtain ⟨_, _, its, r2, o2, g1, g2, n, g3⟩ := (show ObjOk X.prog X.w H s.heap b (.frz o (.tup (k.map kV))) from I.hok b _ h1)
  exact ⟨o2, its.toArray, n, g1, g2, g3, by simpa using items_are r2⟩
def rInK (K : PySem.W.Frag) : R2 := fun y x H Q => ∃ a o, x = .ref a ∧ DGs K H a y o ∧ Q (.bl o.isSome) H
def rNiK (K : PySem.W.Frag) : R2 := fun y x H Q => ∃ a o, x = .ref a ∧ DGs K H a y o ∧ Q (.bl (!o.isSome)) H
theorem op_inK (hw : X.w = Wd.w) (hu : X.A.units + 9 < cLine) : OpR X (compareOp .In) (rInK X.K) := by
  intro pins s σ H x y v u Q I rx ry h
  obtain ⟨a, ov, rfl, g, q⟩ := h
  obtain rfl : u = Value.ref a := ry
  rcases g with g | ⟨kvs, k, b, e, rfl, st, rfl⟩ | g
  rotate_left 2
  · obtain ⟨xs, b, k, rfl, hs, dd, hk, m⟩ := dgx_of hw I g
    obtain rfl : v = Value.ref b := rx
    refine wpAny_in_heap (ikd_room hu) hk hs dd ?_
    rw [dgx_some m]
    exact ⟨.bl _, H, I.tok _, rfl, q⟩
  · exact d_in (by omega) I g rx fun s3 I3 => ⟨.bl ov.isSome, H, I3, rfl, q⟩
  · obtain rfl : v = Value.ref b := rx
    obtain ⟨z, hd, xs, rel, dd⟩ := dt_rd I.hok e
    have w := (rel.val k).isSome_eq
    rw [Option.isSome_map] at w
    refine wpAny_in_heap (tupleKind_room_in1 (by omega)) (st_key I st) hd dd ?_
    rw [← w]
    exact ⟨.bl _, H, I.tok _, rfl, q⟩
theorem op_niK (hw : X.w = Wd.w) (hu : X.A.units + 9 < cLine) : OpR X (compareOp .NotIn) (rNiK X.K) := by
  intro pins s σ H x y v u Q I rx ry h
  obtain ⟨a, ov, rfl, g, q⟩ := h
  obtain rfl : u = Value.ref a := ry
  rcases g with g | ⟨kvs, k, b, e, rfl, st, rfl⟩ | g
  rotate_left 2
  · obtain ⟨xs, b, k, rfl, hs, dd, hk, m⟩ := dgx_of hw I g
    obtain rfl : v = Value.ref b := rx
    refine wpAny_notIn_heap (ikd_room hu) hk hs dd ?_
    rw [dgx_some m]
    exact ⟨.bl _, H, I.tok _, rfl, q⟩
  · exact d_notIn (by omega) I g rx fun s3 I3 => ⟨.bl (!ov.isSome), H, I3, rfl, q⟩
  · obtain rfl : v = Value.ref b := rx
    obtain ⟨z, hd, xs, rel, dd⟩ := dt_rd I.hok e
    have w := (rel.val k).isSome_eq
    rw [Option.isSome_map] at w
    refine wpAny_notIn_heap (tupleKind_room_in1 (by omega)) (st_key I st) hd dd ?_
    rw [← w]
    exact ⟨.bl _, H, I.tok _, rfl, q⟩
end
end Sh
namespace Sh
open PySem PySem.Spec PyProof.Rows L2
variable [Wd]
/-! ### dicts with tuple keys -/
def keyOf : List D → Option (List Key)
  | [] => some []
  | .int i :: r => (keyOf r).map (Sum.inl i :: ·)
  | .str s :: r => (keyOf r).map (Sum.inr s :: ·)
  | _ => none
def keyD : Key → D
  | .inl i => .int i
  | .inr s => .str s
theorem keyOf_eq : ∀ {ds : List D} {k : List Key}, keyOf ds = some k → ds = k.map keyD
  | [], k, h => by cases h; rfl
  | d :: r, k, h => by
    cases d with
    | int i =>
      obtain ⟨k', h1, h2⟩ := Option.map_eq_some_iff.mp (show (keyOf r).map (Sum.inl i :: ·) = some k from h)
      subst h2
      rw [keyOf_eq h1]; rfl
    | str i =>
      obtain ⟨k', h1, h2⟩ := Option.map_eq_some_iff.mp (show (keyOf r).map (Sum.inr i :: ·) = some k from h)
      subst h2
      rw [keyOf_eq h1]; rfl
    | _ => cases h
def dlook : List (List Key × D) → List Key → Option D
  | [], _ => none
  | (j, d) :: r, k => if j = k then some d else dlook r k
def dput : List (List Key × D) → List Key → D → List (List Key × D)
  | [], k, d => [(k, d)]
  | (j, e) :: r, k, d => if j = k then (j, d) :: r else (j, e) :: dput r k d
section
variable {K : PySem.W.Frag} {F : Hp}
theorem Dts.key : ∀ {k : List Key} {vs : List V}, Dts K F (k.map keyD) vs → vs = k.map kV
  | [], _, h => h
  | a :: r, _, ⟨x, t, e, h1, h2⟩ => by
    rw [e, Dts.key h2]
    cases a with
    | inl i => rw [show x = V.int i from h1]; rfl
    | inr i => rw [show x = V.str i from h1]; rfl
theorem Dts.ofKey : ∀ (k : List Key), Dts K F (k.map keyD) (k.map kV)
  | [] => rfl
  | .inl i :: r => ⟨_, _, rfl, rfl, Dts.ofKey r⟩
  | .inr i :: r => ⟨_, _, rfl, rfl, Dts.ofKey r⟩
theorem Dtk.len : ∀ {ds : List (List Key × D)} {vs : List (List Key × V)}, Dtk K F ds vs → vs.length = ds.length
  | [], _, h => by rw [show _ = ([] : List (List Key × V)) from h]; rfl
  | (_, d) :: ds, _, ⟨x, r, e1, _, h2⟩ => by rw [e1, List.length_cons, List.length_cons, Dtk.len h2]
theorem Dtk.look : ∀ {ks : List (List Key × D)} {kvs : List (List Key × V)} {k : List Key}, Dtk K F ks kvs →
    (dlook ks k = none ∧ valV kvs k = none) ∨ ∃ d v, dlook ks k = some d ∧ valV kvs k = some v ∧ Dt K F d v
  | [], _, k, h => by rw [show _ = ([] : List (List Key × V)) from h]; exact .inl ⟨rfl, rfl⟩
  | (j, d) :: ds, _, k, ⟨x, r, e1, h1, h2⟩ => by
    rw [e1]
    by_cases e : j = k
    · refine .inr ⟨d, x, ?_, valV_pos e, h1⟩
      unfold dlook; rw [if_pos e]
    · rw [valV_neg e]
      have z : dlook ((j, d) :: ds) k = dlook ds k := by conv => lhs; unfold dlook; rw [if_neg e]
      rw [z]
      exact Dtk.look h2
theorem any_cons_pos {p : List Key × V} {r : List (List Key × V)} {k : List Key} (e : p.1 = k) : ((p :: r).any fun kv => decide (kv.1 = k)) = true := by
  rw [List.any_cons, decide_eq_true e, Bool.true_or]
theorem map_same : ∀ {r : List (List Key × V)} {k : List Key} {v : V}, ¬ k ∈ r.map (·.1) → r.map (fun kv => if kv.1 = k then (kv.1, v) else kv) = r
  | [], _, _, _ => rfl
  | p :: r, k, v, h => by
    have h1 : ¬ p.1 = k := fun z => h (by rw [List.map_cons, z]; exact List.mem_cons_self)
    have h2 : ¬ k ∈ r.map (·.1) := fun z => h (by rw [List.map_cons]; exact List.mem_cons_of_mem _ z)
    rw [List.map_cons, if_neg h1, map_same h2]
theorem putK_cons_ne {p : List Key × V} {r : List (List Key × V)} {k : List Key} {v : V} (e : ¬ p.1 = k) : putK (p :: r) k v = p :: putK r k v := by
  unfold putK
  rw [List.any_cons, decide_eq_false e, Bool.false_or]
  by_cases a : (r.any fun kv => decide (kv.1 = k)) = true
  · rw [if_pos a, if_pos a, List.map_cons, if_neg e]
  · rw [if_neg a, if_neg a]; rfl
theorem putK_cons_eq {p : List Key × V} {r : List (List Key × V)} {k : List Key} {v : V} (e : p.1 = k) (hn : ¬ k ∈ r.map (·.1)) : putK (p :: r) k v = (p.1, v) :: r := by
  unfold putK
  rw [if_pos (any_cons_pos e), List.map_cons, if_pos e, map_same hn]
theorem Dtk.keys : ∀ {ks : List (List Key × D)} {kvs : List (List Key × V)}, Dtk K F ks kvs → kvs.map (·.1) = ks.map (·.1)
  | [], _, h => by rw [show _ = ([] : List (List Key × V)) from h]; rfl
  | (j, d) :: ds, _, ⟨x, r, e1, h1, h2⟩ => by rw [e1, List.map_cons, List.map_cons, Dtk.keys h2]
theorem Dtk.put : ∀ {ks : List (List Key × D)} {kvs : List (List Key × V)} {k : List Key} {d : D} {v : V}, Dtk K F ks kvs → Dt K F d v → (ks.map (·.1)).Nodup → Dtk K F (dput ks k d) (putK kvs k v)
  | [], _, k, d, v, h, g, _ => by rw [show _ = ([] : List (List Key × V)) from h]; exact ⟨v, [], rfl, g, rfl⟩
  | (j, e) :: ds, _, k, d, v, ⟨x, r, e1, h1, h2⟩, g, nd => by
    rw [e1]
    obtain ⟨n1, n2⟩ := List.nodup_cons.mp (show (j :: ds.map (·.1)).Nodup from nd)
    by_cases q : j = k
    · rw [putK_cons_eq (p := (j, x)) q (by rw [Dtk.keys h2, ← q]; exact n1)]
      have z : dput ((j, e) :: ds) k d = (j, d) :: ds := by conv => lhs; unfold dput; rw [if_pos q]
      rw [z]
      exact ⟨v, r, rfl, g, h2⟩
    · rw [putK_cons_ne (p := (j, x)) q]
      have z : dput ((j, e) :: ds) k d = (j, e) :: dput ds k d := by conv => lhs; unfold dput; rw [if_neg q]
      rw [z]
      exact ⟨x, _, rfl, h1, Dtk.put h2 g n2⟩
theorem dput_keys : ∀ (ks : List (List Key × D)) (k : List Key) (d : D), (ks.map (·.1)).Nodup → ((dput ks k d).map (·.1)).Nodup ∧ ∀ j, j ∈ (dput ks k d).map (·.1) → j = k ∨ j ∈ ks.map (·.1)
  | [], k, d, _ => ⟨by simp [dput], by simp [dput]⟩
  | (j, e) :: r, k, d, nd => by
    obtain ⟨n1, n2⟩ := List.nodup_cons.mp (show (j :: r.map (·.1)).Nodup from nd)
    obtain ⟨i1, i2⟩ := dput_keys r k d n2
    unfold dput
    by_cases q : j = k
    · rw [if_pos q]
      exact ⟨nd, fun x hx => .inr hx⟩
    · rw [if_neg q]
      refine ⟨List.nodup_cons.mpr ⟨fun z => ?_, i1⟩, fun x hx => ?_⟩
      · rcases i2 _ z with z | z
        · exact q z
        · exact n1 z
      · rcases List.mem_cons.mp hx with z | z
        · exact .inr (by rw [z]; exact List.mem_cons_self)
        · rcases i2 _ z with z | z
          · exact .inl z
          · exact .inr (List.mem_cons_of_mem _ z)
end
/-! ### in -/
def dInK (neg : Bool) (kvs : List (List Key × D)) : D → Option D
  | .tup ks => (keyOf ks).map fun k => .bl (neg != (dlook kvs k).isSome)
  | .gt ns => some (.bl (neg != (dlook kvs (ns.map Sum.inl)).isSome))
  | _ => none
def dIn (neg : Bool) (x : D) : D → Option D
  | .lst ys => gd (fit x 64 && fit (.lst ys) 64) (.bl (neg != ys.any fun y => deq y x))
  | .tup ys => gd (fit x 64 && fit (.tup ys) 64) (.bl (neg != ys.any fun y => deq y x))
  | .dct _ kvs => dInK neg kvs x
  | .dx _ kvs => (kyX x).map fun p => .bl (neg != (xlook kvs p).isSome)
  | _ => none
section
variable {K : PySem.W.Frag} {X : Cx}
theorem any_py {x : D} {n : Nat} (hx : fit x n = true) : ∀ (ys : List D) (m : Nat), fits ys m = true → ((pys ys).any fun z => PyData.eqv z (py x)) = ys.any fun y => deq y x
  | [], _, _ => rfl
  | y :: ys, m, h => fit_ff (show (fit y m && fits ys m) = true from h) fun h1 h2 => by
    show (PyData.eqv (py y) (py x) || (pys ys).any fun z => PyData.eqv z (py x)) = (deq y x || ys.any fun y => deq y x)
    rw [eqv_py y x _ _ h1 hx, any_py hx ys m h2]
def rIn3 (K : PySem.W.Frag) : R2 := fun x y H Q => rInD K x y H Q ∨ (rInU K x y H Q ∨ rInK K x y H Q)
def rNi3 (K : PySem.W.Frag) : R2 := fun x y H Q => rNotInD K x y H Q ∨ (rNiU K x y H Q ∨ rNiK K x y H Q)
theorem op_in3 (hw : X.w = Wd.w) (hu : X.A.units + 65 < cLine) : OpR X (compareOp .In) (rIn3 X.K) := OpR.or (op_inD hu) (OpR.or (op_inU hu) (op_inK hw (by omega)))
theorem op_ni3 (hw : X.w = Wd.w) (hu : X.A.units + 65 < cLine) : OpR X (compareOp .NotIn) (rNi3 X.K) := OpR.or (op_notInD hu) (OpR.or (op_niU hu) (op_niK hw (by omega)))
theorem bne_ff (b : Bool) : (false != b) = b := by cases b <;> rfl
theorem bne_tt (b : Bool) : (true != b) = !b := by cases b <;> rfl
theorem Dt.dget {fz : Bool} {F H : Hp} {ks : List D} {kvs : List (List Key × D)} {k : List Key} {x y : V} (eF : Ex F H) (hx : Dt K F (.tup ks) x) (hy : Dt K F (.dct fz kvs) y) (ek : keyOf ks = some k) :
    ∃ a o, y = .ref a ∧ DGet H a x o ∧ ((dlook kvs k = none ∧ o = none) ∨ ∃ d v, dlook kvs k = some d ∧ o = some v ∧ Dt K F d v) := by
  obtain ⟨b, vs, rfl, h1, h2⟩ := hx
  obtain ⟨a, ws, rfl, g1, g2⟩ := hy
  rw [keyOf_eq ek] at h2
  rw [h2.key] at h1
  refine ⟨a, valV ws k, rfl, .inr ⟨ws, k, b, Evl.ex_rd eF g1.rd, rfl, eF _ _ h1, rfl⟩, ?_⟩
  rcases g2.look (k := k) with ⟨z1, z2⟩ | ⟨d, v, z1, z2, z3⟩
  · exact .inl ⟨z1, z2⟩
  · exact .inr ⟨d, v, z1, z2, z3⟩
theorem kV_ints (ns : List Int) : (ns.map (Sum.inl : Int → Key)).map kV = ns.map V.int := by rw [List.map_map]; rfl
theorem Dt.dgetG {fz : Bool} {F H : Hp} {ns : List Int} {kvs : List (List Key × D)} {x y : V} (eF : Ex F H) (hx : Dt K F (.gt ns) x) (hy : Dt K F (.dct fz kvs) y) :
    ∃ a o, y = .ref a ∧ DGs K H a x o ∧ ((dlook kvs (ns.map Sum.inl) = none ∧ o = none) ∨ ∃ d v, dlook kvs (ns.map Sum.inl) = some d ∧ o = some v ∧ Dt K F d v) := by
  obtain ⟨b, rfl, st⟩ := hx
  obtain ⟨a, vs, rfl, h1, h2⟩ := hy
  refine ⟨a, valV vs (ns.map Sum.inl), rfl, .inr (.inl ⟨vs, ns.map Sum.inl, b, Evl.ex_rd eF h1.rd, rfl, by rw [kV_ints]; exact st.mono eF, rfl⟩), h2.look⟩
theorem sem_in : OpSem K (rIn3 K) (dIn false) := by
  intro F H x y dx dy d Q eF hx hy e k
  cases dy with
  | lst ys =>
    obtain ⟨h, rfl⟩ := gd_ok (show gd _ _ = some d from e)
    obtain ⟨h1, h2⟩ := Bool.and_eq_true_iff.mp h
    refine .inl ⟨py dx, pys ys, Dt.dp _ _ _ h1 (Dt.mono eF _ _ hx), Dt.dp _ _ _ h2 (Dt.mono eF _ _ hy), fit_shaped h1, fit_shaped h2, ?_⟩
    rw [any_py h1 ys 63 (Bool.and_eq_true_iff.mp (show (Nat.blt 0 64 && fits ys 63) = true from h2)).2, ← bne_ff (ys.any fun y => deq y dx)]
    exact k _ F H (New.refl eF) rfl
  | tup ys =>
    obtain ⟨h, rfl⟩ := gd_ok (show gd _ _ = some d from e)
    obtain ⟨h1, h2⟩ := Bool.and_eq_true_iff.mp h
    refine .inr (.inl ⟨py dx, pys ys, Dt.dp _ _ _ h1 (Dt.mono eF _ _ hx), Dt.dp _ _ _ h2 (Dt.mono eF _ _ hy), fit_shaped h1, fit_shaped h2, ?_⟩)
    rw [any_py h1 ys 63 (Bool.and_eq_true_iff.mp (show (Nat.blt 0 64 && fits ys 63) = true from h2)).2, ← bne_ff (ys.any fun y => deq y dx)]
    exact k _ F H (New.refl eF) rfl
  | dct fz kvs =>
    cases dx with
    | tup ks =>
      obtain ⟨j, ej, rfl⟩ := Option.map_eq_some_iff.mp (show (keyOf ks).map _ = some d from e)
      obtain ⟨a, o, rfl, g, c⟩ := Dt.dget eF hx hy ej
      refine .inr (.inr ⟨a, o, rfl, .inl g, ?_⟩)
      have z : o.isSome = (dlook kvs j).isSome := by rcases c with ⟨z1, z2⟩ | ⟨d, v, z1, z2, _⟩ <;> rw [z1, z2] <;> rfl
      rw [z, ← bne_ff (dlook kvs j).isSome]
      exact k _ F H (New.refl eF) rfl
    | gt ns =>
      cases e
      obtain ⟨a, o, rfl, g, c⟩ := Dt.dgetG eF hx hy
      refine .inr (.inr ⟨a, o, rfl, g, ?_⟩)
      have z : o.isSome = (dlook kvs (ns.map Sum.inl)).isSome := by rcases c with ⟨z1, z2⟩ | ⟨d, v, z1, z2, _⟩ <;> rw [z1, z2] <;> rfl
      rw [z, ← bne_ff (dlook kvs (ns.map Sum.inl)).isSome]
      exact k _ F H (New.refl eF) rfl
    | _ => cases e
  | dx fz kvs =>
    obtain ⟨j, ej, rfl⟩ := Option.map_eq_some_iff.mp (show (kyX dx).map _ = some d from e)
    obtain ⟨a, o, rfl, g, c⟩ := Dt.dgx eF hx hy ej
    refine .inr (.inr ⟨a, o, rfl, .inr (.inr g), ?_⟩)
    have z : o.isSome = (xlook kvs j).isSome := by rcases c with ⟨z1, z2⟩ | ⟨d, v, z1, z2, _⟩ <;> rw [z1, z2] <;> rfl
    rw [z, ← bne_ff (xlook kvs j).isSome]
    exact k _ F H (New.refl eF) rfl
  | _ => cases e
theorem sem_ni : OpSem K (rNi3 K) (dIn true) := by
  intro F H x y dx dy d Q eF hx hy e k
  cases dy with
  | lst ys =>
    obtain ⟨h, rfl⟩ := gd_ok (show gd _ _ = some d from e)
    obtain ⟨h1, h2⟩ := Bool.and_eq_true_iff.mp h
    refine .inl ⟨py dx, pys ys, Dt.dp _ _ _ h1 (Dt.mono eF _ _ hx), Dt.dp _ _ _ h2 (Dt.mono eF _ _ hy), fit_shaped h1, fit_shaped h2, ?_⟩
    rw [any_py h1 ys 63 (Bool.and_eq_true_iff.mp (show (Nat.blt 0 64 && fits ys 63) = true from h2)).2, ← bne_tt (ys.any fun y => deq y dx)]
    exact k _ F H (New.refl eF) rfl
  | tup ys =>
    obtain ⟨h, rfl⟩ := gd_ok (show gd _ _ = some d from e)
    obtain ⟨h1, h2⟩ := Bool.and_eq_true_iff.mp h
    refine .inr (.inl ⟨py dx, pys ys, Dt.dp _ _ _ h1 (Dt.mono eF _ _ hx), Dt.dp _ _ _ h2 (Dt.mono eF _ _ hy), fit_shaped h1, fit_shaped h2, ?_⟩)
    rw [any_py h1 ys 63 (Bool.and_eq_true_iff.mp (show (Nat.blt 0 64 && fits ys 63) = true from h2)).2, ← bne_tt (ys.any fun y => deq y dx)]
    exact k _ F H (New.refl eF) rfl
  | dct fz kvs =>
    cases dx with
    | tup ks =>
      obtain ⟨j, ej, rfl⟩ := Option.map_eq_some_iff.mp (show (keyOf ks).map _ = some d from e)
      obtain ⟨a, o, rfl, g, c⟩ := Dt.dget eF hx hy ej
      refine .inr (.inr ⟨a, o, rfl, .inl g, ?_⟩)
      have z : o.isSome = (dlook kvs j).isSome := by rcases c with ⟨z1, z2⟩ | ⟨d, v, z1, z2, _⟩ <;> rw [z1, z2] <;> rfl
      rw [z, ← bne_tt (dlook kvs j).isSome]
      exact k _ F H (New.refl eF) rfl
    | gt ns =>
      cases e
      obtain ⟨a, o, rfl, g, c⟩ := Dt.dgetG eF hx hy
      refine .inr (.inr ⟨a, o, rfl, g, ?_⟩)
      have z : o.isSome = (dlook kvs (ns.map Sum.inl)).isSome := by rcases c with ⟨z1, z2⟩ | ⟨d, v, z1, z2, _⟩ <;> rw [z1, z2] <;> rfl
      rw [z, ← bne_tt (dlook kvs (ns.map Sum.inl)).isSome]
      exact k _ F H (New.refl eF) rfl
    | _ => cases e
  | dx fz kvs =>
    obtain ⟨j, ej, rfl⟩ := Option.map_eq_some_iff.mp (show (kyX dx).map _ = some d from e)
    obtain ⟨a, o, rfl, g, c⟩ := Dt.dgx eF hx hy ej
    refine .inr (.inr ⟨a, o, rfl, .inr (.inr g), ?_⟩)
    have z : o.isSome = (xlook kvs j).isSome := by rcases c with ⟨z1, z2⟩ | ⟨d, v, z1, z2, _⟩ <;> rw [z1, z2] <;> rfl
    rw [z, ← bne_tt (xlook kvs j).isSome]
    exact k _ F H (New.refl eF) rfl
  | _ => cases e
/-! ### order -/
def dLt : D → D → Option D
  | .int i, .int j => some (.bl (decide (i < j)))
  | .tup xs, .tup ys => match dInts xs, dInts ys with
    | some ns, some ms => some (.bl (HT.lexLt ns ms))
    | _, _ => none
  | _, _ => none
def dLe : D → D → Option D
  | .int i, .int j => some (.bl (decide (i ≤ j)))
  | _, _ => none
def dGt : D → D → Option D
  | .int i, .int j => some (.bl (decide (j < i)))
  | _, _ => none
def dGe : D → D → Option D
  | .int i, .int j => some (.bl (decide (j ≤ i)))
  | _, _ => none
theorem sem_b0 {g : Int → Int → Bool} {f : D → D → Option D} (hf : ∀ dx dy d, f dx dy = some d → ∃ i j, dx = .int i ∧ dy = .int j ∧ d = .bl (g i j)) : OpSem K (rI0 fun i j => .bl (g i j)) f := by
  intro F H x y dx dy d Q eF hx hy e k
  obtain ⟨i, j, rfl, rfl, rfl⟩ := hf _ _ _ e
  exact ⟨i, j, hx, hy, k _ F H (New.refl eF) rfl⟩
theorem sem_le : OpSem K (rI0 fun i j => .bl (decide (i ≤ j))) dLe := sem_b0 fun dx dy d e => by
  cases dx <;> cases dy <;> first | (cases e; exact ⟨_, _, rfl, rfl, rfl⟩) | cases e
theorem sem_gt : OpSem K (rI0 fun i j => .bl (decide (j < i))) dGt := sem_b0 fun dx dy d e => by
  cases dx <;> cases dy <;> first | (cases e; exact ⟨_, _, rfl, rfl, rfl⟩) | cases e
theorem sem_ge : OpSem K (rI0 fun i j => .bl (decide (j ≤ i))) dGe := sem_b0 fun dx dy d e => by
  cases dx <;> cases dy <;> first | (cases e; exact ⟨_, _, rfl, rfl, rfl⟩) | cases e
abbrev rLtI : R2 := rI0 fun i j => .bl (decide (i < j))
def rLt2 (K : PySem.W.Frag) : R2 := fun x y H Q => rLtI x y H Q ∨ rLtT K x y H Q
theorem op_lt2 (hu : X.A.units < cLine) : OpR X (compareOp .Lt) (rLt2 X.K) := OpR.or op_lt (op_ltT hu)
theorem sem_lt : OpSem K (rLt2 K) dLt := by
  intro F H x y dx dy d Q eF hx hy e k
  cases dx with
  | int i =>
    cases dy with
    | int j => cases e; exact .inl ⟨i, j, hx, hy, k _ F H (New.refl eF) rfl⟩
    | _ => cases e
  | tup xs =>
    cases dy with
    | tup ys =>
      have e' : (match dInts xs, dInts ys with | some ns, some ms => some (D.bl (HT.lexLt ns ms)) | _, _ => none) = some d := e
      cases h1 : dInts xs with
      | none => rw [h1] at e'; cases e'
      | some ns =>
        cases h2 : dInts ys with
        | none => rw [h1, h2] at e'; cases e'
        | some ms =>
          rw [h1, h2] at e'
          cases e'
          obtain ⟨a, vs, rfl, g1, g2⟩ := hx
          obtain ⟨b, ws, rfl, g3, g4⟩ := hy
          rw [dInts_eq h1] at g2
          rw [dInts_eq h2] at g4
          rw [Dts.ints.mp g2] at g1
          rw [Dts.ints.mp g4] at g3
          exact .inr ⟨a, b, ns, ms, rfl, rfl, SqT.of (eF _ _ g1), SqT.of (eF _ _ g3), k _ F H (New.refl eF) rfl⟩
    | _ => cases e
  | _ => cases e
/-! ### is None -/
def isNon : D → Bool
  | .non => true
  | _ => false
def dIsN (neg : Bool) (x : D) : D → Option D
  | .non => some (.bl (neg != isNon x))
  | _ => none
abbrev rIsN1 : R2 := fun x y H Q => y = .non ∧ Q (.bl (decide (x = .non))) H
abbrev rNotN1 : R2 := fun x y H Q => y = .non ∧ Q (.bl (!decide (x = .non))) H
theorem Dt.nonIff {F : Hp} {d : D} {x : V} (h : Dt K F d x) : decide (x = .non) = isNon d := by
  cases d with
  | non => cases h; rfl
  | bl _ => cases h; rfl
  | int _ => cases h; rfl
  | str _ => cases h; rfl
  | lst _ => obtain ⟨_, _, rfl, _⟩ := h; rfl
  | tup _ => obtain ⟨_, _, rfl, _⟩ := h; rfl
  | dct _ _ => obtain ⟨_, _, rfl, _⟩ := h; rfl
  | ins _ _ => obtain ⟨_, _, _, rfl, _⟩ := h; rfl
  | scr _ => obtain ⟨_, rfl, _⟩ := h; rfl
  | gt _ => obtain ⟨_, rfl, _⟩ := h; rfl
  | dx _ _ => obtain ⟨_, _, _, _, rfl, _⟩ := h; rfl
  | sl _ => obtain ⟨_, _, rfl, _⟩ := h; rfl
theorem sem_isN : OpSem K rIsN1 (dIsN false) := by
  intro F H x y dx dy d Q eF hx hy e k
  cases dy with
  | non =>
    cases e
    refine ⟨hy, ?_⟩
    rw [hx.nonIff, ← bne_ff (isNon dx)]
    exact k _ F H (New.refl eF) rfl
  | _ => cases e
theorem sem_notN : OpSem K rNotN1 (dIsN true) := by
  intro F H x y dx dy d Q eF hx hy e k
  cases dy with
  | non =>
    cases e
    refine ⟨hy, ?_⟩
    rw [hx.nonIff, ← bne_tt (isNon dx)]
    exact k _ F H (New.refl eF) rfl
  | _ => cases e
end
end Sh
namespace Sh
open PySem PySem.Spec PyProof.Rows L2
variable [Wd]
section
variable {X : Cx} {c : Ct} {W : WX} {pos : Pos} {a b : Expr} {f g : Em} {σ : L2.St} {H : Hp} {Q : VK}
/-! ### and, or, not as values -/
def mNot (f : Em) : Em := bnd f fun d => lift ((asB d).map fun b => .bl (!b))
def mAnd (f g : Em) : Em := bnd f fun d => bnd (lift (asB d)) fun b => if b = true then g else ret (.bl false)
def mOr (f g : Em) : Em := bnd f fun d => bnd (lift (asB d)) fun b => if b = true then ret (.bl true) else g
theorem asB_eq {d : D} {b : Bool} (h : asB d = some b) : d = .bl b := by
  cases d with
  | bl x => cases h; rfl
  | _ => cases h
theorem bnd_lift {α β : Type} {o : Option α} {k : α → Mx β} {env : Env} {μ : Mu} {a : α} (h : o = some a) : bnd (lift o) k env μ = k a env μ := by
  subst h; rfl
theorem bnd_lift_none {α β : Type} {k : α → Mx β} {env : Env} {μ : Mu} : bnd (lift (none : Option α)) k env μ = none := rfl
theorem de_not (ha : PE X a (T c W f)) : PE X (.UnaryOp .Not a pos) (T c W (mNot f)) := impE (pe_not ha) fun σ H Q h => by
  obtain ⟨yy, F, env, μ, as, R, q⟩ := h
  refine (aft_bind (P := PD c) R q).imp fun v H1 ⟨d, F1, μ1, as1, x1, y1, p1, R1, a1⟩ => ?_
  obtain ⟨z, ez, k⟩ := aft_lift R1 a1
  obtain ⟨b, hb, rfl⟩ := Option.map_eq_some_iff.mp ez
  rw [asB_eq hb] at p1
  exact ⟨b, p1, k _ F1 H1 (New.refl R1.ex) rfl⟩
theorem de_and {rest : List Expr} (ha : PE X a (T c W f)) (hb : PE X (.BoolOp .And (b :: rest) pos) (T c W g)) : PE X (.BoolOp .And (a :: b :: rest) pos) (T c W (mAnd f g)) := impE (pe_and ha hb) fun σ H Q h => by
  obtain ⟨yy, F, env, μ, as, R, q⟩ := h
  refine (aft_bind (P := PD c) R q).imp fun v H1 ⟨d, F1, μ1, as1, x1, y1, p1, R1, a1⟩ => ?_
  cases e : asB d with
  | none => rw [e, bnd_lift_none] at a1; exact a1.elim
  | some y =>
    rw [e, bnd_lift rfl] at a1
    rw [asB_eq e] at p1
    refine ⟨y, p1, ?_⟩
    cases y with
    | true =>
      rw [if_pos rfl] at a1 ⊢
      exact ⟨yy, F1, env, μ1, as1, R1, a1⟩
    | false =>
      rw [if_neg Bool.false_ne_true] at a1 ⊢
      exact aft_ret R1 a1 _ F1 H1 (New.refl R1.ex) rfl
theorem de_or {rest : List Expr} (ha : PE X a (T c W f)) (hb : PE X (.BoolOp .Or (b :: rest) pos) (T c W g)) : PE X (.BoolOp .Or (a :: b :: rest) pos) (T c W (mOr f g)) := impE (pe_or ha hb) fun σ H Q h => by
  obtain ⟨yy, F, env, μ, as, R, q⟩ := h
  refine (aft_bind (P := PD c) R q).imp fun v H1 ⟨d, F1, μ1, as1, x1, y1, p1, R1, a1⟩ => ?_
  cases e : asB d with
  | none => rw [e, bnd_lift_none] at a1; exact a1.elim
  | some y =>
    rw [e, bnd_lift rfl] at a1
    rw [asB_eq e] at p1
    refine ⟨y, p1, ?_⟩
    cases y with
    | true =>
      rw [if_pos rfl] at a1 ⊢
      exact aft_ret R1 a1 _ F1 H1 (New.refl R1.ex) rfl
    | false =>
      rw [if_neg Bool.false_ne_true] at a1 ⊢
      exact ⟨yy, F1, env, μ1, as1, R1, a1⟩
theorem de_one {op} (h : PE X a (T c W f)) : PE X (.BoolOp op [a] pos) (T c W f) := pe_one h
/-! ### tests -/
variable {p q : Mx Bool}
def bNot (p : Mx Bool) : Mx Bool := bnd p fun b => ret (!b)
def bAnd (p q : Mx Bool) : Mx Bool := bnd p fun b => if b = true then q else ret false
def bOr (p q : Mx Bool) : Mx Bool := bnd p fun b => if b = true then ret true else q
theorem dt_not (ha : PT X a (TB c W p)) : PT X (.UnaryOp .Not a pos) (TB c W (bNot p)) := impT (pt_not ha) fun σ H Q h => by
  obtain ⟨yy, F, env, μ, as, R, q⟩ := h
  refine (aft_bind (P := PB) R q).imp fun v H1 ⟨d, F1, μ1, as1, x1, y1, p1, R1, a1⟩ => ?_
  subst p1
  exact aft_ret R1 a1 _ F1 H1 (New.refl R1.ex) rfl
theorem dw_and1 (ha : PT X a (TB c W p)) : PW X (.BoolOp .And [a] pos) (TB c W p) := pw_and1 ha
theorem dw_or1 (ha : PT X a (TB c W p)) : PW X (.BoolOp .Or [a] pos) (TB c W p) := pw_or1 ha
theorem dw_and {rest : List Expr} (ha : PT X a (TB c W p)) (hb : PW X (.BoolOp .And (b :: rest) pos) (TB c W q)) : PW X (.BoolOp .And (a :: b :: rest) pos) (TB c W (bAnd p q)) := impW (pw_and ha hb) fun σ H Q h => by
  obtain ⟨yy, F, env, μ, as, R, q⟩ := h
  refine (aft_bind (P := PB) R q).imp fun v H1 ⟨d, F1, μ1, as1, x1, y1, p1, R1, a1⟩ => ?_
  subst p1
  cases v with
  | true =>
    rw [if_pos rfl] at a1 ⊢
    exact ⟨yy, F1, env, μ1, as1, R1, a1⟩
  | false =>
    rw [if_neg Bool.false_ne_true] at a1 ⊢
    exact aft_ret R1 a1 _ F1 H1 (New.refl R1.ex) rfl
theorem dw_or {rest : List Expr} (ha : PT X a (TB c W p)) (hb : PW X (.BoolOp .Or (b :: rest) pos) (TB c W q)) : PW X (.BoolOp .Or (a :: b :: rest) pos) (TB c W (bOr p q)) := impW (pw_or ha hb) fun σ H Q h => by
  obtain ⟨yy, F, env, μ, as, R, q⟩ := h
  refine (aft_bind (P := PB) R q).imp fun v H1 ⟨d, F1, μ1, as1, x1, y1, p1, R1, a1⟩ => ?_
  subst p1
  cases v with
  | true =>
    rw [if_pos rfl] at a1 ⊢
    exact aft_ret R1 a1 _ F1 H1 (New.refl R1.ex) rfl
  | false =>
    rw [if_neg Bool.false_ne_true] at a1 ⊢
    exact ⟨yy, F1, env, μ1, as1, R1, a1⟩
theorem dt_w (h : PW X a (TB c W p)) : PT X a (TB c W p) := h.pt
/-- truth of any value -/
def truth : D → Option Bool
  | .non => some false
  | .bl b => some b
  | .int i => some (i != 0)
  | .lst xs => some (!xs.isEmpty)
  | .tup xs => some (!xs.isEmpty)
  | _ => none
def mTru (f : Em) : Mx Bool := bnd f fun d => lift (truth d)
theorem isE {K : PySem.W.Frag} {F : Hp} {ds : List D} {vs : List V} (h : Dts K F ds vs) : vs.isEmpty = ds.isEmpty := by
  have l := h.len
  cases vs <;> cases ds <;> first | rfl | simp at l
theorem dt_truth (ha : PE X a (T c W f)) (hK : X.K = c.K) (he : ∀ whole, isTrue a X.env whole = (do let v ← whole; standAt a.pos; holding [v] (truthy v))) : PT X a (TB c W (mTru f)) := impT (pt_truth ha he) fun σ H Q h => by
  obtain ⟨yy, F, env, μ, as, R, q⟩ := h
  refine (aft_bind (P := PD c) R q).imp fun v H1 ⟨d, F1, μ1, as1, x1, y1, p1, R1, a1⟩ => ?_
  obtain ⟨z, ez, k⟩ := aft_lift R1 a1
  refine ⟨z, ?_, k z F1 H1 (New.refl R1.ex) rfl⟩
  cases d with
  | non => cases ez; cases p1; rfl
  | bl b => cases ez; cases p1; rfl
  | int i => cases ez; cases p1; rfl
  | lst xs =>
    cases ez
    obtain ⟨a, vs, rfl, h1, h2⟩ := p1
    exact .inl ⟨vs, SqL.of (R1.ex _ _ h1), by rw [isE h2]⟩
  | tup xs =>
    cases ez
    obtain ⟨a, vs, rfl, h1, h2⟩ := p1
    exact .inr (.inl ⟨vs, SqT.of (R1.ex _ _ h1), by rw [isE h2]⟩)
  | _ => cases ez
/-- a comparison, a chain as a test: .. -/
def mIf (p : Mx Bool) (f g : Em) : Em := bnd p fun b => if b = true then f else g
theorem de_if {t : Expr} (ht : PT X t (TB c W p)) (ha : PE X a (T c W f)) (hb : PE X b (T c W g)) : PE X (.IfExp t a b pos) (T c W (mIf p f g)) := impE (pe_ifExp ht ha hb) fun σ H Q h => by
  obtain ⟨yy, F, env, μ, as, R, q⟩ := h
  refine (aft_bind (P := PB) R q).imp fun v H1 ⟨d, F1, μ1, as1, x1, y1, p1, R1, a1⟩ => ?_
  subst p1
  cases v with
  | true =>
    rw [if_pos rfl] at a1 ⊢
    exact ⟨yy, F1, env, μ1, as1, R1, a1⟩
  | false =>
    rw [if_neg Bool.false_ne_true] at a1 ⊢
    exact ⟨yy, F1, env, μ1, as1, R1, a1⟩
/-- a op b op' c -/
def mChain (g g' : D → D → Option D) (f1 f2 f3 : Em) : Em := bnd f1 fun x => bnd f2 fun y => bnd (lift ((g x y).bind asB)) fun b => if b = true then bnd f3 fun z => lift (g' y z) else ret (.bl false)
theorem t_chain {r r' : R2} {g g' : D → D → Option D} {f1 f2 f3 : Em} (hr : OpSem c.K r g) (hr' : OpSem c.K r' g') (h : T c W (mChain g g' f1 f2 f3) σ H Q) : tChain r r' (T c W f1) (T c W f2) (T c W f3) σ H Q := by
  obtain ⟨yy, F, env, μ, as, R, a⟩ := h
  refine (aft_bind (P := PD c) R a).imp fun v H1 ⟨d, F1, μ1, as1, x1, y1, p1, R1, a1⟩ => ?_
  refine (aft_bind (P := PD c) R1 a1).imp fun v2 H2 ⟨d2, F2, μ2, as2, x2, y2, p2, R2, a2⟩ => ?_
  cases e1 : g d d2 with
  | none => rw [e1] at a2; exact (show False from a2).elim
  | some z =>
    rw [e1] at a2
    cases e2 : asB z with
    | none => rw [show (some z).bind asB = asB z from rfl, e2, bnd_lift_none] at a2; exact a2.elim
    | some y =>
      rw [show (some z).bind asB = asB z from rfl, e2, bnd_lift rfl] at a2
      rw [asB_eq e2] at e1
      refine hr F2 H2 v v2 d d2 _ _ R2.ex (Dt.mono x2 _ _ p1) p2 e1 fun w F3 H3 n pw => ?_
      refine ⟨y, pw, ?_⟩
      have R3 := R2.new n
      have a3 := Aft.mono n.f (AsLe.refl _) a2
      cases y with
      | true =>
        rw [if_pos rfl] at a3 ⊢
        refine (aft_bind (P := PD c) R3 a3).imp fun v4 H4 ⟨d4, F4, μ4, as4, x4, y4, p4, R4, a4⟩ => ?_
        obtain ⟨u, eu, k⟩ := aft_lift R4 a4
        exact hr' F4 H4 v2 v4 d2 d4 u Q R4.ex (Dt.mono (n.f.trans x4) _ _ p2) p4 eu k
      | false =>
        rw [if_neg Bool.false_ne_true] at a3 ⊢
        exact aft_ret R3 a3 _ F3 H3 (New.refl R3.ex) rfl
theorem de_chain {e1 e2 e3 : Expr} {op op' : CmpOp} {r r' : R2} {g g' : D → D → Option D} {f1 f2 f3 : Em} (ho : OpR X (compareOp op) r) (hr : OpSem c.K r g) (ho' : OpR X (compareOp op') r') (hr' : OpSem c.K r' g') (h1 : PE X e1 (T c W f1)) (h2 : PE X e2 (T c W f2)) (h3 : PE X e3 (T c W f3))
    (hm : lastMarks [op, op'] [e2, e3] = false := by with_unfolding_all rfl) : PE X (.Compare e1 [op, op'] [e2, e3] pos) (T c W (mChain g g' f1 f2 f3)) :=
  impE (pe_chain ho ho' h1 h2 h3 hm) fun _ _ _ h => t_chain hr hr' h
theorem dt_chain {e1 e2 e3 : Expr} {op op' : CmpOp} {r r' : R2} {g g' : D → D → Option D} {f1 f2 f3 : Em} (ho : OpR X (compareOp op) r) (hr : OpSem c.K r g) (ho' : OpR X (compareOp op') r') (hr' : OpSem c.K r' g') (h1 : PE X e1 (T c W f1)) (h2 : PE X e2 (T c W f2)) (h3 : PE X e3 (T c W f3))
    (hm : lastMarks [op, op'] [e2, e3] = false := by with_unfolding_all rfl) : PT X (.Compare e1 [op, op'] [e2, e3] pos) (TB c W (mTest (mChain g g' f1 f2 f3))) :=
  impT (pt_chain ho ho' h1 h2 h3 hm) fun _ _ _ h => by
    have q := t_test h
    unfold tTest at q ⊢
    exact t_chain hr hr' q
/-! ### -a -/
def mNeg (f : Em) : Em := bnd f fun d => lift (match d with | .int i => some (.int (-i)) | _ => none)
theorem de_neg (ha : PE X a (T c W f)) : PE X (.UnaryOp .USub a pos) (T c W (mNeg f)) := impE (pe_un un_neg ha) fun σ H Q h => by
  obtain ⟨yy, F, env, μ, as, R, q⟩ := h
  refine (aft_bind (P := PD c) R q).imp fun v H1 ⟨d, F1, μ1, as1, x1, y1, p1, R1, a1⟩ => ?_
  obtain ⟨z, ez, k⟩ := aft_lift R1 a1
  cases d with
  | int i => cases ez; exact ⟨i, p1, k _ F1 H1 (New.refl R1.ex) rfl⟩
  | _ => cases ez
/-! ### argument lists, displays -/
variable {es : List Expr} {l : Mx (List D)}
def mNil : Mx (List D) := ret []
def mCons (f : Em) (l : Mx (List D)) : Mx (List D) := bnd f fun d => bnd l fun ds => ret (d :: ds)
theorem da_nil : PA X [] (TL c W mNil) := impA pa_nil fun σ H Q h => by
  obtain ⟨yy, F, env, μ, as, R, q⟩ := h
  exact aft_ret R q _ F H (New.refl R.ex) rfl
theorem da_cons (ha : PE X a (T c W f)) (hr : PA X es (TL c W l)) (hs : starEach (a :: es) X.env = (false, eval a X.env) :: starEach es X.env := by rfl) : PA X (a :: es) (TL c W (mCons f l)) := impA (pa_cons ha hr hs) fun σ H Q h => by
  obtain ⟨yy, F, env, μ, as, R, q⟩ := h
  refine (aft_bind (P := PD c) R q).imp fun v H1 ⟨d, F1, μ1, as1, x1, y1, p1, R1, a1⟩ => ?_
  refine (aft_bind (P := PL c) R1 a1).imp fun v2 H2 ⟨d2, F2, μ2, as2, x2, y2, p2, R2, a2⟩ => ?_
  exact aft_ret R2 a2 _ F2 H2 (New.refl R2.ex) ⟨v, v2, rfl, Dt.mono x2 _ _ p1, p2⟩
def mTup (l : Mx (List D)) : Em := bnd l fun ds => lift (gd (szb ds.length) (.tup ds))
def mLst (l : Mx (List D)) : Em := bnd l fun ds => lift (gd (szb ds.length) (.lst ds))
theorem de_tup {x1} (h : PA X es (TL c W l)) : PE X (.Tuple es x1 pos) (T c W (mTup l)) := impE (pe_tup h) fun σ H Q h => by
  obtain ⟨yy, F, env, μ, as, R, q⟩ := h
  refine (aft_bind (P := PL c) R q).imp fun v H1 ⟨d, F1, μ1, as1, x1, y1, p1, R1, a1⟩ => ?_
  obtain ⟨z, ez, k⟩ := aft_lift R1 a1
  obtain ⟨hz, rfl⟩ := gd_ok ez
  refine ⟨by rw [p1.len]; exact szb_ok hz, fun p hp => ?_⟩
  have n := new1 (o := .tup v) R1.ex hp
  exact k _ _ _ n ⟨p, v, rfl, upd_same, Dts.mono n.f _ _ p1⟩
theorem de_lst (h : PA X es (TL c W l)) : PE X (.List es pos) (T c W (mLst l)) := impE (pe_lst h) fun σ H Q h => by
  obtain ⟨yy, F, env, μ, as, R, q⟩ := h
  refine (aft_bind (P := PL c) R q).imp fun v H1 ⟨d, F1, μ1, as1, x1, y1, p1, R1, a1⟩ => ?_
  obtain ⟨z, ez, k⟩ := aft_lift R1 a1
  obtain ⟨hz, rfl⟩ := gd_ok ez
  refine ⟨by rw [p1.len]; exact szb_ok hz, fun p hp => ?_⟩
  have n := new1 (o := .lst v) R1.ex hp
  exact k _ _ _ n ⟨p, v, rfl, upd_same, Dts.mono n.f _ _ p1⟩
/-- *e, .. -/
def asSeq : D → Option (List D)
  | .tup xs => some xs
  | .lst xs => some xs
  | .sl xs => some xs
  | _ => none
def mStar (f : Em) (l : Mx (List D)) : Mx (List D) := bnd f fun d => bnd (lift (asSeq d)) fun xs => bnd l fun ds => ret (xs ++ ds)
theorem da_star {p : Pos} (ha : PE X a (T c W f)) (hr : PA X es (TL c W l)) (hK : X.K = c.K) (he : starEach (.Starred a p :: es) X.env = (true, eval a X.env) :: starEach es X.env := by rfl) : PA X (.Starred a p :: es) (TL c W (mStar f l)) := by
  refine ⟨fun pos pins s σ H Q I h => ?_⟩
  obtain ⟨yy, F, env, μ, as, R, q⟩ := h
  refine PySem.W.items_star (thn (ha.run pins s σ H _ I (aft_bind (P := PD c) R q)) fun u s1 ⟨v, H1, I1, rv, d, F1, μ1, as1, x1, y1, p1, R1, a1⟩ => ?_) he
  cases e : asSeq d with
  | none => rw [e, bnd_lift_none] at a1; exact a1.elim
  | some xs =>
    rw [e, bnd_lift rfl] at a1
    have key : ∃ (b : Addr) (vs : List V) (its : List Value) (T : String) (o : Obj) (n : Nat), v = .ref b ∧ Dts c.K F1 xs vs ∧ Vals vs its ∧ (T = "list" ∨ T = "tuple") ∧ s1.heap.get? b = some o ∧ o.cls = .type T ∧ o.data = .seq its.toArray n ∧ its.length ≤ sizeLine := by
      cases d with
      | tup ys =>
        cases e
        obtain ⟨b, vs, rfl, h1, h2⟩ := p1
        obtain ⟨its, r, ⟨o, ho, hc, n, hd⟩, hz⟩ := I1.tuple (SqT.of (R1.ex _ _ h1))
        exact ⟨b, vs, its, "tuple", o, n, rfl, h2, r, .inr rfl, ho, hc, hd, by rw [← r.length]; exact hz⟩
      | lst ys =>
        cases e
        obtain ⟨b, vs, rfl, h1, h2⟩ := p1
        obtain ⟨its, n, r, ho, hz⟩ := I1.lst (R1.ex _ _ h1)
        exact ⟨b, vs, its, "list", _, n, rfl, h2, r, .inl rfl, ho, rfl, rfl, by rw [← r.length]; exact hz⟩
      | sl ys =>
        cases e
        obtain ⟨b, vs, rfl, ⟨o, h1⟩, h2⟩ := p1
        obtain ⟨its, r, ⟨o2, n, ho, hc, _, hd⟩, hz⟩ := I1.list (.inl (.inr ⟨o, R1.ex _ _ h1⟩))
        exact ⟨b, vs, its, "list", o2, n, rfl, h2, r, .inl rfl, ho, hc, hd, by rw [← r.length]; exact hz⟩
      | _ => cases e
    obtain ⟨b, vs, its, T, o, n, rfl, h2, r, hT, ho, hc, hd, hz⟩ := key
    obtain rfl : u = Value.ref b := rv
    have fin : wpAny (model X.prog X.w) X.A (collect (.ref b)) (fun here s₂ => wpAny (model X.prog X.w) X.A (spliced (backTo pos (starEach es X.env))) (fun ws s₃ => AP X pins σ Q (here ++ ws) s₃) X.xe s₂) X.xe s1 := by
      refine wpAny_collect_seq b hT ho hc hd (fun h' hk => ?_) (by simpa using hz)
      have I2 : Inv X pins σ H1 { s1 with heap := h' } := I1.kept (t' := s1.toks) hk
      refine thn (hr.run pos pins _ σ H1 _ I2 (aft_bind (P := PL c) R1 a1)) fun us s3 ⟨ws, H3, I3, rw3, d2, F2, μ2, as2, x2, y2, p2, R2, a2⟩ => ?_
      refine ⟨vs ++ ws, H3, I3, ?_, ?_⟩
      · have := r.append rw3
        simpa using this
      · exact aft_ret R2 a2 _ F2 H3 (New.refl R2.ex) (Dts.app (Dts.mono x2 _ _ h2) p2)
    have hT' : s1.TypeIs (.ref b) T := ⟨o, ho, hc⟩
    unfold PySem.W.StarOf notIterableAtAll
    rcases hT with rfl | rfl
    · exact wpAny_bind (wpAny_specialOf hT' PySem.F.slot_list_iter.lookup (wpAny_pure ⟨rfl, fin⟩))
    · exact wpAny_bind (wpAny_specialOf hT' PySem.F.slot_tuple_iter.lookup (wpAny_pure ⟨rfl, fin⟩))
end
end Sh
namespace Sh
open PySem PySem.Spec PyProof.Rows L2
variable [Wd]
/-! ### items -/
def dIx : D → D → Option D
  | .lst xs, .int i => atI xs i
  | .sl xs, .int i => atI xs i
  | .tup xs, .int i => atI xs i
  | .dct _ kvs, .tup ks => (keyOf ks).bind fun k => dlook kvs k
  | .dct _ kvs, .gt ns => dlook kvs (ns.map Sum.inl)
  | .dx _ kvs, y => (kyX y).bind fun p => xlook kvs p
  | .gt ns, .int i => (atI ns i).map D.int
  | _, _ => none
section
variable {K : PySem.W.Frag} {X : Cx}
theorem Dts.atI {F : Hp} {ds : List D} {vs : List V} {i : Int} {d : D} (h : Dts K F ds vs) (e : L2.atI ds i = some d) : ∃ v, L2.atI vs i = some v ∧ Dt K F d v := by
  unfold L2.atI at e ⊢
  rw [h.len]
  cases q : ixN ds.length i with
  | none => rw [q] at e; cases e
  | some j =>
    rw [q] at e
    exact h.at e
def rIxK (K : PySem.W.Frag) : R2 := fun x y H Q => ∃ a v, x = .ref a ∧ DGs K H a y (some v) ∧ Q v H
/-- d[y], there -/
theorem dgs_item {pins : List (Addr × Obj)} {σ : L2.St} {H : Hp} {s : Shared} {a : Addr} {y v : V} {u : Value} {E : Value → Shared → Prop} {Q : Value → Shared → Prop} (hw : X.w = Wd.w) (hu : X.A.units + 9 < cLine) (I : Inv X pins σ H s) (g : DGs X.K H a y (some v)) (ry : RelV y u) (h : ∀ w' s', Inv X pins σ H s' → RelV v w' → Q w' s') :
    wpAny (model X.prog X.w) X.A (getItem (.ref a) u) Q E s := by
  rcases g with g | ⟨kvs, k, b, e, rfl, st, l⟩ | g
  rotate_left 2
  · obtain ⟨xs, b, k, rfl, hs, dd, hk, m⟩ := dgx_of hw I g
    obtain rfl : u = Value.ref b := ry
    cases ep : atKey xs k with
    | none => rw [ep] at m; cases m
    | some p =>
      rw [ep] at m
      obtain ⟨v', ev, rv⟩ := m
      cases ev
      exact wpAny_getItem_heap (ikd_room hu) hk dd ep (h p.2 _ (I.tok _) rv)
  · exact d_getItem (by omega) I g ry h
  · obtain rfl : u = Value.ref b := ry
    obtain ⟨z, hd, xs, rel, dd⟩ := dt_rd I.hok e
    obtain ⟨w', hw, rw'⟩ := RelO.some_of (v := v) (o := (atKey xs k).map (·.2)) (by rw [l]; exact rel.val k)
    obtain ⟨p, hp, hp2⟩ := Option.map_eq_some_iff.mp hw
    refine wpAny_getItem_heap (tupleKind_room_in1 (by omega)) (st_key I st) dd hp ?_
    rw [hp2]
    exact h w' _ (I.tok _) rw'
theorem dgs_type (hw : X.w = Wd.w) {pins : List (Addr × Obj)} {σ : L2.St} {H : Hp} {s : Shared} {a : Addr} {y : V} {o : Option V} (I : Inv X pins σ H s) (g : DGs X.K H a y o) : s.TypeIs (.ref a) "dict" := by
  rcases g with g | ⟨kvs, k, b, e, rfl, st, l⟩ | g
  rotate_left 2
  · obtain ⟨xs, b, k, rfl, hs, dd, hk, m⟩ := dgx_of hw I g
    exact dd.typeIs
  · exact dict_typeIs I g
  · obtain ⟨z, hd, xs, rel, dd⟩ := dt_rd I.hok e
    exact dd.typeIs
theorem ix_K (hw : X.w = Wd.w) (hu : X.A.units + 9 < cLine) : IxR X (rIxK X.K) := by
  intro value slice pins s σ H x y v u Q I rx ry h hs
  obtain ⟨a, w, rfl, g, q⟩ := h
  obtain rfl : v = Value.ref a := rx
  unfold subscriptTail
  have hT := dgs_type hw I g
  refine wpAny_bind ?_
  rw [getitemInPython_of_ne hT.not_modules]
  refine wpAny_bind (wpAny_specialOf hT PySem.F.slot_dict_getitem.lookup ?_)
  have fin : wpAny (model X.prog X.w) X.A (subscripted slice false (.ref a) u) (fun r s₃ => wpAny (model X.prog X.w) X.A (letTemporaryGo value (.ref a) r >>= fun _ => pure r) (EP X pins σ Q) X.xe s₃) X.xe s := by
    rw [hs]
    exact wpAny_operating (dgs_item hw hu I g ry fun w' s3 I3 rw' => wpAny_bind (wpAny_letTemporaryGo (wpAny_pure ⟨w, H, I3, rw', q⟩)))
  first
    | exact wpAny_pure (wpAny_bind fin)
    | exact wpAny_bind (wpAny_pure (wpAny_bind fin))
    | exact wpAny_bind fin
def rIx3 (K : PySem.W.Frag) : R2 := fun x y H Q => rIxL K x y H Q ∨ (rIxT K x y H Q ∨ rIxK K x y H Q)
theorem ix_3 (hw : X.w = Wd.w) (hu : X.A.units + 9 < cLine) : IxR X (rIx3 X.K) := ix_list.or (ix_tup.or (ix_K hw hu))
theorem sem_ix : OpSem K (rIx3 K) dIx := by
  intro F H x y dx dy d Q eF hx hy e k
  cases dx with
  | lst xs =>
    cases dy with
    | int i =>
      obtain ⟨a, vs, rfl, h1, h2⟩ := hx
      obtain ⟨v, hv, hd⟩ := h2.atI (show L2.atI xs i = some d from e)
      exact .inl ⟨a, vs, i, v, rfl, hy, SqL.of (eF _ _ h1), hv, k v F H (New.refl eF) hd⟩
    | _ => cases e
  | sl xs =>
    cases dy with
    | int i =>
      obtain ⟨a, vs, rfl, ⟨o, h1⟩, h2⟩ := hx
      obtain ⟨v, hv, hd⟩ := h2.atI (show L2.atI xs i = some d from e)
      exact .inl ⟨a, vs, i, v, rfl, hy, .inl (.inr ⟨o, eF _ _ h1⟩), hv, k v F H (New.refl eF) hd⟩
    | _ => cases e
  | tup xs =>
    cases dy with
    | int i =>
      obtain ⟨a, vs, rfl, h1, h2⟩ := hx
      obtain ⟨v, hv, hd⟩ := h2.atI (show L2.atI xs i = some d from e)
      exact .inr (.inl ⟨a, vs, i, v, rfl, hy, SqT.of (eF _ _ h1), hv, k v F H (New.refl eF) hd⟩)
    | _ => cases e
  | dct fz kvs =>
    cases dy with
    | tup ks =>
      obtain ⟨j, ej, el⟩ := Option.bind_eq_some_iff.mp (show (keyOf ks).bind _ = some d from e)
      obtain ⟨a, o, rfl, g, c⟩ := Dt.dget eF hy hx ej
      rcases c with ⟨z1, z2⟩ | ⟨d', v, z1, z2, z3⟩
      · rw [z1] at el; cases el
      · rw [z1] at el; cases el
        subst z2
        exact .inr (.inr ⟨a, v, rfl, .inl g, k v F H (New.refl eF) z3⟩)
    | gt ns =>
      have el : dlook kvs (ns.map Sum.inl) = some d := e
      obtain ⟨a, o, rfl, g, c⟩ := Dt.dgetG eF hy hx
      rcases c with ⟨z1, z2⟩ | ⟨d', v, z1, z2, z3⟩
      · rw [z1] at el; cases el
      · rw [z1] at el; cases el
        subst z2
        exact .inr (.inr ⟨a, v, rfl, g, k v F H (New.refl eF) z3⟩)
    | _ => cases e
  | dx fz kvs =>
    obtain ⟨j, ej, el⟩ := Option.bind_eq_some_iff.mp (show (kyX dy).bind _ = some d from e)
    obtain ⟨a, o, rfl, g, c⟩ := Dt.dgx eF hy hx ej
    have el : xlook kvs j = some d := el
    rcases c with ⟨z1, z2⟩ | ⟨d', v, z1, z2, z3⟩
    · rw [z1] at el; cases el
    · rw [z1] at el; cases el
      subst z2
      exact .inr (.inr ⟨a, v, rfl, .inr (.inr g), k v F H (New.refl eF) z3⟩)
  | gt ns =>
    cases dy with
    | int i =>
      obtain ⟨a, rfl, st⟩ := hx
      obtain ⟨m, hm, rfl⟩ := Option.map_eq_some_iff.mp (show (atI ns i).map D.int = some d from e)
      refine .inr (.inl ⟨a, ns.map V.int, i, .int m, rfl, hy, st.sq eF, ?_, k _ F H (New.refl eF) rfl⟩)
      unfold atI at hm ⊢
      rw [List.length_map]
      obtain ⟨j, h1, h2⟩ := Option.bind_eq_some_iff.mp hm
      rw [h1, Option.bind_some, List.getElem?_map, h2]
      rfl
    | _ => cases e
  | _ => cases e
variable {c : Ct} {W : WX} {pos : Pos} {a b : Expr} {f g f1 f2 : Em}
theorem de_ix (hw : X.w = Wd.w) (hu : X.A.units + 9 < cLine) (hK : X.K = c.K) (ha : PE X a (T c W f1)) (hb : PE X b (T c W f2)) (hs : PlainIx b) : PE X (.Subscript a b pos) (T c W (mBin dIx f1 f2)) :=
  impE (pe_ix (ix_3 hw hu) ha hb hs) fun _ _ _ h => t_bin (by rw [hK]; exact sem_ix) h
/-! ### slices -/
def cutD (xs : List D) (lo hi : Option Int) : List D := (xs.drop (HT.sIx xs.length 0 lo)).take (HT.sIx xs.length xs.length hi - HT.sIx xs.length 0 lo)
theorem Dts.cut {F : Hp} {ds : List D} {vs : List V} (h : Dts K F ds vs) (lo hi : Option Int) : Dts K F (cutD ds lo hi) (cutV vs lo hi) := by
  unfold cutD cutV
  rw [h.len]
  exact Dts.take _ (Dts.drop _ h)
def dSl : D → Option Int → Option Int → Option D
  | .lst xs, lo, hi => some (.lst (cutD xs lo hi))
  | .tup xs, lo, hi => some (.tup (cutD xs lo hi))
  | _, _, _ => none
theorem cutD_whole {xs : List D} {lo hi : Option Int} (h1 : HT.sIx xs.length 0 lo = 0) (h2 : HT.sIx xs.length xs.length hi = xs.length) : cutD xs lo hi = xs := by
  unfold cutD
  rw [h1, h2]
  simp
def rSl2 (K : PySem.W.Frag) : V → Option Int → Option Int → Hp → VK → Prop := fun x lo hi H Q => rSlL K x lo hi H Q ∨ rSlA K x lo hi H Q
theorem sl_2 : SlR X (rSl2 X.K) := sl_list.or sl_tupA
theorem sem_sl {F H : Hp} {x : V} {dx d : D} {lo hi : Option Int} {Q : VK} (eF : Ex F H) (hx : Dt K F dx x) (e : dSl dx lo hi = some d) (k : ∀ v F' H', New F H F' H' → Dt K F' d v → Q v H') : rSl2 K x lo hi H Q := by
  cases dx with
  | lst xs =>
    cases e
    obtain ⟨a, vs, rfl, h1, h2⟩ := hx
    refine .inl ⟨a, vs, rfl, SqL.of (eF _ _ h1), fun p hp => ?_⟩
    have n := new1 (o := .lst (cutV vs lo hi)) eF hp
    exact k _ _ _ n ⟨p, _, rfl, upd_same, (Dts.mono n.f _ _ h2).cut lo hi⟩
  | tup xs =>
    cases e
    obtain ⟨a, vs, rfl, h1, h2⟩ := hx
    refine .inr ⟨a, vs, rfl, SqT.of (eF _ _ h1), fun z => ?_, fun _ p hp => ?_⟩
    · rw [h2.len] at z
      rw [cutD_whole z.1 z.2] at k
      exact k _ F H (New.refl eF) ⟨a, vs, rfl, h1, h2⟩
    · have n := new1 (o := .tup (cutV vs lo hi)) eF hp
      exact k _ _ _ n ⟨p, _, rfl, upd_same, (Dts.mono n.f _ _ h2).cut lo hi⟩
  | _ => cases e
def asI : D → Option Int
  | .int i => some i
  | _ => none
theorem asI_eq {d : D} {i : Int} (h : asI d = some i) : d = .int i := by
  cases d with
  | int x => cases h; rfl
  | _ => cases h
def mPart : Option Em → Mx (Option Int)
  | none => ret none
  | some f => bnd f fun d => lift ((asI d).map some)
def mSl (f : Em) (lo hi : Option Em) : Em := bnd f fun d => bnd (mPart lo) fun i => bnd (mPart hi) fun j => lift (dSl d i j)
abbrev PO' : Pr (Option Int) (Option Int) := fun _ _ b b' => b' = b
theorem do_none : PO X none (TX PO' c W (mPart none)) := ⟨fun pins s σ H Q I h => by
  obtain ⟨yy, F, env, μ, as, R, q⟩ := h
  exact po_none.run pins s σ H Q I (aft_ret R q _ F H (New.refl R.ex) rfl)⟩
theorem do_some (ha : PE X a (T c W f)) : PO X (some a) (TX PO' c W (mPart (some f))) := ⟨fun pins s σ H Q I h => (po_some ha).run pins s σ H Q I (by
  obtain ⟨yy, F, env, μ, as, R, q⟩ := h
  refine (aft_bind (P := PD c) R q).imp fun v H1 ⟨d, F1, μ1, as1, x1, y1, p1, R1, a1⟩ => ?_
  obtain ⟨z, ez, k⟩ := aft_lift R1 a1
  obtain ⟨i, hi, rfl⟩ := Option.map_eq_some_iff.mp ez
  rw [asI_eq hi] at p1
  exact ⟨i, p1, k _ F1 H1 (New.refl R1.ex) rfl⟩)⟩
theorem de_sl {lo hi : Option Expr} {p2 : Pos} {l h : Option Em} (hK : X.K = c.K) (ha : PE X a (T c W f)) (hl : PO X lo (TX PO' c W (mPart l))) (hh : PO X hi (TX PO' c W (mPart h))) : PE X (.Subscript a (.Slice lo hi none p2) pos) (T c W (mSl f l h)) :=
  impE (pe_slice sl_2 ha hl hh) fun σ H Q hw => by
    obtain ⟨yy, F, env, μ, as, R, q⟩ := hw
    refine (aft_bind (P := PD c) R q).imp fun v H1 ⟨d, F1, μ1, as1, x1, y1, p1, R1, a1⟩ => ?_
    refine (aft_bind (P := PO') R1 a1).imp fun i H2 ⟨i', F2, μ2, as2, x2, y2, p2, R2, a2⟩ => ?_
    refine (aft_bind (P := PO') R2 a2).imp fun j H3 ⟨j', F3, μ3, as3, x3, y3, p3, R3, a3⟩ => ?_
    obtain ⟨z, ez, k⟩ := aft_lift R3 a3
    subst p2 p3
    rw [hK]
    exact sem_sl R3.ex (Dt.mono (x2.trans x3) _ _ p1) ez k
/-! ### calls of what is built in -/
abbrev RC := List V → Hp → VK → Prop
def CSem (K : PySem.W.Frag) (r : RC) (g : List D → Option D) : Prop := ∀ (F H : Hp) (vs : List V) (ds : List D) (d : D) (Q : VK), Ex F H → Dts K F ds vs → g ds = some d → (∀ v F' H', New F H F' H' → Dt K F' d v → Q v H') → r vs H Q
def mCall (g : List D → Option D) (l : Mx (List D)) : Em := bnd l fun ds => lift (g ds)
theorem t_call {r : RC} {g : List D → Option D} {l : Mx (List D)} {σ : L2.St} {H : Hp} {Q : VK} (hr : CSem c.K r g) (h : T c W (mCall g l) σ H Q) : tCB r (TL c W l) σ H Q := by
  obtain ⟨yy, F, env, μ, as, R, q⟩ := h
  refine (aft_bind (P := PL c) R q).imp fun v H1 ⟨d, F1, μ1, as1, x1, y1, p1, R1, a1⟩ => ?_
  obtain ⟨z, ez, k⟩ := aft_lift R1 a1
  exact hr F1 H1 v d z Q R1.ex p1 ez k
variable {es : List Expr} {l : Mx (List D)} {x : Str} {p : Pos} {r : RC} {gf : List D → Option D}
theorem de_callB {id : String} {e : Expr} (hc : CallR X (.builtin id) r) (hr : CSem c.K r gf) (hg : Gl X x) (hm : X.mg x = none) (hv : bootBuiltins x = some (.builtin id)) (ha : PA X (e :: es) (TL c W l)) (hn : x ≠ "__name__" := by decide) (hdb : (x == ("__debug__" : Str)) = false := by decide)
    (he : starEach (e :: es) X.env = (false, eval e X.env) :: starEach es X.env := by rfl) (hpl : (backTo pos (starEach es X.env)).any (·.1) = false := by rfl) : PE X (.Call (.Name x p) (e :: es) [] pos) (T c W (mCall gf l)) :=
  impE (pe_callB hc hg hm hv ha hn hdb he hpl) fun _ _ _ h => t_call hr h
theorem de_callTy {id : String} {e : Expr} (hc : CallR X (.type id) r) (hr : CSem c.K r gf) (hg : Gl X x) (hm : X.mg x = none) (hv : bootBuiltins x = some (.type id)) (ha : PA X (e :: es) (TL c W l)) (hn : x ≠ "__name__" := by decide) (hdb : (x == ("__debug__" : Str)) = false := by decide)
    (he : starEach (e :: es) X.env = (false, eval e X.env) :: starEach es X.env := by rfl) (hpl : (backTo pos (starEach es X.env)).any (·.1) = false := by rfl) : PE X (.Call (.Name x p) (e :: es) [] pos) (T c W (mCall gf l)) :=
  impE (pe_callTy hc hg hm hv ha hn hdb he hpl) fun _ _ _ h => t_call hr h
theorem CallR.or {f : Value} {r r' : RC} (h : CallR X f r) (h' : CallR X f r') : CallR X f (fun xs H Q => r xs H Q ∨ r' xs H Q) := by
  intro pins s σ H xs us Q I rx q
  rcases q with q | q
  · exact h pins s σ H xs us Q I rx q
  · exact h' pins s σ H xs us Q I rx q
theorem Dts.one_inv {F : Hp} {d : D} {vs : List V} (h : Dts K F [d] vs) : ∃ v, vs = [v] ∧ Dt K F d v := by
  obtain ⟨x, r, rfl, h1, h2⟩ := h
  rw [show r = [] from h2]
  exact ⟨x, rfl, h1⟩
theorem Dts.two_inv {F : Hp} {d e : D} {vs : List V} (h : Dts K F [d, e] vs) : ∃ v w, vs = [v, w] ∧ Dt K F d v ∧ Dt K F e w := by
  obtain ⟨x, r, rfl, h1, h2⟩ := h
  obtain ⟨w, rfl, h3⟩ := Dts.one_inv h2
  exact ⟨x, w, rfl, h1, h3⟩
/-- len -/
def gLen : List D → Option D
  | [.lst xs] => some (.int xs.length)
  | [.sl xs] => some (.int xs.length)
  | [.tup xs] => some (.int xs.length)
  | [.scr xs] => some (.int xs.length)
  | [.gt xs] => some (.int xs.length)
  | _ => none
def rLenQ (K : PySem.W.Frag) : RC := fun xs H Q => ∃ p ys, xs = [.ref p] ∧ (SqL K H p ys ∨ SqT K H p ys) ∧ Q (.int ys.length) H
theorem call_lenQ : CallR X (.builtin "len") (rLenQ X.K) := call_len_seq
theorem sem_len : CSem K (rLenQ K) gLen := by
  intro F H vs ds d Q eF hd e k
  cases ds with
  | nil => cases e
  | cons d1 t =>
    cases t with
    | cons d2 t => cases d1 <;> cases e
    | nil =>
      obtain ⟨v, rfl, h⟩ := hd.one_inv
      cases d1 with
      | lst xs =>
        cases e
        obtain ⟨a, ws, rfl, h1, h2⟩ := h
        refine ⟨a, ws, rfl, .inl (SqL.of (eF _ _ h1)), ?_⟩
        rw [h2.len]
        exact k _ F H (New.refl eF) rfl
      | sl xs =>
        cases e
        obtain ⟨a, ws, rfl, ⟨o, h1⟩, h2⟩ := h
        refine ⟨a, ws, rfl, .inl (.inl (.inr ⟨o, eF _ _ h1⟩)), ?_⟩
        rw [h2.len]
        exact k _ F H (New.refl eF) rfl
      | tup xs =>
        cases e
        obtain ⟨a, ws, rfl, h1, h2⟩ := h
        refine ⟨a, ws, rfl, .inr (SqT.of (eF _ _ h1)), ?_⟩
        rw [h2.len]
        exact k _ F H (New.refl eF) rfl
      | scr xs =>
        cases e
        obtain ⟨a, rfl, h1⟩ := h
        refine ⟨a, _, rfl, .inl (Evl.ex_l eF h1), ?_⟩
        rw [List.length_map]
        exact k _ F H (New.refl eF) rfl
      | gt xs =>
        cases e
        obtain ⟨a, rfl, st⟩ := h
        refine ⟨a, _, rfl, .inr (st.sq eF), ?_⟩
        rw [List.length_map]
        exact k _ F H (New.refl eF) rfl
      | _ => cases e
/-- int(i), int(True) -/
def gInt : List D → Option D
  | [.int i] => some (.int i)
  | [.bl b] => some (.int (if b then 1 else 0))
  | _ => none
def rInt1 : RC := fun xs H Q => (∃ i, xs = [.int i] ∧ Q (.int i) H) ∨ ∃ k, xs = [.bl k] ∧ Q (.int (if k then 1 else 0)) H
theorem call_intQ : CallR X (.type "int") rInt1 := call_int1
theorem sem_intC1 : CSem K rInt1 gInt := by
  intro F H vs ds d Q eF hd e k
  cases ds with
  | nil => cases e
  | cons d1 t =>
    cases t with
    | cons d2 t => cases d1 <;> cases e
    | nil =>
      obtain ⟨v, rfl, h⟩ := hd.one_inv
      cases d1 with
      | int i => cases e; exact .inl ⟨i, by rw [show v = V.int i from h], k _ F H (New.refl eF) rfl⟩
      | bl b => cases e; exact .inr ⟨b, by rw [show v = V.bl b from h], k _ F H (New.refl eF) rfl⟩
      | _ => cases e
/-- max(i, j), min(i, j) -/
def gMax : List D → Option D
  | [.int i, .int j] => some (.int (if j > i then j else i))
  | _ => none
def gMin : List D → Option D
  | [.int i, .int j] => some (.int (if j < i then j else i))
  | _ => none
def rMax2 : RC := fun xs H Q => ∃ i j, xs = [.int i, .int j] ∧ Q (.int (if j > i then j else i)) H
def rMin2 : RC := fun xs H Q => ∃ i j, xs = [.int i, .int j] ∧ Q (.int (if j < i then j else i)) H
theorem call_maxQ (hc : X.calm = true) : CallR X (.builtin "max") rMax2 := call_max2 hc
theorem call_minQ (hc : X.calm = true) : CallR X (.builtin "min") rMin2 := call_min2 hc
theorem two_ints {g : List D → Option D} {ds : List D} {d : D} {G : Int → Int → D} (hg : ∀ ds d, g ds = some d → ∃ i j, ds = [.int i, .int j] ∧ d = G i j) {r : Int → Int → V} (hG : ∀ F i j, Dt K F (G i j) (r i j)) :
    CSem K (fun xs H Q => ∃ i j, xs = [.int i, .int j] ∧ Q (r i j) H) g := by
  intro F H vs ds d Q eF hd e k
  obtain ⟨i, j, rfl, rfl⟩ := hg _ _ e
  obtain ⟨v, w, rfl, h1, h2⟩ := hd.two_inv
  exact ⟨i, j, by rw [show v = V.int i from h1, show w = V.int j from h2], k _ F H (New.refl eF) (hG F i j)⟩
theorem gMax_inv : ∀ ds d, gMax ds = some d → ∃ i j, ds = [.int i, .int j] ∧ d = .int (if j > i then j else i)
  | [.int i, .int j], d, e => by cases e; exact ⟨i, j, rfl, rfl⟩
theorem gMin_inv : ∀ ds d, gMin ds = some d → ∃ i j, ds = [.int i, .int j] ∧ d = .int (if j < i then j else i)
  | [.int i, .int j], d, e => by cases e; exact ⟨i, j, rfl, rfl⟩
theorem sem_max : CSem K rMax2 gMax := two_ints (ds := []) (d := .non) gMax_inv fun _ _ _ => rfl
theorem sem_min : CSem K rMin2 gMin := two_ints (ds := []) (d := .non) gMin_inv fun _ _ _ => rfl
/-- list(xs) -/
def gList : List D → Option D
  | [.lst xs] => some (.lst xs)
  | [.tup xs] => some (.lst xs)
  | [.scr ns] => some (.lst (ns.map D.int))
  | [.dct _ kvs] => some (.lst (kvs.map fun p => .tup (p.1.map keyD)))
  | [.dx _ kvs] => some (.lst (kvs.map (·.1)))
  | _ => none
def rListA (K : PySem.W.Frag) : RC := fun xs H Q => ∃ p ys, xs = [.ref p] ∧ (SqL K H p ys ∨ SqT K H p ys) ∧ ∀ l, H l = none → Q (.ref l) (upd H l (.lst ys))
def rListK : RC := fun xs H Q => ∃ d kvs, xs = [V.ref d] ∧ Rd H d (.dT kvs) ∧ ∀ p bs, H p = none → IsKeys H kvs bs → Q (.ref p) (upd H p (.lst (bs.map V.ref)))
def rListX : RC := fun xs H Q => ∃ (d b : Addr) (o : Obj) (ks : List (NK × Addr × Value)), xs = [V.ref d] ∧ H d = some (dxo b o) ∧ DxS o ks ∧ ∀ p, H p = none → Q (.ref p) (upd H p (.lst (ks.map fun x => V.ref x.2.1)))
theorem call_list_dx (hc : X.calm = true) : CallR X (.type "list") rListX := by
  intro pins s σ H xs us Q I r h
  obtain ⟨d, b, o, ks, rfl, hd, hs, q⟩ := h
  obtain ⟨u, rfl, rx⟩ := r.one
  cases rx
  obtain ⟨hg, hsys⟩ := dxo_get I hd
  obtain ⟨hx, _, hn, es, ep, hdt, he⟩ := hs
  have he := he X.prog
  have l1 : es.size = ks.length := size_of_entries he
  refine PySem.W.kdl_call (kdl_raw hsys hx hdt) (I.ok.hd hc) hg (by omega) fun h' tk acc' c' kp e it => ?_
  have each : ∀ j : Nat, acc'.toList[j]? = (ks[j]?).map fun x => Value.ref x.2.1 := fun j => by
    by_cases hj : j < ks.length
    · have ha : j < acc'.toList.length := by rw [Array.length_toList, it.1]; omega
      obtain ⟨en, hen, hv⟩ := it.2 j acc'.toList[j] (by rw [← Array.getElem?_toList]; exact List.getElem?_eq_getElem ha)
      have qe := entry_at he j
      rw [hen, List.getElem?_eq_getElem hj] at qe
      rw [List.getElem?_eq_getElem ha, List.getElem?_eq_getElem hj, hv, Option.some.inj qe]
      rfl
    · rw [List.getElem?_eq_none (by rw [Array.length_toList, it.1]; omega), List.getElem?_eq_none (by omega)]
      rfl
  have all : acc'.toList = ks.map fun x => Value.ref x.2.1 := List.ext_getElem? fun j => by rw [each, List.getElem?_map]
  have rv : Vals (ks.map fun x => V.ref x.2.1) acc'.toList := by
    have z := vals_refs (ks.map fun x => x.2.1)
    rw [List.map_map, List.map_map] at z
    rw [all]; exact z
  exact ⟨.ref s.heap.objs.size, _, I.laid (t' := tk) (o := .lst (ks.map fun x => V.ref x.2.1)) kp (Nat.le_refl _) ⟨by rw [List.length_map]; omega, acc'.toList, c', rv, by rw [Array.toArray_toList]; exact e⟩, rfl, q _ (I.hok.fresh (Nat.le_refl _))⟩
theorem keys_dx {K : PySem.W.Frag} {F : Hp} : ∀ {kvs : Kx} {xs : List (NK × Addr × Value)}, Dtx K F kvs xs → Dts K F (kvs.map (·.1)) (xs.map fun x => V.ref x.2.1)
  | [], xs, h => by rw [show xs = [] from h]; rfl
  | (kd, d) :: r, xs, ⟨k, b, u, x, t, eq, hk, h1, h2, h3, h4⟩ => by subst eq; exact ⟨_, _, rfl, h1, keys_dx h4⟩
def rListQ (K : PySem.W.Frag) : RC := fun xs H Q => rListA K xs H Q ∨ (rListK xs H Q ∨ rListX xs H Q)
theorem call_listQ (hc : X.calm = true) : CallR X (.type "list") (rListQ X.K) := CallR.or call_list_of (CallR.or (call_list_dT hc) (call_list_dx hc))
theorem keys_new {K : PySem.W.Frag} {F H : Hp} : ∀ {kvs : List (List Key × V)} {bs : List Addr}, Ex F H → IsKeys H kvs bs → ∃ F', New F H F' H ∧ Dts K F' (kvs.map fun p => D.tup (p.1.map keyD)) (bs.map V.ref)
  | [], [], e, .nil => ⟨F, New.refl e, rfl⟩
  | p :: r, b :: bs, e, .cons h t => by
    obtain ⟨F1, n1, h1⟩ := keys_new e t
    have n2 := New.tup n1.fh h
    exact ⟨_, n1.trans n2, .ref b, bs.map V.ref, rfl, ⟨b, _, rfl, upd_same, Dts.ofKey _⟩, Dts.mono n2.f _ _ h1⟩
theorem sem_list : CSem K (rListQ K) gList := by
  intro F H vs ds d Q eF hd e k
  cases ds with
  | nil => cases e
  | cons d1 t =>
    cases t with
    | cons d2 t => cases d1 <;> cases e
    | nil =>
      obtain ⟨v, rfl, h⟩ := hd.one_inv
      cases d1 with
      | lst xs =>
        cases e
        obtain ⟨a, ws, rfl, h1, h2⟩ := h
        refine .inl ⟨a, ws, rfl, .inl (SqL.of (eF _ _ h1)), fun p hp => ?_⟩
        have n := new1 (o := .lst ws) eF hp
        exact k _ _ _ n ⟨p, ws, rfl, upd_same, Dts.mono n.f _ _ h2⟩
      | tup xs =>
        cases e
        obtain ⟨a, ws, rfl, h1, h2⟩ := h
        refine .inl ⟨a, ws, rfl, .inr (SqT.of (eF _ _ h1)), fun p hp => ?_⟩
        have n := new1 (o := .lst ws) eF hp
        exact k _ _ _ n ⟨p, ws, rfl, upd_same, Dts.mono n.f _ _ h2⟩
      | scr xs =>
        cases e
        obtain ⟨a, rfl, h1⟩ := h
        refine .inl ⟨a, _, rfl, .inl (Evl.ex_l eF h1), fun p hp => ?_⟩
        have n := new1 (o := .lst (xs.map V.int)) eF hp
        exact k _ _ _ n ⟨p, _, rfl, upd_same, Dts.ints.mpr rfl⟩
      | dct fz kvs =>
        cases e
        obtain ⟨a, ws, rfl, h1, h2⟩ := h
        refine .inr (.inl ⟨a, ws, rfl, Evl.ex_rd eF h1.rd, fun p bs hp hk => ?_⟩)
        obtain ⟨F1, n1, h3⟩ := keys_new (K := K) eF hk
        have n := new1 (o := .lst (bs.map V.ref)) n1.fh hp
        have e2 : (kvs.map fun p => D.tup (p.1.map keyD)) = (ws.map fun p => D.tup (p.1.map keyD)) := by
          have z := h2.keys
          have z2 := congrArg (List.map fun k : List Key => D.tup (k.map keyD)) z
          simpa [List.map_map, Function.comp_def] using z2.symm
        rw [e2] at k
        exact k _ _ _ (n1.trans n) ⟨p, _, rfl, upd_same, Dts.mono n.f _ _ h3⟩
      | dx fz kvs =>
        cases e
        obtain ⟨a, b, o, xs, rfl, h1, h2, h3⟩ := h
        refine .inr (.inr ⟨a, b, o, xs, rfl, eF _ _ h1, h2, fun p hp => ?_⟩)
        have n := new1 (o := .lst (xs.map fun x => V.ref x.2.1)) eF hp
        exact k _ _ _ n ⟨p, _, rfl, upd_same, Dts.mono n.f _ _ (keys_dx h3)⟩
      | _ => cases e
/-- tuple(xs) -/
def gTuple : List D → Option D
  | [.lst xs] => some (.tup xs)
  | [.tup xs] => some (.tup xs)
  | _ => none
def rTupQ (K : PySem.W.Frag) : RC := fun xs H Q => ∃ p ys, xs = [.ref p] ∧ ((SqL K H p ys ∧ ∀ l, H l = none → Q (.ref l) (upd H l (.tup ys))) ∨ (SqT K H p ys ∧ Q (.ref p) H))
theorem call_tupQ : CallR X (.type "tuple") (rTupQ X.K) := call_tuple_of
theorem sem_tuple : CSem K (rTupQ K) gTuple := by
  intro F H vs ds d Q eF hd e k
  cases ds with
  | nil => cases e
  | cons d1 t =>
    cases t with
    | cons d2 t => cases d1 <;> cases e
    | nil =>
      obtain ⟨v, rfl, h⟩ := hd.one_inv
      cases d1 with
      | lst xs =>
        cases e
        obtain ⟨a, ws, rfl, h1, h2⟩ := h
        refine ⟨a, ws, rfl, .inl ⟨SqL.of (eF _ _ h1), fun p hp => ?_⟩⟩
        have n := new1 (o := .tup ws) eF hp
        exact k _ _ _ n ⟨p, ws, rfl, upd_same, Dts.mono n.f _ _ h2⟩
      | tup xs =>
        cases e
        obtain ⟨a, ws, rfl, h1, h2⟩ := h
        exact ⟨a, ws, rfl, .inr ⟨SqT.of (eF _ _ h1), k _ F H (New.refl eF) ⟨a, ws, rfl, h1, h2⟩⟩⟩
      | _ => cases e
/-- sum(ints) -/
def gSum : List D → Option D
  | [.lst xs] => (dInts xs).map fun ns => .int ns.sum
  | _ => none
theorem sem_sum : CSem K (L2.rSum K) gSum := by
  intro F H vs ds d Q eF hd e k
  cases ds with
  | nil => cases e
  | cons d1 t =>
    cases t with
    | cons d2 t => cases d1 <;> cases e
    | nil =>
      obtain ⟨v, rfl, h⟩ := hd.one_inv
      cases d1 with
      | lst xs =>
        obtain ⟨ns, hn, rfl⟩ := Option.map_eq_some_iff.mp (show (dInts xs).map _ = some d from e)
        obtain ⟨a, ws, rfl, h1, h2⟩ := h
        rw [dInts_eq hn] at h2
        rw [Dts.ints.mp h2] at h1
        exact ⟨a, ns, rfl, SqL.of (eF _ _ h1), k _ F H (New.refl eF) rfl⟩
      | _ => cases e
/-- any(bools) -/
def dBls : List D → Option (List Bool)
  | [] => some []
  | .bl i :: r => (dBls r).map (i :: ·)
  | _ => none
theorem dBls_eq : ∀ {ds : List D} {k : List Bool}, dBls ds = some k → ds = k.map D.bl
  | [], k, h => by cases h; rfl
  | d :: r, k, h => by
    cases d with
    | bl i =>
      obtain ⟨k', h1, h2⟩ := Option.map_eq_some_iff.mp (show (dBls r).map (i :: ·) = some k from h)
      subst h2
      rw [dBls_eq h1]; rfl
    | _ => cases h
theorem Dts.bls {F : Hp} : ∀ {ns : List Bool} {vs : List V}, Dts K F (ns.map D.bl) vs → vs = ns.map V.bl
  | [], _, h => h
  | n :: ns, vs, ⟨x, r, e1, h1, h2⟩ => by rw [e1, show x = V.bl n from h1, Dts.bls h2]; rfl
def gAny : List D → Option D
  | [.lst xs] => (dBls xs).map fun ns => .bl (ns.any id)
  | _ => none
theorem sem_any : CSem K (L2.rAny K) gAny := by
  intro F H vs ds d Q eF hd e k
  cases ds with
  | nil => cases e
  | cons d1 t =>
    cases t with
    | cons d2 t => cases d1 <;> cases e
    | nil =>
      obtain ⟨v, rfl, h⟩ := hd.one_inv
      cases d1 with
      | lst xs =>
        obtain ⟨ns, hn, rfl⟩ := Option.map_eq_some_iff.mp (show (dBls xs).map _ = some d from e)
        obtain ⟨a, ws, rfl, h1, h2⟩ := h
        rw [dBls_eq hn] at h2
        rw [Dts.bls h2] at h1
        exact ⟨a, ns, rfl, SqL.of (eF _ _ h1), k _ F H (New.refl eF) rfl⟩
      | _ => cases e
/-! ### isinstance of built-in types -/
inductive BT where
  | int | bool | str | tuple | list
def BT.nm : BT → String
  | .int => "int" | .bool => "bool" | .str => "str" | .tuple => "tuple" | .list => "list"
def tyN : D → Option String
  | .non => some "NoneType" | .bl _ => some "bool" | .int _ => some "int" | .str _ => some "str" | .lst _ => some "list" | .sl _ => some "list" | .tup _ => some "tuple" | .gt _ => some "tuple"
  | _ => none
def isBT (T : BT) : D → Option Bool
  | .non => some false
  | .bl _ => some (match T with | .int => true | .bool => true | _ => false)
  | .int _ => some (match T with | .int => true | _ => false)
  | .str _ => some (match T with | .str => true | _ => false)
  | .lst _ => some (match T with | .list => true | _ => false)
  | .sl _ => some (match T with | .list => true | _ => false)
  | .tup _ => some (match T with | .tuple => true | _ => false)
  | .gt _ => some (match T with | .tuple => true | _ => false)
  | _ => none
theorem Dt.ty {F H : Hp} {d : D} {v : V} {n : String} (eF : Ex F H) (h : Dt K F d v) (e : tyN d = some n) : TyX K H v (.type n) := by
  cases d with
  | non => cases h; cases e; exact .base .non
  | bl b => cases h; cases e; exact .base (.bl b)
  | int i => cases h; cases e; exact .base (.int i)
  | str s => cases h; cases e; exact .base (.str s)
  | lst xs => obtain ⟨a, ws, rfl, h1, h2⟩ := h; cases e; exact .base (.lst (eF _ _ h1))
  | sl xs => obtain ⟨a, ws, rfl, ⟨o, h1⟩, h2⟩ := h; cases e; exact .base (.frz (eF _ _ h1))
  | tup xs => obtain ⟨a, ws, rfl, h1, h2⟩ := h; cases e; exact .base (.tup (eF _ _ h1))
  | gt xs =>
    obtain ⟨a, rfl, st⟩ := h
    cases e
    obtain ⟨o, h1, _⟩ := st
    exact .fTuple (eF _ _ h1)
  | _ => cases e
theorem isBT_kit {T : BT} {d : D} {b : Bool} (e : isBT T d = some b) : ∃ n, tyN d = some n ∧ kitB n T.nm = some b := by
  cases d with
  | non => cases e; exact ⟨_, rfl, by cases T <;> decide +kernel⟩
  | bl b => cases e; exact ⟨_, rfl, by cases T <;> decide +kernel⟩
  | int i => cases e; exact ⟨_, rfl, by cases T <;> decide +kernel⟩
  | str s => cases e; exact ⟨_, rfl, by cases T <;> decide +kernel⟩
  | lst xs => cases e; exact ⟨_, rfl, by cases T <;> decide +kernel⟩
  | sl xs => cases e; exact ⟨_, rfl, by cases T <;> decide +kernel⟩
  | tup xs => cases e; exact ⟨_, rfl, by cases T <;> decide +kernel⟩
  | gt xs => cases e; exact ⟨_, rfl, by cases T <;> decide +kernel⟩
  | _ => cases e
def mIsB (T : BT) (f : Em) : Em := bnd f fun d => lift ((isBT T d).map D.bl)
/-- isinstance(x, int) -/
theorem de_isB {B : BT} {x2 : Str} {p2 : Pos} (hK : X.K = c.K) (ha : PE X a (T c W f)) (hg : Gl X "isinstance") (hm : X.mg "isinstance" = none) (hg2 : Gl X x2) (hm2 : X.mg x2 = none) (hv2 : bootBuiltins x2 = some (.type B.nm)) (hn : x2 ≠ "__name__" := by decide) (hdb : (x2 == ("__debug__" : Str)) = false := by decide)
    (he : starEach [a, .Name x2 p2] X.env = (false, eval a X.env) :: starEach [.Name x2 p2] X.env := by rfl) (hpl : (backTo pos (starEach [.Name x2 p2] X.env)).any (·.1) = false := by rfl) :
    PE X (.Call (.Name "isinstance" p) [a, .Name x2 p2] [] pos) (T c W (mIsB B f)) :=
  impE (pe_callB call_isi hg hm (by decide +kernel) (pa_cons ha (pa_cons (pe_bltn (v := .ty B.nm) hg2 hm2 hv2 rfl hn hdb) pa_nil) he) (by decide) (by decide) he hpl) fun σ H Q h => by
    obtain ⟨yy, F, env, μ, as, R, q⟩ := h
    refine (aft_bind (P := PD c) R q).imp fun v H1 ⟨d, F1, μ1, as1, x1, y1, p1, R1, a1⟩ => ?_
    obtain ⟨z, ez, k⟩ := aft_lift R1 a1
    obtain ⟨b, hb, rfl⟩ := Option.map_eq_some_iff.mp ez
    obtain ⟨n, h1, h2⟩ := isBT_kit hb
    rw [hK]
    exact ⟨v, .ty B.nm, .type n, .type B.nm, b, rfl, .ty _, p1.ty R1.ex h1, kit_ty h2, k _ F1 H1 (New.refl R1.ex) rfl⟩
theorem New.junk {F H : Hp} {p : Addr} {o : HO} (e : Ex F H) (hp : H p = none) : New F H F (upd H p o) := by
  refine ⟨Evl.Ex.refl _, Evl.Ex.new hp, fun b u h => ?_, fun b h => .inl h⟩
  by_cases hb : b = p
  · subst hb
    have := e b u h
    rw [hp] at this; cases this
  · rw [upd_ne hb]; exact e b u h
/-- isinstance(x, (tuple, list)) -/
def mIsB2 (A B : BT) (f : Em) : Em := bnd f fun d => lift ((isBT A d).bind fun b1 => (isBT B d).map fun b2 => .bl (b1 || b2))
theorem de_isB2 {A B : BT} {x2 x3 : Str} {p2 p3 tpos : Pos} {k0} (hK : X.K = c.K) (ha : PE X a (T c W f)) (hg : Gl X "isinstance") (hm : X.mg "isinstance" = none) (hg2 : Gl X x2) (hm2 : X.mg x2 = none) (hv2 : bootBuiltins x2 = some (.type A.nm)) (hg3 : Gl X x3) (hm3 : X.mg x3 = none) (hv3 : bootBuiltins x3 = some (.type B.nm))
    (hn : x2 ≠ "__name__" := by decide) (hdb : (x2 == ("__debug__" : Str)) = false := by decide) (hn3 : x3 ≠ "__name__" := by decide) (hdb3 : (x3 == ("__debug__" : Str)) = false := by decide)
    (he : starEach [a, .Tuple [.Name x2 p2, .Name x3 p3] k0 tpos] X.env = (false, eval a X.env) :: starEach [.Tuple [.Name x2 p2, .Name x3 p3] k0 tpos] X.env := by rfl) (hpl : (backTo pos (starEach [.Tuple [.Name x2 p2, .Name x3 p3] k0 tpos] X.env)).any (·.1) = false := by rfl) :
    PE X (.Call (.Name "isinstance" p) [a, .Tuple [.Name x2 p2, .Name x3 p3] k0 tpos] [] pos) (T c W (mIsB2 A B f)) :=
  impE (pe_callB call_isiT hg hm (by decide +kernel) (pa_cons ha (pa_cons (pe_tup (pa_cons (pe_bltn (v := .ty A.nm) hg2 hm2 hv2 rfl hn hdb) (pa_cons (pe_bltn (v := .ty B.nm) hg3 hm3 hv3 rfl hn3 hdb3) pa_nil))) pa_nil) he) (by decide) (by decide) he hpl) fun σ H Q h => by
    obtain ⟨yy, F, env, μ, as, R, q⟩ := h
    refine (aft_bind (P := PD c) R q).imp fun v H1 ⟨d, F1, μ1, as1, x1, y1, p1, R1, a1⟩ => ?_
    obtain ⟨z, ez, k⟩ := aft_lift R1 a1
    obtain ⟨b1, hb1, ez2⟩ := Option.bind_eq_some_iff.mp ez
    obtain ⟨b2, hb2, rfl⟩ := Option.map_eq_some_iff.mp ez2
    obtain ⟨n, h1, h2⟩ := isBT_kit hb1
    obtain ⟨n', h1', h2'⟩ := isBT_kit hb2
    rw [h1] at h1'; cases h1'
    refine ⟨by show 2 ≤ sizeLine; decide, fun p hp => ?_⟩
    have nn := New.junk (o := .tup [.ty A.nm, .ty B.nm]) R1.ex hp
    rw [hK]
    refine ⟨v, p, [.ty A.nm, .ty B.nm], .type n, [.type A.nm, .type B.nm], (b1 || b2), rfl, upd_same, .cons (.ty _) (.cons (.ty _) .nil), p1.ty nn.fh h1, ?_, k _ F1 _ nn rfl⟩
    exact kitAny_cons (kit_ty h2) (fun e => by rw [e, Bool.false_or]; exact kitAny_cons (kit_ty h2') (fun e => by rw [e]; exact kitAny_nil) (fun e => e)) (fun e => by rw [e, Bool.true_or])
end
end Sh
namespace Sh
open PySem PySem.Spec PyProof.Rows L2
variable [Wd]
section
variable {α : Type}
theorem set_at {l : List α} {i : Nat} {x : α} (h : i < l.length) : (l.set i x)[i]? = some x := List.getElem?_set_self h
theorem set_of {l : List α} {i j : Nat} {x : α} (h : i ≠ j) : (l.set i x)[j]? = l[j]? := List.getElem?_set_ne h
theorem set_cases {l : List α} {i j : Nat} {x y : α} (h : (l.set i x)[j]? = some y) : (i = j ∧ y = x ∧ i < l.length) ∨ (i ≠ j ∧ l[j]? = some y) := by
  by_cases e : i = j
  · subst e
    by_cases hl : i < l.length
    · rw [set_at hl] at h; exact .inl ⟨rfl, (Option.some.inj h).symm, hl⟩
    · rw [List.getElem?_eq_none (by simpa using hl)] at h; cases h
  · rw [set_of e] at h; exact .inr ⟨e, h⟩
theorem lt_of_at {l : List α} {i : Nat} {x : α} (h : l[i]? = some x) : i < l.length := (List.getElem?_eq_some_iff.mp h).1
end
def noSlot (sl : List (Option Nat)) (i : Nat) : Prop := ∀ k : Nat, sl[k]? ≠ some (some i)
def soleSlot (sl : List (Option Nat)) (k i : Nat) : Prop := ∀ j : Nat, sl[j]? = some (some i) → j = k
theorem noSlot_of {sl : List (Option Nat)} {i : Nat} (h : sl.all (fun o => decide (o ≠ some i)) = true) : noSlot sl i := fun k e => by
  have := List.all_eq_true.mp h _ (List.mem_of_getElem? e)
  exact of_decide_eq_true this rfl
theorem soleSlot_of {sl : List (Option Nat)} {k i : Nat} (h : (List.range sl.length).all (fun j => decide (sl[j]? = some (some i) → j = k)) = true) : soleSlot sl k i := fun j e => by
  have := List.all_eq_true.mp h j (List.mem_range.mpr (lt_of_at e))
  exact of_decide_eq_true this e
section
variable {c : Ct} {F H F1 H1 : Hp} {σ : L2.St} {env : Env} {μ μ1 : Mu} {as as1 : List (Option Addr)}
theorem ObR.as_mono {K : PySem.W.Frag} {as as' : List (Option Addr)} {a : Addr} {o : Ob} (e : as[1]? = as'[1]?) (h : ObR K F H as a o) : ObR K F H as' a o := by
  cases o with
  | hl s i => obtain ⟨q, h1, h2⟩ := h; exact ⟨q, by rw [← e]; exact h1, h2⟩
  | _ => exact h
/-! no view is a code object -/
def fill (x : Int) (q : Str) : Obj := { cls := .none, data := .fields #[.int x 0, .str q 0] }
def fillH (x : Int) (q : Str) : Nat → Heap
  | 0 => {}
  | n + 1 => (fillH x q n).push (fill x q)
theorem fillH_sz (x : Int) (q : Str) : ∀ n, (fillH x q n).objs.size = n
  | 0 => rfl
  | n + 1 => by
    show ((fillH x q n).push _).objs.size = n + 1
    rw [Heap.size_push, fillH_sz x q n]
theorem fillH_at (x : Int) (q : Str) : ∀ n i, i < n → (fillH x q n).get? i = some (fill x q)
  | 0, _, h => absurd h (Nat.not_lt_zero _)
  | n + 1, i, h => by
    rcases Nat.lt_or_ge i n with z | z
    · exact Heap.get?_push_of_some _ (fillH_at x q n i z)
    · have e : i = (fillH x q n).objs.size := by rw [fillH_sz]; omega
      rw [e]
      exact Heap.get?_push_size _ rfl
theorem dxo_nc (b : Addr) (o : Obj) (c : Addr) (q : Str) : dxo b o ≠ LamX.CodeO c q := fun z => by
  unfold dxo LamX.CodeO at z
  injection z with z
  have at_ : ∀ x : Int, (fillH x q (c + 1)).get? b = some o := fun x => by
    have e := congrFun z (fillH x q (c + 1))
    have h : ∃ (oc : Obj) (vs : Array Value) (t : Tok), (fillH x q (c + 1)).get? c = some oc ∧ oc.data = .fields vs ∧ vs[1]? = some (.str q t) := ⟨fill x q, _, 0, fillH_at x q _ c (Nat.lt_succ_self c), rfl, rfl⟩
    rw [← e] at h
    exact h.1
  have lt : b < c + 1 := by
    have := Heap.lt_size (at_ 0)
    rw [fillH_sz] at this
    exact this
  have e0 := (fillH_at 0 q _ b lt).symm.trans (at_ 0)
  have e1 := (fillH_at 1 q _ b lt).symm.trans (at_ 1)
  have e := (Option.some.inj e0).trans (Option.some.inj e1).symm
  have e := congrArg Obj.data e
  injection e with e
  have e := congrArg (fun a : Array Value => a[0]?) e
  have e : some (Value.int 0 0) = some (Value.int 1 0) := e
  cases e
theorem ObR.dropA {K : PySem.W.Frag} {as : List (Option Addr)} {a b : Addr} {o : Ob} (nc : ∀ c q, F a ≠ some (LamX.CodeO c q)) (hm : IsM (F a)) (h : ObR K F H as b o) : ObR K (drp F a) H as b o := by
  cases o with
  | hid => trivial
  | lst ds => obtain ⟨n, vs, h1, h2⟩ := h; exact ⟨n, vs, h1, Dts.drp hm _ _ n h2⟩
  | dct kvs => obtain ⟨n, vs, h1, h2⟩ := h; exact ⟨n, vs, h1, Dtk.drp hm _ _ n.1 h2⟩
  | dk kvs => obtain ⟨n, vs, h1, h2⟩ := h; exact ⟨n, vs, h1, Dtd.drp hm _ _ n.1 h2⟩
  | hl s i => exact h
  | ins x fs => obtain ⟨n, dx, vs, h1, h2⟩ := h; exact ⟨n, dx, vs, h1, Dtf.drp hm _ _ n h2⟩
  | dx kvs => obtain ⟨n, b, o, xs, h1, h2, h3⟩ := h; exact ⟨n, b, o, xs, h1, h2, Dtx.drp hm _ _ n h3⟩
  | tbl q => obtain ⟨t0, ps, h1, h2, h3⟩ := h; exact ⟨t0, ps, h1, h2, fun pos cv z => let ⟨c, e1, e2⟩ := h3 pos cv z; ⟨c, e1, by rw [drp_ne (fun z => nc c (lamQ q) (by rw [← z]; exact e2))]; exact e2⟩⟩
/-- a slot takes a datum -/
theorem Rel.set (r : Rel c F H σ env μ as) {i : Nat} {v : V} {d : D} (hd : Dt c.K F d v) (hi : noSlot c.sl i) : Rel c F H (σ.set i (some v)) (env.set i (some d)) μ as where
  ex := r.ex
  sz := by rw [List.length_set, List.length_set]; exact r.sz
  rd := fun j d' e => by
    rcases set_cases e with ⟨rfl, h2, h3⟩ | ⟨h1, h2⟩
    · cases h2
      exact ⟨v, set_at (by rw [r.sz]; exact h3), hd⟩
    · rw [set_of h1]
      exact r.rd j d' h2
  la := r.la
  inj := r.inj
  out := r.out
  own := fun k o e n => by
    obtain ⟨a, h1, h2, h3⟩ := r.own k o e n
    refine ⟨a, h1, h2, fun j ej => ?_⟩
    have : i ≠ j := fun z => hi k (by rw [z]; exact ej)
    rw [set_of this]
    exact h3 j ej
  base := r.base
  par := r.par
  pin := r.pin
  nw := r.nw
  gl := r.gl
/-- a slot is forgotten -/
theorem Rel.unset (r : Rel c F H σ env μ as) {i : Nat} {o : Option V} (hi : noSlot c.sl i) : Rel c F H (σ.set i o) (env.set i none) μ as where
  ex := r.ex
  sz := by rw [List.length_set, List.length_set]; exact r.sz
  rd := fun j d' e => by
    rcases set_cases e with ⟨rfl, h2, h3⟩ | ⟨h1, h2⟩
    · cases h2
    · rw [set_of h1]
      exact r.rd j d' h2
  la := r.la
  inj := r.inj
  out := r.out
  own := fun k o e n => by
    obtain ⟨a, h1, h2, h3⟩ := r.own k o e n
    refine ⟨a, h1, h2, fun j ej => ?_⟩
    have : i ≠ j := fun z => hi k (by rw [z]; exact ej)
    rw [set_of this]
    exact h3 j ej
  base := r.base
  par := r.par
  pin := r.pin
  nw := r.nw
  gl := r.gl
/-- an own object is written -/
theorem Rel.write (r : Rel c F H σ env μ as) {k : Nat} {a : Addr} {o o' : Ob} {ho : HO} (hk : as[k]? = some (some a)) (hμ : μ[k]? = some o) (hn : notHid o) (nt : NoTup (some ho)) (new : ObR c.K F (upd H a ho) as a o') : Rel c F (upd H a ho) σ env (μ.set k o') as := by
  obtain ⟨fa, na, ba⟩ := r.out k a hk
  have keep : ∀ b u, H b = some u → b ≠ a → upd H a ho b = some u := fun b u e hb => by rw [upd_ne hb]; exact e
  refine ⟨fun b u e => ?_, r.sz, r.rd, by rw [List.length_set]; exact r.la, r.inj, fun j b e => ?_, fun j u e n => ?_, fun b u e hb => ?_, r.par, r.pin, r.nw, r.gl⟩
  · exact keep b u (r.ex b u e) (fun z => by rw [z, fa] at e; cases e)
  · obtain ⟨h1, h2, h3⟩ := r.out j b e
    refine ⟨h1, ?_, h3⟩
    by_cases hb : b = a
    · subst hb; rw [upd_same]; exact nt
    · rw [upd_ne hb]; exact h2
  · rcases set_cases e with ⟨rfl, h2, h3⟩ | ⟨h1, h2⟩
    · cases h2
      obtain ⟨a', h4, h5, h6⟩ := r.own k o hμ hn
      rw [hk] at h4; cases h4
      exact ⟨a, hk, new, h6⟩
    · obtain ⟨b, h4, h5, h6⟩ := r.own j u h2 n
      have hb : b ≠ a := fun z => h1 (r.inj k j a hk (by rw [← z]; exact h4))
      refine ⟨b, h4, ?_, h6⟩
      cases u with
      | hid => trivial
      | lst ds => obtain ⟨n, vs, g1, g2⟩ := h5; exact ⟨n, vs, keep _ _ g1 hb, g2⟩
      | dct kvs => obtain ⟨n, vs, g1, g2⟩ := h5; exact ⟨n, vs, keep _ _ g1 hb, g2⟩
      | dk kvs => obtain ⟨n, vs, g1, g2⟩ := h5; exact ⟨n, vs, keep _ _ g1 hb, g2⟩
      | hl s i => obtain ⟨q, g1, g2⟩ := h5; exact ⟨q, g1, keep _ _ g2 hb⟩
      | ins x fs => obtain ⟨n, dx, vs, g1, g2⟩ := h5; exact ⟨n, dx, vs, keep _ _ g1 hb, g2⟩
      | dx kvs => obtain ⟨n, b', o, xs, g1, g2⟩ := h5; exact ⟨n, b', o, xs, keep _ _ g1 hb, g2⟩
      | tbl q => obtain ⟨t0, ps, g1, g2⟩ := h5; exact ⟨t0, ps, keep _ _ g1 hb, g2⟩
  · refine keep b u (r.base b u e hb) fun z => ?_
    subst z
    rcases ba with z | z
    · rw [e] at z; cases z
    · exact hb z
/-- the content of an own object, as the heap has it -/
inductive Shows (K : PySem.W.Frag) (F : Hp) : Ob → HO → D → Prop
  | lst {ds : List D} {vs : List V} (n : noMs ds = true) (h : Dts K F ds vs) : Shows K F (.lst ds) (.lst vs) (.lst ds)
  | dct {kvs : List (List Key × D)} {ks : List (List Key × V)} (n : noMk kvs = true ∧ (kvs.map (·.1)).Nodup) (h : Dtk K F kvs ks) : Shows K F (.dct kvs) (.dT ks) (.dct false kvs)
  | dx {kvs : Kx} {b : Addr} {o : Obj} {xs : List (NK × Addr × Value)} (n : noMx kvs = true) (hs : DxS o xs) (h : Dtx K F kvs xs) : Shows K F (.dx kvs) (dxo b o) (.dx false kvs)
theorem Shows.nc {K : PySem.W.Frag} {F : Hp} {o : Ob} {ho : HO} {d : D} (s : Shows K F o ho d) (c : Addr) (q : Str) : ho ≠ LamX.CodeO c q := by
  cases s with
  | lst n h => intro z; cases z
  | dct n h => intro z; cases z
  | dx n hs h => exact dxo_nc _ _ _ _
def obD : Ob → Option D
  | .lst ds => some (.lst ds)
  | .dct kvs => some (.dct false kvs)
  | .dx kvs => some (.dx false kvs)
  | _ => none
theorem Rel.shows (r : Rel c F H σ env μ as) {k : Nat} {o : Ob} {d : D} (hμ : μ[k]? = some o) (hd : obD o = some d) : ∃ a ho, as[k]? = some (some a) ∧ H a = some ho ∧ Shows c.K F o ho d ∧ ∀ (i : Nat), c.sl[k]? = some (some i) → σ[i]? = some (some (.ref a)) := by
  cases o with
  | lst ds =>
    cases hd
    obtain ⟨a, h1, ⟨n, vs, h2, h3⟩, h4⟩ := r.own k _ hμ trivial
    exact ⟨a, _, h1, h2, .lst n h3, h4⟩
  | dct kvs =>
    cases hd
    obtain ⟨a, h1, ⟨n, vs, h2, h3⟩, h4⟩ := r.own k _ hμ trivial
    exact ⟨a, _, h1, h2, .dct n h3, h4⟩
  | dx kvs =>
    cases hd
    obtain ⟨a, h1, ⟨n, b, o, xs, h2, h3, h5⟩, h4⟩ := r.own k _ hμ trivial
    exact ⟨a, _, h1, h2, .dx n h3 h5, h4⟩
  | _ => cases hd
theorem Shows.isM {K : PySem.W.Frag} {o : Ob} {ho : HO} {d : D} (s : Shows K F o ho d) : IsM (some ho) := by cases s <;> trivial
theorem Shows.mono {K : PySem.W.Frag} {o : Ob} {ho : HO} {d : D} (e : Ex F F1) (s : Shows K F o ho d) : Shows K F1 o ho d := by
  cases s with
  | lst n h => exact .lst n (Dts.mono e _ _ h)
  | dct n h => exact .dct n (Dtk.mono e _ _ h)
  | dx n hs h => exact .dx n hs (Dtx.mono e _ _ h)
theorem Shows.dt {K : PySem.W.Frag} {o : Ob} {ho : HO} {d : D} {a : Addr} (s : Shows K F o ho d) (fa : F a = none) : Dt K (upd F a ho) d (.ref a) := by
  have e : Ex F (upd F a ho) := Evl.Ex.new fa
  cases s with
  | lst n h => exact ⟨a, _, rfl, upd_same, Dts.mono e _ _ h⟩
  | dct n h => exact ⟨a, _, rfl, .inl upd_same, Dtk.mono e _ _ h⟩
  | dx n hs h => exact ⟨a, _, _, _, rfl, upd_same, hs, Dtx.mono e _ _ h⟩
theorem Shows.ob {K : PySem.W.Frag} {o : Ob} {ho : HO} {d : D} {a : Addr} (s : Shows K F o ho d) (ha : H a = some ho) : ObR K F H as a o := by
  cases s with
  | lst n h => exact ⟨n, _, ha, h⟩
  | dct n h => exact ⟨n, _, ha, h⟩
  | dx n hs h => exact ⟨n, _, _, _, ha, hs, h⟩
theorem Shows.noTup {K : PySem.W.Frag} {o : Ob} {ho : HO} {d : D} (s : Shows K F o ho d) : NoTup (some ho) := by
  cases s <;> exact ⟨by simp, by intro xs h; cases h⟩
/-- an own object is data from now on -/
theorem Rel.nwA (r : Rel c F H σ env μ as) {k : Nat} {a : Addr} (hk : as[k]? = some (some a)) (np : k ∉ c.ps) : c.H0 a = none := by
  rcases (r.out k a hk).2.2 with z | z
  · exact z
  · obtain ⟨l, hl, e⟩ := List.mem_iff_getElem.mp z
    have e2 : c.ex0[l]? = some (some a) := by rw [List.getElem?_eq_getElem hl, e]
    have e3 := r.inj k l a hk (r.par l a e2)
    subst e3
    exact (np (r.pin k a e2)).elim
theorem Rel.freeze (r : Rel c F H σ env μ as) {k : Nat} {a : Addr} {o : Ob} {ho : HO} {d : D} (hk : as[k]? = some (some a)) (ha : H a = some ho) (s : Shows c.K F o ho d) (np : k ∉ c.ps) (h1 : k ≠ 1) :
    Rel c (upd F a ho) H σ env (μ.set k .hid) (as.set k none) := by
  obtain ⟨fa, na, ba⟩ := r.out k a hk
  have e : Ex F (upd F a ho) := Evl.Ex.new fa
  have as_ne : ∀ (j : Nat) (b : Addr), (as.set k none)[j]? = some (some b) → k ≠ j ∧ as[j]? = some (some b) := fun j b e => by
    rcases set_cases e with ⟨_, h2, _⟩ | h
    · cases h2
    · exact h
  refine ⟨fun b u h => ?_, r.sz, fun i d' h => ?_, by rw [List.length_set, List.length_set]; exact r.la, fun j l b h1 h2 => r.inj j l b (as_ne j b h1).2 (as_ne l b h2).2, fun j b h => ?_, fun j u h n => ?_, r.base, fun j b h => ?_, r.pin, fun b h => ?_, fun p hp => e _ _ (r.gl p hp)⟩
  · by_cases hb : b = a
    · subst hb; rw [upd_same] at h; cases h; exact ha
    · rw [upd_ne hb] at h; exact r.ex b u h
  · obtain ⟨v, h1, h2⟩ := r.rd i d' h
    exact ⟨v, h1, Dt.mono e _ _ h2⟩
  · obtain ⟨hj, h⟩ := as_ne j b h
    obtain ⟨g1, g2, g3⟩ := r.out j b h
    have hb : b ≠ a := fun z => hj (r.inj k j a hk (by rw [← z]; exact h))
    exact ⟨by rw [upd_ne hb]; exact g1, g2, g3⟩
  · rcases set_cases h with ⟨_, h2, _⟩ | ⟨hj, h2⟩
    · cases h2; exact n.elim
    · obtain ⟨b, g1, g2, g3⟩ := r.own j u h2 n
      exact ⟨b, by rw [set_of hj]; exact g1, (g2.grow e (Evl.Ex.refl _)).as_mono (by rw [set_of h1]), g3⟩
  · have hj : k ≠ j := fun z => np (by rw [z]; exact r.pin j b h)
    rw [set_of hj]; exact r.par j b h
  · by_cases hb : b = a
    · subst hb; exact .inr (.inl (r.nwA hk np))
    · rw [upd_ne hb] at h; exact r.nw b h
/-- .. only for a while -/
theorem Rel.view {y : Dy} (r : Rel (c.w y) F H σ env μ as) {k i : Nat} {a : Addr} {o : Ob} {ho : HO} {d : D} (hk : as[k]? = some (some a)) (ha : H a = some ho) (s : Shows c.K F o ho d) (hs : σ[i]? = some (some (.ref a))) (h1 : k ≠ 1) :
    Rel (c.w ⟨y.F0, drp y.H0 a, y.ex0.set k none⟩) (upd F a ho) H σ (env.set i (some d)) (μ.set k .hid) (as.set k none) := by
  obtain ⟨fa, na, ba⟩ := r.out k a hk
  have e : Ex F (upd F a ho) := Evl.Ex.new fa
  have as_ne : ∀ (j : Nat) (b : Addr), (as.set k none)[j]? = some (some b) → k ≠ j ∧ as[j]? = some (some b) := fun j b e => by
    rcases set_cases e with ⟨_, h2, _⟩ | h
    · cases h2
    · exact h
  have ex_in : ∀ b, b ≠ a → some b ∈ y.ex0 → some b ∈ y.ex0.set k none := fun b hb hm => by
    obtain ⟨l, hl, e⟩ := List.mem_iff_getElem.mp hm
    have e2 : y.ex0[l]? = some (some b) := by rw [List.getElem?_eq_getElem hl, e]
    by_cases q : k = l
    · subst q
      have := r.par k b e2
      rw [hk] at this; cases this
      exact (hb rfl).elim
    · exact List.mem_of_getElem? (show (y.ex0.set k none)[l]? = some (some b) by rw [set_of q]; exact e2)
  refine ⟨fun b u h => ?_, by rw [List.length_set]; exact r.sz, fun j d' h => ?_, by rw [List.length_set, List.length_set]; exact r.la, fun j l b h1 h2 => r.inj j l b (as_ne j b h1).2 (as_ne l b h2).2, fun j b h => ?_, fun j u h n => ?_, fun b u h hb => ?_, fun j b h => ?_, fun j b h => ?_, fun b h => ?_, fun p hp => e _ _ (r.gl p hp)⟩
  · by_cases hb : b = a
    · subst hb; rw [upd_same] at h; cases h; exact ha
    · rw [upd_ne hb] at h; exact r.ex b u h
  · rcases set_cases h with ⟨rfl, h2, _⟩ | ⟨_, h2⟩
    · cases h2
      exact ⟨_, hs, s.dt fa⟩
    · obtain ⟨v, g1, g2⟩ := r.rd j d' h2
      exact ⟨v, g1, Dt.mono e _ _ g2⟩
  · obtain ⟨hj, h⟩ := as_ne j b h
    obtain ⟨g1, g2, g3⟩ := r.out j b h
    have hb : b ≠ a := fun z => hj (r.inj k j a hk (by rw [← z]; exact h))
    refine ⟨by rw [upd_ne hb]; exact g1, g2, ?_⟩
    rcases g3 with z | z
    · exact .inl (by show drp y.H0 a b = none; rw [drp_ne hb]; exact z)
    · exact .inr (ex_in b hb z)
  · rcases set_cases h with ⟨_, h2, _⟩ | ⟨hj, h2⟩
    · cases h2; exact n.elim
    · obtain ⟨b, g1, g2, g3⟩ := r.own j u h2 n
      exact ⟨b, by rw [set_of hj]; exact g1, (g2.grow e (Evl.Ex.refl _)).as_mono (by rw [set_of h1]), g3⟩
  · have h : drp y.H0 a b = some u := h
    have hba : b ≠ a := fun z => by rw [z, drp_same] at h; cases h
    rw [drp_ne hba] at h
    exact r.base b u h fun z => hb (ex_in b hba z)
  · have h : (y.ex0.set k none)[j]? = some (some b) := h
    rcases set_cases h with ⟨_, h2, _⟩ | ⟨hj, h2⟩
    · cases h2
    · rw [set_of hj]; exact r.par j b h2
  · have h : (y.ex0.set k none)[j]? = some (some b) := h
    rcases set_cases h with ⟨_, h2, _⟩ | ⟨hj, h2⟩
    · cases h2
    · exact r.pin j b h2
  · by_cases hb : b = a
    · subst hb; exact .inr (.inl drp_same)
    · rw [upd_ne hb] at h
      have z := r.nw b h
      show y.F0 b ≠ none ∨ drp y.H0 a b = none ∨ ∃ xs, drp y.H0 a b = some (.tup xs)
      rw [drp_ne hb]
      exact z
theorem Rel.unview {y : Dy} (r : Rel (c.w y) F H σ env μ as) {k i : Nat} {a : Addr} {o : Ob} {ho : HO} {d : D} (hk : as[k]? = some (some a)) (ha : H a = some ho) (s : Shows c.K F o ho d) (hsl : ∀ (i : Nat), c.sl[k]? = some (some i) → σ[i]? = some (some (.ref a))) (h1 : k ≠ 1)
    (r1 : Rel (c.w ⟨y.F0, drp y.H0 a, y.ex0.set k none⟩) F1 H1 σ (env.set i (some d)) μ1 as1) (e1 : Ex (upd F a ho) F1) (l1 : AsLe (as.set k none) as1) (hlen : k < μ1.length) :
    Ex F (drp F1 a) ∧ AsLe as (as1.set k (some a)) ∧ IsM (F1 a) ∧ Rel (c.w y) (drp F1 a) H1 σ env (μ1.set k o) (as1.set k (some a)) := by
  obtain ⟨fa, na, ba⟩ := r.out k a hk
  have fa1 : F1 a = some ho := e1 a ho upd_same
  have hlen' : k < as1.length := by rw [r1.la]; exact hlen
  have ef : Ex F (drp F1 a) := fun b u h => by
    have hb : b ≠ a := fun z => by rw [z, fa] at h; cases h
    rw [drp_ne hb]
    exact e1 b u (by rw [upd_ne hb]; exact h)
  have isM : IsM (F1 a) := by rw [fa1]; exact s.isM
  have one : as1[1]? = (as1.set k (some a))[1]? := by rw [set_of h1]
  refine ⟨ef, fun j b h => ?_, isM, ⟨fun b u h => ?_, r.sz, fun j d' h => ?_, by rw [List.length_set, List.length_set]; exact r1.la, fun j l b g1 g2 => ?_, fun j b h => ?_, fun j u h n => ?_, fun b u h hb => ?_, fun j b h => ?_, r.pin, fun b h => ?_, fun p hp => ef _ _ (r.gl p hp)⟩⟩
  · by_cases q : k = j
    · subst q; rw [hk] at h; cases h; exact set_at hlen'
    · rw [set_of q]; exact l1 j b (by rw [set_of q]; exact h)
  · have hb : b ≠ a := fun z => by rw [z, drp_same] at h; cases h
    rw [drp_ne hb] at h
    exact r1.ex b u h
  · obtain ⟨v, g1, g2⟩ := r.rd j d' h
    exact ⟨v, g1, Dt.mono ef _ _ g2⟩
  · have no : ∀ j, as1[j]? ≠ some (some a) := fun j z => by
      obtain ⟨z1, _⟩ := r1.out j a z
      rw [fa1] at z1; cases z1
    rcases set_cases g1 with ⟨rfl, q1, _⟩ | ⟨q0, q1⟩
    · cases q1
      rcases set_cases g2 with ⟨rfl, _, _⟩ | ⟨_, q2⟩
      · rfl
      · exact (no l q2).elim
    · rcases set_cases g2 with ⟨rfl, q2, _⟩ | ⟨_, q2⟩
      · cases q2
        exact (no j q1).elim
      · exact r1.inj j l b q1 q2
  · rcases set_cases h with ⟨rfl, q1, _⟩ | ⟨q0, q1⟩
    · cases q1
      exact ⟨drp_same, by rw [r1.ex a ho fa1]; exact s.noTup, ba⟩
    · obtain ⟨g1, g2, g3⟩ := r1.out j b q1
      have hb : b ≠ a := fun z => by rw [z, fa1] at g1; cases g1
      refine ⟨by rw [drp_ne hb]; exact g1, g2, ?_⟩
      rcases g3 with z | z
      · exact .inl (by have z : drp y.H0 a b = none := z; rw [drp_ne hb] at z; exact z)
      · refine .inr ?_
        have z : some b ∈ y.ex0.set k none := z
        rcases List.mem_or_eq_of_mem_set z with z | z
        · exact z
        · cases z
  · rcases set_cases h with ⟨rfl, q1, _⟩ | ⟨q0, q1⟩
    · cases q1
      exact ⟨a, set_at hlen', (s.mono ef).ob (r1.ex a ho fa1), hsl⟩
    · obtain ⟨b, g1, g2, g3⟩ := r1.own j u q1 n
      exact ⟨b, by rw [set_of q0]; exact g1, (g2.dropA (fun c q z => s.nc c q (Option.some.inj (fa1.symm.trans z))) isM).as_mono one, g3⟩
  · have hba : b ≠ a := fun z => by
      subst z
      rcases ba with z | z
      · have h : y.H0 b = some u := h
        have z : y.H0 b = none := z
        rw [h] at z; cases z
      · exact hb z
    refine r1.base b u (by show drp y.H0 a b = some u; rw [drp_ne hba]; exact h) fun z => hb ?_
    have z : some b ∈ y.ex0.set k none := z
    rcases List.mem_or_eq_of_mem_set z with z | z
    · exact z
    · cases z
  · have h : y.ex0[j]? = some (some b) := h
    by_cases q : k = j
    · subst q
      have := r.par k b h
      rw [hk] at this; cases this
      exact set_at hlen'
    · rw [set_of q]
      exact r1.par j b (by show (y.ex0.set k none)[j]? = some (some b); rw [set_of q]; exact h)
  · have hb : b ≠ a := fun z => by rw [z, drp_same] at h; exact h rfl
    rw [drp_ne hb] at h
    have z := r1.nw b h
    have z : y.F0 b ≠ none ∨ drp y.H0 a b = none ∨ ∃ xs, drp y.H0 a b = some (.tup xs) := z
    rw [drp_ne hb] at z
    exact z
/-- e, an own object being read as data within -/
def mView {α : Type} (chk : α → Bool) (k i : Nat) (f : Mx α) : Mx α := fun env μ => match μ[k]? with
  | none => none
  | some o => match obD o with
    | none => none
    | some d0 => match f (env.set i (some d0)) (μ.set k .hid) with
      | some (.ok d μ') => if (chk d && decide (k < μ'.length)) = true then some (.ok d (μ'.set k o)) else none
      | _ => none
theorem t_view {α β : Type} {P : Pr α β} {W : WX} {chk : α → Bool} {k i : Nat} {f : Mx α} {Q : β → Hp → Prop} (hP : ∀ F as as' a d v, chk d = true → IsM (F a) → P F as d v → P (drp F a) as' d v)
    (hsl : c.sl[k]? = some (some i)) (h1 : k ≠ 1) (h : TX P c W (mView chk k i f) σ H Q) : TX P c W f σ H Q := by
  obtain ⟨yy, F, env, μ, as, R, q⟩ := h
  unfold mView at q
  cases e1 : μ[k]? with
  | none => rw [e1] at q; exact q.elim
  | some o =>
    rw [e1] at q
    cases e2 : obD o with
    | none => simp only [e2] at q; exact q.elim
    | some d0 =>
      simp only [e2] at q
      obtain ⟨a, ho, hk, ha, s, hs⟩ := R.shows e1 e2
      have R1 := R.view hk ha s (hs i hsl) h1
      refine ⟨_, _, _, _, _, R1, ?_⟩
      cases e3 : f (env.set i (some d0)) (μ.set k .hid) with
      | none => rw [e3] at q; exact q
      | some z =>
        rw [e3] at q
        cases z with
        | err x fs μ' => exact q.elim
        | ok d μ' =>
          simp only at q
          by_cases hc : (chk d && decide (k < μ'.length)) = true
          · rw [if_pos hc] at q
            obtain ⟨c1, c2⟩ := Bool.and_eq_true_iff.mp hc
            intro v F' H' as' x y R2 p
            obtain ⟨g1, g2, g3, g4⟩ := R.unview hk ha s hs h1 R2 x y (of_decide_eq_true c2)
            exact q v _ H' _ g1 g2 g4 (hP _ _ _ _ _ _ c1 g3 p)
          · rw [if_neg hc] at q; exact q.elim
variable {X : Cx} {W : WX}
def yesB : Bool → Bool := fun _ => true
theorem de_view {e : Expr} {k i : Nat} {f : Em} (hsl : c.sl[k]? = some (some i)) (h1 : k ≠ 1) (h : PE X e (T c W f)) : PE X e (T c W (mView noM k i f)) :=
  impE h fun _ _ _ hw => t_view (fun F as as' a d v n m p => Dt.drp m d v n p) hsl h1 hw
theorem dt_view {e : Expr} {k i : Nat} {f : Mx Bool} (hsl : c.sl[k]? = some (some i)) (h1 : k ≠ 1) (h : PT X e (TB c W f)) : PT X e (TB c W (mView yesB k i f)) :=
  impT h fun _ _ _ hw => t_view (fun F as as' a d v n m p => p) hsl h1 hw
end
end Sh
namespace Sh
open PySem PySem.Spec PyProof.Rows L2
variable [Wd]
/-! ### statements -/
inductive SR where
  | nx (env : Env) (μ : Mu)
  | rt (d : D) (env : Env) (μ : Mu)
  | bk (env : Env) (μ : Mu)
  | ct (env : Env) (μ : Mu)
  | er (c : Str) (fs : Fs) (env : Env) (μ : Mu)
abbrev Sm := Env → Mu → Option SR
def SAft (c : Ct) (W : WX) (F : Hp) (r : Option SR) (De : Ends) : Prop :=
  match r with
  | none => False
  | some (.nx env μ) => ∀ σ F' H' as', Ex F F' → Rel c F' H' σ env μ as' → De.nx σ H'
  | some (.bk env μ) => ∀ σ F' H' as', Ex F F' → Rel c F' H' σ env μ as' → De.bk σ H'
  | some (.ct env μ) => ∀ σ F' H' as', Ex F F' → Rel c F' H' σ env μ as' → De.ct σ H'
  | some (.rt d env μ) => ∀ v σ F' H' as', Ex F F' → Rel c F' H' σ env μ as' → Dt c.K F' d v → De.rt v H'
  | some (.er x fs env μ) => ∀ σ F' H' as' d, Ex F F' → Rel c F' H' σ env μ as' → XdR c.K F' H' d fs → W (.ref (He.ga c.K x)) d σ H'
def SX (c : Ct) (W : WX) (s : Sm) : TS := fun De σ H => ∃ yy F env μ as, Rel (c.w yy) F H σ env μ as ∧ SAft (c.w yy) W F (s env μ) De
section
variable {c : Ct} {W : WX} {F F1 H : Hp} {σ : L2.St} {env : Env} {as : List (Option Addr)} {μ : Mu} {De : Ends} {s t : Sm} {X : Cx} {pos : Pos} {st : Stmt} {rest : List Stmt}
theorem SAft.mono {r : Option SR} (e : Ex F F1) (h : SAft c W F r De) : SAft c W F1 r De := by
  cases r with
  | none => exact h
  | some r => cases r with
    | nx env μ => exact fun σ F' H' as' x => h σ F' H' as' (e.trans x)
    | bk env μ => exact fun σ F' H' as' x => h σ F' H' as' (e.trans x)
    | ct env μ => exact fun σ F' H' as' x => h σ F' H' as' (e.trans x)
    | rt d env μ => exact fun v σ F' H' as' x => h v σ F' H' as' (e.trans x)
    | er y fs env μ => exact fun σ F' H' as' d x => h σ F' H' as' d (e.trans x)
def sSeq (s t : Sm) : Sm := fun env μ => match s env μ with
  | some (.nx env' μ') => t env' μ'
  | r => r
def sNext : Sm := fun env μ => some (.nx env μ)
theorem ds_nil : PSs X [] (SX c W sNext) := impSs pss_nil fun De σ H ⟨yy, F, env, μ, as, R, q⟩ => q σ F H as (Evl.Ex.refl _) R
theorem t_seq (h : SX c W (sSeq s t) De σ H) : tSeq (SX c W s) (SX c W t) De σ H := by
  obtain ⟨yy, F, env, μ, as, R, q⟩ := h
  refine ⟨yy, F, env, μ, as, R, ?_⟩
  unfold sSeq at q
  cases e : s env μ with
  | none => rw [e] at q; exact q
  | some r =>
    rw [e] at q
    cases r with
    | nx env' μ' => exact fun σ' F' H' as' x R' => ⟨yy, F', env', μ', as', R', q.mono x⟩
    | _ => exact q
theorem ds_cons (h1 : PS X st (SX c W s)) (h2 : PSs X rest (SX c W t)) : PSs X (st :: rest) (SX c W (sSeq s t)) := impSs (pss_cons h1 h2) fun _ _ _ h => t_seq h
theorem ds_one (h1 : PS X st (SX c W s)) : PSs X [st] (SX c W s) := pss_one h1
def sBrk : Sm := fun env μ => some (.bk env μ)
def sCnt : Sm := fun env μ => some (.ct env μ)
theorem ds_break : PS X (.Break pos) (SX c W sBrk) := impS ps_break fun De σ H ⟨yy, F, env, μ, as, R, q⟩ => q σ F H as (Evl.Ex.refl _) R
theorem ds_continue : PS X (.Continue pos) (SX c W sCnt) := impS ps_continue fun De σ H ⟨yy, F, env, μ, as, R, q⟩ => q σ F H as (Evl.Ex.refl _) R
theorem ds_pass : PS X (.Pass pos) (SX c W sNext) := impS ps_pass fun De σ H ⟨yy, F, env, μ, as, R, q⟩ => q σ F H as (Evl.Ex.refl _) R
theorem ds_doc {x j pos'} : PS X (.Expr (.Constant (.str x) j pos) pos') (SX c W sNext) := impS ps_doc fun De σ H ⟨yy, F, env, μ, as, R, q⟩ => q σ F H as (Evl.Ex.refl _) R
/-- an expression, then what its value gives -/
def sBnd {α : Type} (f : Mx α) (g : α → Sm) : Sm := fun env μ => match f env μ with
  | none => none
  | some (.ok a μ') => g a env μ'
  | some (.err x fs μ') => some (.er x fs env μ')
theorem saft_bind {α β : Type} {P : Pr α β} {yy : Dy} {f : Mx α} {g : α → Sm} (R : Rel (c.w yy) F H σ env μ as) (h : SAft (c.w yy) W F (sBnd f g env μ) De) :
    TX P c W f σ H (fun v H1 => ∃ d F1 μ1 as1, Ex F F1 ∧ AsLe as as1 ∧ P F1 as1 d v ∧ Rel (c.w yy) F1 H1 σ env μ1 as1 ∧ SAft (c.w yy) W F1 (g d env μ1) De) := by
  refine ⟨yy, F, env, μ, as, R, ?_⟩
  unfold sBnd at h
  cases e : f env μ with
  | none => rw [e] at h; exact h
  | some z =>
    rw [e] at h
    cases z with
    | ok d μ' => exact fun v F' H' as' x y r' p => ⟨d, F', μ', as', x, y, p, r', h.mono x⟩
    | err y fs μ' => exact fun F' H' as' d x y R' xd => h σ F' H' as' d x R' xd
variable {e a : Expr} {f : Em}
/-- return -/
def sRet (f : Em) : Sm := sBnd f fun d env μ => some (.rt d env μ)
theorem ds_ret (h : PE X e (T c W f)) : PS X (.Return (some e) pos) (SX c W (sRet f)) := impS (ps_ret h) fun De σ H ⟨yy, F, env, μ, as, R, q⟩ =>
  (saft_bind (P := PD c) R q).imp fun v H1 ⟨d, F1, μ1, as1, x1, y1, p1, R1, a1⟩ => a1 v σ F1 H1 as1 (Evl.Ex.refl _) R1 p1
def sRetN : Sm := fun env μ => some (.rt .non env μ)
theorem ds_retN : PS X (.Return none pos) (SX c W sRetN) := impS ps_retN fun De σ H ⟨yy, F, env, μ, as, R, q⟩ => q .non σ F H as (Evl.Ex.refl _) R rfl
/-- an expression for what it does -/
def sExp (f : Em) : Sm := sBnd f fun _ env μ => some (.nx env μ)
theorem ds_expr (h : PE X e (T c W f)) (hs : swapsWith e none pos.line X.env = pure false := by rfl) : PS X (.Expr e pos) (SX c W (sExp f)) := impS (ps_expr h hs) fun De σ H ⟨yy, F, env, μ, as, R, q⟩ =>
  (saft_bind (P := PD c) R q).imp fun v H1 ⟨d, F1, μ1, as1, x1, y1, p1, R1, a1⟩ => a1 σ F1 H1 as1 (Evl.Ex.refl _) R1
/-- if -/
def sIf (p : Mx Bool) (s t : Sm) : Sm := sBnd p fun b => if b = true then s else t
theorem ds_if {p : Mx Bool} {tt : Expr} {b1 b2 : List Stmt} (ht : PT X tt (TB c W p)) (h1 : PSs X b1 (SX c W s)) (h2 : PSs X b2 (SX c W t)) : PS X (.If tt b1 b2 pos) (SX c W (sIf p s t)) := impS (ps_if ht h1 h2) fun De σ H ⟨yy, F, env, μ, as, R, q⟩ =>
  (saft_bind (P := PB) R q).imp fun v H1 ⟨d, F1, μ1, as1, x1, y1, p1, R1, a1⟩ => by
    subst p1
    cases v with
    | true =>
      rw [if_pos rfl] at a1 ⊢
      exact ⟨yy, F1, env, μ1, as1, R1, a1⟩
    | false =>
      rw [if_neg Bool.false_ne_true] at a1 ⊢
      exact ⟨yy, F1, env, μ1, as1, R1, a1⟩
/-! ### targets -/
abbrev Am := D → Env → Option Env
/-- only these slots change -/
def SlE (ss : List Nat) (σ σ' : L2.St) : Prop := σ'.length = σ.length ∧ ∀ j, j ∉ ss → σ'[j]? = σ[j]?
theorem SlE.trans {s1 s2 : List Nat} {σ σ1 σ2 : L2.St} (a : SlE s1 σ σ1) (b : SlE s2 σ1 σ2) : SlE (s1 ++ s2) σ σ2 :=
  ⟨b.1.trans a.1, fun j hj => (b.2 j fun z => hj (List.mem_append_right _ z)).trans (a.2 j fun z => hj (List.mem_append_left _ z))⟩
/-- a target of plain names takes a datum -/
def AX (c : Ct) (A : Am) (ss : List Nat) : TG := fun v σ H Q => ∃ yy F env μ as d env', Rel (c.w yy) F H σ env μ as ∧ Dt c.K F d v ∧ A d env = some env' ∧ ∀ σ', SlE ss σ σ' → Rel (c.w yy) F H σ' env' μ as → Q σ' H
theorem impG {tg : Expr} {t t' : TG} (h : PG X tg t) (q : ∀ v σ H Q, t' v σ H Q → t v σ H Q) : PG X tg t' := ⟨fun pins s σ H v u Q I r hw => h.run pins s σ H v u Q I r (q _ _ _ _ hw)⟩
def aName (i : Nat) : Am := fun d env => some (env.set i (some d))
theorem sle_set {i : Nat} {v : Option V} : SlE [i] σ (σ.set i v) := ⟨List.length_set, fun j hj => set_of (fun z => hj (by rw [z]; exact List.mem_singleton.mpr rfl))⟩
theorem dg_name {i : Nat} {x : Str} (h : PG X (.Name x pos) (gName i)) (hi : noSlot c.sl i) : PG X (.Name x pos) (AX c (aName i) [i]) := impG h fun v σ H Q ⟨yy, F, env, μ, as, d, env', R, hd, e, k⟩ => by
  cases e
  exact k _ sle_set (R.set hd hi)
def aAll : List Am → List D → Env → Option Env
  | [], [], env => some env
  | A :: As, d :: ds, env => (A d env).bind fun env' => aAll As ds env'
  | _, _, _ => none
theorem aAll_len : ∀ {As : List Am} {ds : List D} {env env' : Env}, aAll As ds env = some env' → ds.length = As.length
  | [], [], _, _, _ => rfl
  | [], _ :: _, _, _, e => by cases e
  | _ :: _, [], _, _, e => by cases e
  | A :: As, d :: ds, env, env', e => by
    obtain ⟨env1, e1, e2⟩ := Option.bind_eq_some_iff.mp (show (A d env).bind _ = some env' from e)
    rw [List.length_cons, List.length_cons, aAll_len e2]
def aTup (As : List Am) : Am := fun d env => match d with
  | .tup ds => aAll As ds env
  | .gt ns => aAll As (ns.map D.int) env
  | _ => none
/-- several targets of plain names -/
def AXs (c : Ct) (As : List Am) (ss : List Nat) : TGs := fun vs σ H Q => ∃ yy F env μ as ds env', Rel (c.w yy) F H σ env μ as ∧ Dts c.K F ds vs ∧ aAll As ds env = some env' ∧ ∀ σ', SlE ss σ σ' → Rel (c.w yy) F H σ' env' μ as → Q σ' H
theorem dgs_nil : PGs X [] (AXs c [] []) := ⟨fun pins s σ H vs us Q I r ⟨yy, F, env, μ, as, ds, env', R, hd, e, k⟩ => pgs_nil.run pins s σ H vs us Q I r (by
  cases ds with
  | nil =>
    cases e
    exact ⟨hd, k σ ⟨rfl, fun _ _ => rfl⟩ R⟩
  | cons d ds => cases e)⟩
theorem dgs_cons {t1 : Expr} {ts : List Expr} {A : Am} {As : List Am} {s1 s2 : List Nat} (h1 : PG X t1 (AX c A s1)) (h2 : PGs X ts (AXs c As s2)) (hs : List.map (fun x => x.snd) (assignEach (t1 :: ts) X.env) = assign t1 X.env :: List.map (fun x => x.snd) (assignEach ts X.env) := by rfl) : PGs X (t1 :: ts) (AXs c (A :: As) (s1 ++ s2)) := ⟨fun pins s σ H vs us Q I r ⟨yy, F, env, μ, as, ds, env', R, hd, e, k⟩ => (pgs_cons h1 h2 hs).run pins s σ H vs us Q I r (by
  cases ds with
  | nil => cases e
  | cons d ds =>
    obtain ⟨x, r', rfl, q1, q2⟩ := hd
    obtain ⟨env1, e1, e2⟩ := Option.bind_eq_some_iff.mp (show (A d env).bind _ = some env' from e)
    exact ⟨x, r', rfl, yy, F, env, μ, as, d, env1, R, q1, e1, fun σ' l1 R' => ⟨yy, F, env1, μ, as, ds, env', R', q2, e2, fun σ2 l2 R2 => k σ2 (l1.trans l2) R2⟩⟩)⟩
theorem dg_tup {es : List Expr} {kk : Nat} {As : List Am} {ss : List Nat} (hK : X.K = c.K) (hl : es.length = As.length) (h' : PG X (.Tuple es kk pos) (gTup X.K es.length (AXs c As ss))) : PG X (.Tuple es kk pos) (AX c (aTup As) ss) :=
  impG h' fun v σ H Q ⟨yy, F, env, μ, as, d, env', R, hd, e, k⟩ => by
    cases d with
    | tup ds =>
      obtain ⟨a, vs, rfl, h1, h2⟩ := hd
      refine ⟨a, vs, rfl, SqT.of (R.ex _ _ h1), ?_, yy, F, env, μ, as, ds, env', R, h2, e, k⟩
      rw [h2.len, hl]
      exact aAll_len e
    | gt ns =>
      obtain ⟨a, rfl, st⟩ := hd
      refine ⟨a, ns.map V.int, rfl, st.sq R.ex, ?_, yy, F, env, μ, as, ns.map D.int, env', R, Dts.ints.mpr rfl, e, k⟩
      have := aAll_len e
      rw [List.length_map] at this ⊢
      rw [this, hl]
    | _ => cases e
def sAsg (f : Em) (A : Am) : Sm := sBnd f fun d env μ => (A d env).map fun env' => .nx env' μ
theorem t_asg {A : Am} {ss : List Nat} (h : SX c W (sAsg f A) De σ H) : tAsg (T c W f) (AX c A ss) De σ H := by
  obtain ⟨yy, F, env, μ, as, R, q⟩ := h
  refine (saft_bind (P := PD c) R q).imp fun v H1 ⟨d, F1, μ1, as1, x1, y1, p1, R1, a1⟩ => ?_
  cases e : A d env with
  | none => rw [e] at a1; exact a1.elim
  | some env' =>
    rw [e] at a1
    exact ⟨yy, F1, env, μ1, as1, d, env', R1, p1, e, fun σ' _ R' => a1 σ' F1 H1 as1 (Evl.Ex.refl _) R'⟩
theorem ds_asg {tg : Expr} {A : Am} {ss : List Nat} (he : PE X e (T c W f)) (hg : PG X tg (AX c A ss)) (hs : swapsWithSole [tg] e pos.line X.env = pure false := by rfl) (hw : swappedStores [tg] e X.env = pure none := by rfl) (h1 : List.map (fun x => x.snd) (assignEach [tg] X.env) = [assign tg X.env] := by rfl) : PS X (.Assign [tg] e pos) (SX c W (sAsg f A)) :=
  impS (ps_asg he hg hs hw h1) fun _ _ _ h => t_asg h
/-- x = e -/
theorem ds_set {i : Nat} {x : Str} {pos' : Pos} (h : PS X (.Assign [.Name x pos'] e pos) (tAsg (T c W f) (gName i))) (hi : noSlot c.sl i) : PS X (.Assign [.Name x pos'] e pos) (SX c W (sAsg f (aName i))) := impS h fun De σ H hw => by
  refine (t_asg (ss := [i]) hw).imp fun v H1 hg => ?_
  obtain ⟨yy, F, env, μ, as, d, env', R, hd, e, k⟩ := hg
  cases e
  exact k _ sle_set (R.set hd hi)
/-- a, b = e1, e2 -/
def mTwo (f g : Em) : Mx (D × D) := bnd f fun x => bnd g fun y => ret (x, y)
def sPar (i j : Nat) (f g : Em) : Sm := sBnd (mTwo f g) fun p env μ => some (.nx ((env.set i (some p.1)).set j (some p.2)) μ)
theorem t_par {i j : Nat} {f g : Em} (hi : noSlot c.sl i) (hj : noSlot c.sl j) (h : SX c W (sPar i j f g) De σ H) : tPar i j (tCons (T c W f) (tCons (T c W g) tNil)) De σ H := by
  obtain ⟨yy, F, env, μ, as, R, q⟩ := h
  have q := (saft_bind (P := fun F _ (p : D × D) (v : V × V) => Dt c.K F p.1 v.1 ∧ Dt c.K F p.2 v.2) R q)
  obtain ⟨yy2, F2, env2, μ2, as2, R2, q2⟩ := q
  refine (aft_bind (P := PD c) R2 q2).imp fun v H1 ⟨d, F1, μ1, as1, x1, y1, p1, R1, a1⟩ => ?_
  refine (aft_bind (P := PD c) R1 a1).imp fun w H3 ⟨d3, F3, μ3, as3, x3, y3, p3, R3, a3⟩ => ?_
  obtain ⟨d', F4, μ4, as4, x4, y4, p4, R4, a4⟩ := aft_ret R3 a3 (v, w) F3 H3 (New.refl R3.ex) ⟨Dt.mono x3 _ _ p1, p3⟩
  exact ⟨v, w, rfl, a4 _ F4 H3 as4 (Evl.Ex.refl _) ((R4.set p4.1 hi).set p4.2 hj)⟩
theorem ds_par {i j : Nat} {f g : Em} (h : PS X st (tPar i j (tCons (T c W f) (tCons (T c W g) tNil)))) (hi : noSlot c.sl i) (hj : noSlot c.sl j) : PS X st (SX c W (sPar i j f g)) := impS h fun _ _ _ hw => t_par hi hj hw
end
end Sh
namespace Sh
open PySem PySem.Spec PyProof.Rows L2
variable [Wd]
/-! ### what a loop walks -/
/-- J walks over the data ds, known in F -/
def GoodIt (K : PySem.W.Frag) (F : Hp) (J : It) (ds : List D) : Prop := ∃ (G : Hp → Prop) (Y : Nat → Hp → V → Hp → Prop), Walk J ds.length G Y ∧ (∀ H, Ex F H → G H) ∧
  ∀ i F1 H x H', i < ds.length → Ex F F1 → Ex F1 H → Y i H x H' → ∃ d F', ds[i]? = some d ∧ New F1 H F' H' ∧ Dt K F' d x
abbrev PI' (c : Ct) : Pr (List D) It := fun F _ ds J => GoodIt c.K F J ds
abbrev IX (c : Ct) (W : WX) (f : Mx (List D)) : TI := fun σ H R => TX (PI' c) c W f σ H fun J H1 => R J H1
section
variable {c : Ct} {W : WX} {F F1 H : Hp} {σ : L2.St} {env : Env} {as : List (Option Addr)} {μ : Mu} {De : Ends} {s t : Sm} {X : Cx} {pos : Pos} {st : Stmt} {rest : List Stmt} {tg e : Expr} {f g : Em}
theorem impI {wi wi' : TI} (h : PI X tg e wi) (q : ∀ σ H R, wi' σ H R → wi σ H R) : PI X tg e wi' := ⟨fun pins s σ H R I hw => h.run pins s σ H R I (q _ _ _ hw)⟩
theorem PI.or {wi wi' : TI} (h : PI X tg e wi) (h' : PI X tg e wi') : PI X tg e (fun σ H R => wi σ H R ∨ wi' σ H R) := ⟨fun pins s σ H R I hw => by
  rcases hw with q | q
  · exact h.run pins s σ H R I q
  · exact h'.run pins s σ H R I q⟩
/-! ### its keys, in their order -/
def Itx (d b : Addr) (o : Obj) (xs : List (NK × Addr × Value)) : It where
  go := fun i H => (H d = some (dxo b o) ∧ DxS o xs) ∧ i < xs.length
  yld := fun i H v H' => H' = H ∧ ∃ x, xs[i]? = some x ∧ v = .ref x.2.1
  stop := fun i H => (H d = some (dxo b o) ∧ DxS o xs) ∧ xs.length ≤ i
theorem turn_x {P : Program} {w : World} {K : PySem.W.Frag} {tg : Expr} {d b : Addr} {o : Obj} {es : Array DictEntry} {ep : Nat} {xs : List (NK × Addr × Value)} (it : Addr) (hod : o.data = .dict es ep) :
    Turn P w K tg (Itx d b o xs) [it] it (fun i h => h.IsKeyIter it d i xs.length ep) := by
  have one : ∀ {c : Addr}, c ∈ [it] → c = it := fun {c} hc => by simpa using hc
  have ent : DxS o xs → es.size = xs.length ∧ ∀ (i : Nat) (x : NK × Addr × Value), xs[i]? = some x → ∃ en, es[i]? = some en ∧ en.key = .ref x.2.1 := fun ⟨_, _, _, es', ep', q, m⟩ => by
    rw [hod] at q
    cases q
    have m := m P
    refine ⟨size_of_entries m, fun i x hx => ?_⟩
    rw [entry_at m i, hx]
    exact ⟨_, rfl, rfl⟩
  refine { mem := by simp, obj := fun i h st c hc => ?_, keep := fun i h h' st k => st.at fun oi e => k it (by simp) oi e, item := ?_, done := ?_, self := fun A i s Q E st q => wpAny_pyIter_keyiter st q }
  · rw [one hc]
    obtain ⟨oi, e, _, dd⟩ := st
    exact ⟨oi, e, fun v z => by rw [dd] at z; cases z⟩
  · rintro X rfl rfl rfl hc i pins s σ H E I hf st ⟨⟨hd, hs⟩, hi⟩
    obtain ⟨f0, f1, f2, f3, f4, f5⟩ := hf it (by simp)
    obtain ⟨hg, _⟩ := dxo_get I hd
    obtain ⟨sz, at_⟩ := ent hs
    have hx : xs[i]? = some xs[i] := List.getElem?_eq_getElem hi
    obtain ⟨en, hen, hkey⟩ := at_ i _ hx
    refine next_key_item st hg hod sz hen fun h' st' sb => ?_
    have J : Inv X pins σ H { s with heap := h' } := I.turned (t' := s.toks) (fun c ob hc e => (sb.2 c hc).trans e) f0 f1 f3 f4 f5
    obtain ⟨oi, e, cl, dd⟩ := id st'
    exact ⟨en.key, rfl, go_of (s := { s with heap := h' }) e cl dd (by decide) ⟨.ref xs[i].2.1, H, J, hkey, ⟨rfl, _, hx, rfl⟩, st', fun c hc => (hf c hc).1⟩⟩
  · rintro X rfl rfl rfl hc i pins s σ H E I hf st ⟨⟨hd, hs⟩, hi⟩
    obtain ⟨f0, f1, f2, f3, f4, f5⟩ := hf it (by simp)
    obtain ⟨hg, _⟩ := dxo_get I hd
    exact next_key_end (I.ok.hd hc) st hg hod (ent hs).1 hi fun h' eb => ⟨rfl, I.turned (t' := s.toks) (fun c ob hc e => eb c ob hc e) f0 f1 f3 f4 f5⟩
def iX (td : TE) : TI := fun σ H R => td σ H fun x H1 => ∃ d b o xs, x = .ref d ∧ H1 d = some (dxo b o) ∧ DxS o xs ∧ R (Itx d b o xs) H1
theorem pi_x {X : Cx} {tg e : Expr} {td : TE} (he : PE X e td) : PI X tg e (iX td) := by
  refine ⟨fun pins s σ H R I h => thn (he.run pins s σ H _ I h) ?_⟩
  rintro u s1 ⟨x, H1, I1, rx, d, b, o, xs, rfl, hd, hs, q⟩
  obtain rfl : u = Value.ref d := rx
  obtain ⟨hg, hsys⟩ := dxo_get I1 hd
  obtain ⟨hx, _, _, es, ep, hdt, m⟩ := id hs
  refine iter_keys hsys hg hx hdt (pi_one (tk := s1.toks) I1 _ (turn_x _ hdt) ⟨_, Heap.get?_push_size _ rfl, rfl, ?_⟩ q)
  rw [size_of_entries (m X.prog)]
  rfl
theorem good_x {K : PySem.W.Frag} {F : Hp} {d b : Addr} {o : Obj} {xs : List (NK × Addr × Value)} {kvs : Kx} (ha : F d = some (dxo b o)) (hs : DxS o xs) (h : Dtx K F kvs xs) : GoodIt K F (Itx d b o xs) (kvs.map (·.1)) := by
  refine ⟨fun H => H d = some (dxo b o) ∧ DxS o xs, fun i H v H' => H' = H ∧ ∃ x, xs[i]? = some x ∧ v = .ref x.2.1, ⟨fun i H hi q => ⟨q, by rw [List.length_map, ← h.len] at hi; exact hi⟩, fun H q => ⟨q, by rw [List.length_map, ← h.len]; exact Nat.le_refl _⟩, fun _ _ _ _ _ _ y => y⟩, fun H e => ⟨e _ _ ha, hs⟩, fun i F1 H v H' hi e1 e2 y => ?_⟩
  obtain ⟨rfl, x, hx, rfl⟩ := y
  have key : ∀ {kvs : Kx} {xs : List (NK × Addr × Value)} {i : Nat}, Dtx K F kvs xs → xs[i]? = some x → ∃ p, kvs[i]? = some p ∧ Dt K F p.1 (.ref x.2.1) := fun {kvs} => by
    induction kvs with
    | nil => intro xs i h hx; rw [show xs = [] from h] at hx; simp at hx
    | cons q r ih =>
      intro xs i h hx
      obtain ⟨kd, dd⟩ := q
      obtain ⟨k', b', u', x', t, eq, hk, h1, h2, h3, h4⟩ := h
      subst eq
      cases i with
      | zero => cases hx; exact ⟨_, rfl, h1⟩
      | succ i => exact ih h4 (by simpa using hx)
  obtain ⟨p, hp, hk⟩ := key h hx
  exact ⟨p.1, F1, by rw [List.getElem?_map, hp]; rfl, New.refl e2, Dt.mono e1 _ _ hk⟩
def items : D → Option (List D)
  | .lst xs => some xs
  | .sl xs => some xs
  | .tup xs => some xs
  | .scr ns => some (ns.map D.int)
  | .dct true kvs => some (kvs.map fun p => .tup (p.1.map keyD))
  | .dx true kvs => some (kvs.map (·.1))
  | _ => none
def mIt (f : Em) : Mx (List D) := bnd f fun d => lift (items d)
theorem good_list {K : PySem.W.Frag} {a : Addr} {vs : List V} {ds : List D} (h : Dts K F ds vs) (hs : ∀ H, Ex F H → SqL K H a vs) : GoodIt K F (Itl K a) ds := by
  refine ⟨_, _, (by rw [← h.len]; exact walk_list), hs, fun i F1 H x H' hi e1 e2 y => ?_⟩
  obtain ⟨rfl, hx⟩ := y
  obtain ⟨d, hd, hdt⟩ := h.at_v hx
  exact ⟨d, F1, hd, New.refl e2, Dt.mono e1 _ _ hdt⟩
theorem good_tup {K : PySem.W.Frag} {a : Addr} {vs : List V} {ds : List D} (h : Dts K F ds vs) (hs : ∀ H, Ex F H → SqT K H a vs) : GoodIt K F (Itt K a) ds := by
  refine ⟨_, _, (by rw [← h.len]; exact walk_tup), hs, fun i F1 H x H' hi e1 e2 y => ?_⟩
  obtain ⟨rfl, hx⟩ := y
  obtain ⟨d, hd, hdt⟩ := h.at_v hx
  exact ⟨d, F1, hd, New.refl e2, Dt.mono e1 _ _ hdt⟩
theorem good_keys {K : PySem.W.Frag} {a : Addr} {o : Obj} {kvs : List (List Key × V)} {ks : List (List Key × D)} (h : Dtk K F ks kvs) (ha : F a = some (.frz o (.dT kvs))) : GoodIt K F (Itkt a o kvs) (ks.map fun p => .tup (p.1.map keyD)) := by
  refine ⟨_, _, (by rw [List.length_map, ← h.len]; exact walk_keysT), fun H e => e _ _ ha, fun i F1 H x H' hi e1 e2 y => ?_⟩
  obtain ⟨rfl, k, v, q, hk, rfl, hq⟩ := y
  have n := New.tup e2 hq
  refine ⟨.tup (k.map keyD), _, ?_, n, q, _, rfl, upd_same, Dts.ofKey _⟩
  have z : (kvs.map (·.1))[i]? = some k := by rw [List.getElem?_map, hk]; rfl
  rw [h.keys] at z
  rw [List.getElem?_map] at z
  obtain ⟨p, hp, hp2⟩ := Option.map_eq_some_iff.mp z
  rw [List.getElem?_map, hp]
  show some (D.tup (p.1.map keyD)) = _
  rw [hp2]
/-- over a list, a tuple, the script, a dict's keys -/
theorem di_any (hK : X.K = c.K) (h : PE X e (T c W f)) : PI X tg e (IX c W (mIt f)) := impI (PI.or (pi_list h) (PI.or (pi_tup h) (PI.or (pi_keys h) (pi_x h)))) fun σ H R ⟨yy, F, env, μ, as, r, q⟩ => by
  have key := aft_bind (P := PD c) r q
  unfold TX at key
  cases e1 : f env μ with
  | none =>
    unfold mIt bnd at q
    rw [e1] at q
    exact q.elim
  | some z =>
    cases z with
    | err x fs μ' =>
      unfold mIt bnd at q
      rw [e1] at q
      refine .inl ⟨yy, F, env, μ, as, r, ?_⟩
      rw [e1]
      exact q
    | ok d μ' =>
      unfold mIt bnd at q
      rw [e1] at q
      change Aft (PI' c) (c.w yy) W F σ env as (lift (items d) env μ') _ at q
      cases e2 : items d with
      | none => rw [e2] at q; exact q.elim
      | some ds =>
        rw [e2] at q
        cases d with
        | lst xs =>
          cases e2
          refine .inl ⟨yy, F, env, μ, as, r, ?_⟩
          rw [e1]
          intro v F' H' as' x y R1 p
          obtain ⟨a, vs, rfl, h1, h2⟩ := p
          exact ⟨a, rfl, ⟨vs, SqL.of (R1.ex _ _ h1)⟩, q _ F' H' as' x y R1 (by rw [hK]; exact good_list h2 fun H e => SqL.of (e _ _ h1))⟩
        | sl xs =>
          cases e2
          refine .inl ⟨yy, F, env, μ, as, r, ?_⟩
          rw [e1]
          intro v F' H' as' x y R1 p
          obtain ⟨a, vs, rfl, ⟨o, h1⟩, h2⟩ := p
          exact ⟨a, rfl, ⟨vs, .inl (.inr ⟨o, R1.ex _ _ h1⟩)⟩, q _ F' H' as' x y R1 (by rw [hK]; exact good_list h2 fun H e => .inl (.inr ⟨o, e _ _ h1⟩))⟩
        | scr xs =>
          cases e2
          refine .inl ⟨yy, F, env, μ, as, r, ?_⟩
          rw [e1]
          intro v F' H' as' x y R1 p
          obtain ⟨a, rfl, h1⟩ := p
          refine ⟨a, rfl, ⟨_, by rw [hK]; exact Evl.ex_l R1.ex h1⟩, q _ F' H' as' x y R1 (by rw [hK]; exact good_list (Dts.ints.mpr rfl) fun H e => Evl.ex_l e h1)⟩
        | tup xs =>
          cases e2
          refine .inr (.inl ⟨yy, F, env, μ, as, r, ?_⟩)
          rw [e1]
          intro v F' H' as' x y R1 p
          obtain ⟨a, vs, rfl, h1, h2⟩ := p
          exact ⟨a, rfl, ⟨vs, SqT.of (R1.ex _ _ h1)⟩, q _ F' H' as' x y R1 (by rw [hK]; exact good_tup h2 fun H e => SqT.of (e _ _ h1))⟩
        | dct fz kvs =>
          cases fz with
          | false => cases e2
          | true =>
            cases e2
            refine .inr (.inr (.inl ⟨yy, F, env, μ, as, r, ?_⟩))
            rw [e1]
            intro v F' H' as' x y R1 p
            obtain ⟨a, ws, rfl, ⟨o, h1⟩, h2⟩ := p
            exact ⟨a, o, rfl, .inr ⟨ws, R1.ex _ _ h1, q _ F' H' as' x y R1 (good_keys h2 h1)⟩⟩
        | dx fz kvs =>
          cases fz with
          | false => cases e2
          | true =>
            cases e2
            refine .inr (.inr (.inr ⟨yy, F, env, μ, as, r, ?_⟩))
            rw [e1]
            intro v F' H' as' x y R1 p
            obtain ⟨a, b, o, xs, rfl, h1, h2, h3⟩ := p
            exact ⟨a, b, o, xs, rfl, R1.ex _ _ h1, h2, q _ F' H' as' x y R1 (good_x h1 h2 h3)⟩
        | _ => cases e2
/-- range -/
def rng (lo : Int) (n : Nat) : List D := (List.range n).map fun i : Nat => .int (lo + (i : Int))
theorem good_rng {K : PySem.W.Frag} {lo : Int} {n : Nat} : GoodIt K F (Itr lo n) (rng lo n) := by
  have l : (rng lo n).length = n := by unfold rng; rw [List.length_map, List.length_range]
  refine ⟨_, _, (by rw [l]; exact walk_range), fun _ _ => trivial, fun i F1 H x H' hi e1 e2 y => ?_⟩
  obtain ⟨rfl, rfl⟩ := y
  refine ⟨.int (lo + i), F1, ?_, New.refl e2, rfl⟩
  rw [l] at hi
  unfold rng
  rw [List.getElem?_map, List.getElem?_range hi]; rfl
def gRng1 : List D → Option (List D)
  | [.int n] => gd (decide (-100000 < n) && decide (n < 100000)) (rng 0 n.toNat)
  | _ => none
def gRng2 : List D → Option (List D)
  | [.int a, .int b] => gd (decide (-100000 < a) && decide (a < 100000) && decide (-100000 < b) && decide (b < 100000)) (rng a (b - a).toNat)
  | _ => none
def mRng (g : List D → Option (List D)) (l : Mx (List D)) : Mx (List D) := bnd l fun ds => lift (g ds)
theorem gRng1_inv : ∀ {ds r}, gRng1 ds = some r → ∃ n : Int, ds = [.int n] ∧ (-100000 < n ∧ n < 100000) ∧ r = rng 0 n.toNat
  | [.int n], r, e => by
    obtain ⟨h, rfl⟩ := gd_ok (show gd _ _ = some r from e)
    simp only [Bool.and_eq_true, decide_eq_true_eq] at h
    exact ⟨n, rfl, h, rfl⟩
theorem gRng2_inv : ∀ {ds r}, gRng2 ds = some r → ∃ a b : Int, ds = [.int a, .int b] ∧ (-100000 < a ∧ a < 100000 ∧ -100000 < b ∧ b < 100000) ∧ r = rng a (b - a).toNat
  | [.int n, .int m], r, e => by
    obtain ⟨h, rfl⟩ := gd_ok (show gd _ _ = some r from e)
    simp only [Bool.and_eq_true, decide_eq_true_eq] at h
    exact ⟨n, m, rfl, ⟨h.1.1.1, h.1.1.2, h.1.2, h.2⟩, rfl⟩
theorem di_rng1 {a : Expr} {l : Mx (List D)} {p : Pos} (hg : Gl X "range") (hm : X.mg "range" = none) (ha : PA X [a] (TL c W l)) (hs : starEach [a] X.env = [(false, eval a X.env)] := by rfl) : PI X tg (.Call (.Name "range" p) [a] [] pos) (IX c W (mRng gRng1 l)) :=
  impI (pi_range1 hg hm ha hs) fun σ H R ⟨yy, F, env, μ, as, r, q⟩ => by
    refine (aft_bind (P := PL c) r q).imp fun vs H1 ⟨d, F1, μ1, as1, x1, y1, p1, R1, a1⟩ => ?_
    obtain ⟨z, ez, k⟩ := aft_lift R1 a1
    obtain ⟨n, rfl, hn, rfl⟩ := gRng1_inv ez
    obtain ⟨v, rfl, hv⟩ := p1.one_inv
    exact ⟨n, by rw [show v = V.int n from hv], by omega, by omega, k _ F1 H1 (New.refl R1.ex) good_rng⟩
theorem di_rng2 {a b : Expr} {l : Mx (List D)} {p : Pos} (hg : Gl X "range") (hm : X.mg "range" = none) (ha : PA X [a, b] (TL c W l)) (hs : starEach [a, b] X.env = [(false, eval a X.env), (false, eval b X.env)] := by rfl) (hs2 : starEach [b] X.env = [(false, eval b X.env)] := by rfl) :
    PI X tg (.Call (.Name "range" p) [a, b] [] pos) (IX c W (mRng gRng2 l)) :=
  impI (pi_range2 hg hm ha hs hs2) fun σ H R ⟨yy, F, env, μ, as, r, q⟩ => by
    refine (aft_bind (P := PL c) r q).imp fun vs H1 ⟨d, F1, μ1, as1, x1, y1, p1, R1, a1⟩ => ?_
    obtain ⟨z, ez, k⟩ := aft_lift R1 a1
    obtain ⟨n, m, rfl, hn, rfl⟩ := gRng2_inv ez
    obtain ⟨v, w, rfl, hv, hw⟩ := p1.two_inv
    exact ⟨n, m, by rw [show v = V.int n from hv, show w = V.int m from hw], by omega, k _ F1 H1 (New.refl R1.ex) good_rng⟩
/-! ### for -/
def forS (A : Am) (s : Sm) : List D → Sm
  | [] => sNext
  | d :: r => fun env μ => match A d env with
    | none => none
    | some env' => match s env' μ with
      | some (.nx e m) => forS A s r e m
      | some (.ct e m) => forS A s r e m
      | some (.bk e m) => some (.nx e m)
      | q => q
def sFor (it : Mx (List D)) (A : Am) (s : Sm) : Sm := sBnd it fun ds => forS A s ds
theorem t_for {it : Mx (List D)} {A : Am} {ss : List Nat} (h : SX c W (sFor it A s) De σ H) : tFor (IX c W it) (AX c A ss) (SX c W s) De σ H := by
  obtain ⟨yy, F, env, μ, as, R, q⟩ := h
  refine (saft_bind (P := PI' c) R q).imp fun J H1 ⟨ds, F1, μ1, as1, x1, y1, p1, R1, a1⟩ => ?_
  obtain ⟨G, Y, w, hG, hY⟩ := p1
  refine for_it w (fun i σ H => ∃ F2 env2 μ2 as2, Ex F1 F2 ∧ Rel (c.w yy) F2 H σ env2 μ2 as2 ∧ SAft (c.w yy) W F2 (forS A s (ds.drop i) env2 μ2) De) ⟨F1, env, μ1, as1, Evl.Ex.refl _, R1, a1⟩ ?_ ?_ ?_
  · rintro i σ H hi ⟨F2, env2, μ2, as2, e2, R2, a2⟩
    exact hG H (e2.trans R2.ex)
  · rintro i x σ H H' hi ⟨F2, env2, μ2, as2, e2, R2, a2⟩ hy
    obtain ⟨d, F3, hd, n, hdt⟩ := hY i F2 H x H' hi e2 R2.ex hy
    have dr : ds.drop i = d :: ds.drop (i + 1) := by
      obtain ⟨hi', e⟩ := List.getElem?_eq_some_iff.mp hd
      rw [List.drop_eq_getElem_cons hi', e]
    rw [dr] at a2
    have a3 := a2.mono n.f
    have R3 := R2.new n
    unfold forS at a3
    cases e1 : A d env2 with
    | none => rw [e1] at a3; exact a3.elim
    | some env3 =>
      rw [e1] at a3
      refine ⟨yy, F3, env2, μ2, as2, d, env3, R3, hdt, e1, fun σ' _ R4 => ⟨yy, F3, env3, μ2, as2, R4, ?_⟩⟩
      cases e4 : s env3 μ2 with
      | none => simp only [e4] at a3; exact a3
      | some z =>
        simp only [e4] at a3
        cases z with
        | nx e m => exact fun σ5 F5 H5 as5 x5 R5 => ⟨F5, e, m, as5, (e2.trans n.f).trans x5, R5, a3.mono x5⟩
        | ct e m => exact fun σ5 F5 H5 as5 x5 R5 => ⟨F5, e, m, as5, (e2.trans n.f).trans x5, R5, a3.mono x5⟩
        | bk e m => exact a3
        | rt d e m => exact a3
        | er y fs e m => exact a3
  · rintro σ H ⟨F2, env2, μ2, as2, e2, R2, a2⟩
    rw [List.drop_length] at a2
    exact a2 σ F2 H as2 (Evl.Ex.refl _) R2
theorem ds_for {iter : Expr} {body : List Stmt} {it : Mx (List D)} {A : Am} {ss : List Nat} (hp : PassesOwn (model X.prog X.w) X.A X.env X.xe) (hc : X.calm = true) (hi : PI X tg iter (IX c W it)) (hg : PG X tg (AX c A ss)) (hb : PSs X body (SX c W s))
    (hs : ∀ x, foldedSetIterable iter X.env x = pure x := by intro _; rfl) : PS X (.For tg iter body [] pos) (SX c W (sFor it A s)) := impS (ps_for hp hc hi hg hb hs) fun _ _ _ h => t_for h
/-! ### while -/
def whileS (p : Mx Bool) (s : Sm) : Nat → Sm
  | 0 => fun _ _ => none
  | n + 1 => sBnd p fun b => if b = true then (fun env μ => match s env μ with
      | some (.nx e m) => whileS p s n e m
      | some (.ct e m) => whileS p s n e m
      | some (.bk e m) => some (.nx e m)
      | q => q) else sNext
theorem t_while {p : Mx Bool} {n : Nat} (h : SX c W (whileS p s n) De σ H) : tWhile (TB c W p) (SX c W s) De σ H := by
  obtain ⟨yy, F, env, μ, as, R, q⟩ := h
  refine ⟨fun m σ H => ∃ F2 env2 μ2 as2, Rel (c.w yy) F2 H σ env2 μ2 as2 ∧ SAft (c.w yy) W F2 (whileS p s m env2 μ2) De, ⟨n, F, env, μ, as, R, q⟩, ?_⟩
  rintro m σ H ⟨F2, env2, μ2, as2, R2, a2⟩
  cases m with
  | zero => exact a2.elim
  | succ m =>
    refine (saft_bind (P := PB) R2 a2).imp fun b H1 ⟨b', F1, μ1, as1, x1, y1, p1, R1, a1⟩ => ?_
    subst p1
    cases b with
    | true =>
      rw [if_pos rfl] at a1 ⊢
      refine ⟨fun σ H => ∃ F2 env2 μ2 as2, Rel (c.w yy) F2 H σ env2 μ2 as2 ∧ SAft (c.w yy) W F2 (whileS p s m env2 μ2) De, fun σ' H' hw => ⟨m, Nat.lt_succ_self m, hw⟩, ⟨yy, F1, env2, μ1, as1, R1, ?_⟩⟩
      cases e4 : s env2 μ1 with
      | none => simp only [e4] at a1; exact a1
      | some z =>
        simp only [e4] at a1
        cases z with
        | nx e m => exact fun σ5 F5 H5 as5 x5 R5 => ⟨F5, e, m, as5, R5, a1.mono x5⟩
        | ct e m => exact fun σ5 F5 H5 as5 x5 R5 => ⟨F5, e, m, as5, R5, a1.mono x5⟩
        | bk e m => exact a1
        | rt d e m => exact a1
        | er y fs e m => exact a1
    | false =>
      rw [if_neg Bool.false_ne_true] at a1 ⊢
      exact a1 σ F1 H1 as1 (Evl.Ex.refl _) R1
theorem ds_while {tt : Expr} {body : List Stmt} {p : Mx Bool} (n : Nat) (hp : PassesOwn (model X.prog X.w) X.A X.env X.xe) (ht : PT X tt (TB c W p)) (hb : PSs X body (SX c W s)) : PS X (.While tt body [] pos) (SX c W (whileS p s n)) := impS (ps_while hp ht hb) fun _ _ _ h => t_while h
end
end Sh
namespace Sh
open PySem PySem.Spec PyProof.Rows L2
variable [Wd]
section
variable {c : Ct} {W : WX} {F F1 H : Hp} {σ : L2.St} {env : Env} {as : List (Option Addr)} {μ : Mu} {De : Ends} {s t : Sm} {X : Cx} {pos : Pos} {st : Stmt} {rest : List Stmt} {tg e : Expr} {f g : Em}
/-- k may be bound anew: it is none of the arguments, its slot is its own -/
structure Bnd (c : Ct) (k i : Nat) : Prop where
  sl : c.sl[k]? = some (some i)
  sole : soleSlot c.sl k i
  ne : k ≠ 1
  np : k ∉ c.ps
/-- a new object is the own object k -/
theorem Rel.own' {y : Dy} (r : Rel (c.w y) F H σ env μ as) {k i : Nat} {p : Addr} {o : Ob} {ho : HO} (b : Bnd c k i) (hp : H p = none) (nt : NoTup (some ho)) (nh : notHid o) (hk : k < μ.length) (hi : i < σ.length)
    (new : ObR c.K F (upd H p ho) (as.set k (some p)) p o) : Rel (c.w y) F (upd H p ho) (σ.set i (some (.ref p))) (env.set i none) (μ.set k o) (as.set k (some p)) := by
  have fp : F p = none := by
    cases q : F p with
    | none => rfl
    | some u => rw [r.ex p u q] at hp; cases hp
  have as_p : ∀ j : Nat, as[j]? ≠ some (some p) := fun j z => (r.out j p z).2.1.1 hp
  have e : Ex H (upd H p ho) := Evl.Ex.new hp
  have hk' : k < as.length := by rw [r.la]; exact hk
  refine ⟨fun b u h => e b u (r.ex b u h), by rw [List.length_set, List.length_set]; exact r.sz, fun j d h => ?_, by rw [List.length_set, List.length_set]; exact r.la, fun j l b g1 g2 => ?_, fun j b h => ?_, fun j u h n => ?_, fun b u h hb => e b u (r.base b u h hb), fun j b' h => ?_, r.pin, r.nw, r.gl⟩
  · rcases set_cases h with ⟨_, q, _⟩ | ⟨q0, q1⟩
    · cases q
    · rw [set_of q0]; exact r.rd j d q1
  · rcases set_cases g1 with ⟨rfl, q1, _⟩ | ⟨q0, q1⟩
    · cases q1
      rcases set_cases g2 with ⟨rfl, _, _⟩ | ⟨_, q2⟩
      · rfl
      · exact (as_p l q2).elim
    · rcases set_cases g2 with ⟨rfl, q2, _⟩ | ⟨_, q2⟩
      · cases q2; exact (as_p j q1).elim
      · exact r.inj j l b q1 q2
  · rcases set_cases h with ⟨rfl, q, _⟩ | ⟨q0, q1⟩
    · cases q
      refine ⟨fp, by rw [upd_same]; exact nt, ?_⟩
      cases z : y.H0 p with
      | none => exact .inl z
      | some u =>
        by_cases zz : some p ∈ y.ex0
        · exact .inr zz
        · have := r.base p u z zz
          rw [hp] at this; cases this
    · obtain ⟨g1, g2, g3⟩ := r.out j b q1
      refine ⟨g1, ?_, g3⟩
      have hb : b ≠ p := fun z => g2.1 (by rw [z]; exact hp)
      rw [upd_ne hb]; exact g2
  · rcases set_cases h with ⟨rfl, q, _⟩ | ⟨q0, q1⟩
    · cases q
      refine ⟨p, set_at hk', new, fun j ej => ?_⟩
      have ej : c.sl[k]? = some (some j) := ej
      rw [b.sl] at ej; cases ej
      exact set_at hi
    · obtain ⟨a, g1, g2, g3⟩ := r.own j u q1 n
      refine ⟨a, by rw [set_of q0]; exact g1, (g2.grow (Evl.Ex.refl _) e).as_mono (by rw [set_of b.ne]), fun l el => ?_⟩
      have hl : i ≠ l := fun z => q0 (b.sole j (by rw [z]; exact el)).symm
      rw [set_of hl]; exact g3 l el
  · have hj : k ≠ j := fun z => b.np (by rw [z]; exact r.pin j b' h)
    rw [set_of hj]; exact r.par j b' h
/-- x = [..], the list to be changed later -/
def sOwnL (k i : Nat) (l : Mx (List D)) : Sm := sBnd l fun ds env μ => if (noMs ds && szb ds.length && decide (k < μ.length) && decide (i < env.length)) = true then some (.nx (env.set i none) (μ.set k (.lst ds))) else none
theorem ds_ownL {i k : Nat} {x : Str} {pos' p2 : Pos} {es : List Expr} {l : Mx (List D)} (b : Bnd c k i) (h : PS X st (tAsg (tLst (TL c W l)) (gName i))) :
    PS X st (SX c W (sOwnL k i l)) := impS h fun De σ H ⟨yy, F, env, μ, as, R, q⟩ =>
  (saft_bind (P := PL c) R q).imp fun v H1 ⟨ds, F1, μ1, as1, x1, y1, p1, R1, a1⟩ => by
    by_cases hc : (noMs ds && szb ds.length && decide (k < μ1.length) && decide (i < env.length)) = true
    · rw [if_pos hc] at a1
      simp only [Bool.and_eq_true, decide_eq_true_eq] at hc
      obtain ⟨⟨⟨c1, c2⟩, c3⟩, c4⟩ := hc
      refine ⟨by rw [p1.len]; exact szb_ok c2, fun p hp => ?_⟩
      exact a1 _ F1 _ _ (Evl.Ex.refl _) (R1.own' b hp ⟨by simp, by intro xs h; cases h⟩ trivial c3 (by rw [R1.sz]; exact c4) ⟨c1, v, upd_same, p1⟩)
    · rw [if_neg hc] at a1; exact a1.elim
/-- x = {} with keys that are tuples -/
def sOwnD (k i : Nat) : Sm := fun env μ => if (decide (k < μ.length) && decide (i < env.length)) = true then some (.nx (env.set i none) (μ.set k (.dct []))) else none
theorem ds_ownD {i k : Nat} (b : Bnd c k i) (h : PS X st (tAsg tDNewT (gName i))) : PS X st (SX c W (sOwnD k i)) := impS h fun De σ H ⟨yy, F, env, μ, as, R, q⟩ => by
  unfold sOwnD at q
  by_cases hc : (decide (k < μ.length) && decide (i < env.length)) = true
  · rw [if_pos hc] at q
    simp only [Bool.and_eq_true, decide_eq_true_eq] at hc
    intro p hp
    exact q _ F _ _ (Evl.Ex.refl _) (R.own' b hp ⟨by simp, by intro xs h; cases h⟩ trivial hc.1 (by rw [R.sz]; exact hc.2) ⟨⟨rfl, List.nodup_nil⟩, [], upd_same, rfl⟩)
  · rw [if_neg hc] at q; exact q.elim
/-- x.append(e) -/
def obL : Option Ob → Option (List D)
  | some (.lst ds) => some ds
  | _ => none
theorem obL_eq {o : Option Ob} {ds : List D} (h : obL o = some ds) : o = some (.lst ds) := by
  cases o with
  | none => cases h
  | some o => cases o with
    | lst xs => cases h; rfl
    | _ => cases h
def sApp (k : Nat) (f : Em) : Sm := fun env μ => match obL μ[k]? with
  | none => none
  | some _ => sBnd f (fun d env μ => match obL μ[k]? with
    | some ds => if (noM d && decide (ds.length < 100000)) = true then some (.nx env (μ.set k (.lst (ds ++ [d])))) else none
    | none => none) env μ
theorem noMs_app : ∀ {xs ys : List D}, noMs xs = true → noMs ys = true → noMs (xs ++ ys) = true
  | [], _, _, h => h
  | x :: xs, ys, g, h => fit_ff (show (noM x && noMs xs) = true from g) fun g1 g2 => Bool.and_eq_true_iff.mpr ⟨g1, noMs_app g2 h⟩
theorem ds_app {i k : Nat} (hsl : c.sl[k]? = some (some i)) (h : PS X st (tDrop (tBM X.K "list" rAppend (tVar i) (tCons (T c W f) tNil)))) : PS X st (SX c W (sApp k f)) := impS h fun De σ H ⟨yy, F, env, μ, as, R, q⟩ => by
  unfold sApp at q
  cases e1 : obL μ[k]? with
  | none => rw [e1] at q; exact q.elim
  | some ds0 =>
    rw [e1] at q
    obtain ⟨a, g1, ⟨_, vs0, g2, _⟩, g3⟩ := R.own k _ (obL_eq e1) trivial
    refine ⟨.ref a, g3 i hsl, .inl ⟨rfl, vs0, SqL.of g2⟩, ?_⟩
    refine (saft_bind (P := PD c) R q).imp fun v H1 ⟨d, F1, μ1, as1, x1, y1, p1, R1, a1⟩ => ?_
    cases e2 : obL μ1[k]? with
    | none => rw [e2] at a1; exact a1.elim
    | some ds =>
      rw [e2] at a1
      by_cases hc : (noM d && decide (ds.length < 100000)) = true
      · simp only [if_pos hc] at a1
        simp only [Bool.and_eq_true, decide_eq_true_eq] at hc
        obtain ⟨a', h1, ⟨n1, vs, h2, h3⟩, h4⟩ := R1.own k _ (obL_eq e2) trivial
        have z := y1 k a g1
        rw [h1] at z; cases z
        refine ⟨a, vs, v, rfl, rfl, h2, by rw [h3.len]; exact Evl.sz_lt hc.2, ?_⟩
        exact a1 σ F1 _ as1 (Evl.Ex.refl _) (R1.write h1 (obL_eq e2) trivial ⟨by simp, by intro xs h; cases h⟩ ⟨noMs_app n1 (by show (noM d && true) = true; rw [hc.1]; rfl), vs ++ [v], upd_same, Dts.app h3 (Dts.one p1)⟩)
      · simp only [if_neg hc] at a1; exact a1.elim
/-- d[k] = e -/
def obK : Option Ob → Option (List (List Key × D))
  | some (.dct kvs) => some kvs
  | _ => none
theorem obK_eq {o : Option Ob} {ds : List (List Key × D)} (h : obK o = some ds) : o = some (.dct ds) := by
  cases o with
  | none => cases h
  | some o => cases o with
    | dct xs => cases h; rfl
    | _ => cases h
def tupKey : D → Option (List Key)
  | .tup ks => keyOf ks
  | _ => none
def sPut (k : Nat) (fk fv : Em) : Sm := sBnd fv fun v => fun env μ => match obK μ[k]? with
  | none => none
  | some _ => sBnd fk (fun kd env μ => match obK μ[k]?, tupKey kd with
    | some kvs, some key => if (noM v && decide (kvs.length < 100000)) = true then some (.nx env (μ.set k (.dct (dput kvs key v)))) else none
    | _, _ => none) env μ
theorem noMk_put : ∀ {kvs : List (List Key × D)} {k : List Key} {d : D}, noMk kvs = true → noM d = true → noMk (dput kvs k d) = true
  | [], k, d, _, g => by unfold noMk dput; rw [List.all_cons, List.all_nil, g]; rfl
  | (j, e) :: r, k, d, h, g => by
    have h' : (noM e && noMk r) = true := by unfold noMk at h ⊢; rw [List.all_cons] at h; exact h
    obtain ⟨h1, h2⟩ := Bool.and_eq_true_iff.mp h'
    unfold dput
    by_cases q : j = k
    · rw [if_pos q]
      unfold noMk
      rw [List.all_cons, Bool.and_eq_true_iff]
      exact ⟨g, h2⟩
    · rw [if_neg q]
      unfold noMk
      rw [List.all_cons, Bool.and_eq_true_iff]
      exact ⟨h1, noMk_put h2 g⟩
theorem ds_put {i k : Nat} {fk fv : Em} (hsl : c.sl[k]? = some (some i)) (h : PS X st (sDPut (tVar i) (T c W fk) (T c W fv))) : PS X st (SX c W (sPut k fk fv)) := impS h fun De σ H ⟨yy, F, env, μ, as, R, q⟩ => by
  refine (saft_bind (P := PD c) R q).imp fun v H1 ⟨d, F1, μ1, as1, x1, y1, p1, R1, a1⟩ => ?_
  cases e1 : obK μ1[k]? with
  | none => simp only [e1] at a1; exact a1.elim
  | some kv0 =>
    simp only [e1] at a1
    obtain ⟨a, g1, ⟨_, vs0, g2, _⟩, g3⟩ := R1.own k _ (obK_eq e1) trivial
    refine ⟨.ref a, g3 i hsl, ?_⟩
    refine (saft_bind (P := PD c) R1 a1).imp fun vk H2 ⟨kd, F2, μ2, as2, x2, y2, p2, R2, a2⟩ => ?_
    cases e2 : obK μ2[k]? with
    | none => simp only [e2] at a2; exact a2.elim
    | some kvs =>
      cases e3 : tupKey kd with
      | none => simp only [e2, e3] at a2; exact a2.elim
      | some key =>
        simp only [e2, e3] at a2
        by_cases hc : (noM d && decide (kvs.length < 100000)) = true
        · rw [if_pos hc] at a2
          simp only [Bool.and_eq_true, decide_eq_true_eq] at hc
          obtain ⟨a', h1, ⟨n1, ws, h2, h3⟩, h4⟩ := R2.own k _ (obK_eq e2) trivial
          have z := y2 k a g1
          rw [h1] at z; cases z
          cases kd with
          | tup ks =>
            obtain ⟨b, bs, rfl, q1, q2⟩ := p2
            have e3 : keyOf ks = some key := e3
            rw [keyOf_eq e3] at q2
            rw [q2.key] at q1
            refine ⟨a, _, rfl, DPut.t h2 (R2.ex _ _ q1) (by rw [h3.len]; exact Evl.sz_lt hc.2), ?_⟩
            exact a2 σ F2 _ as2 (Evl.Ex.refl _) (R2.write h1 (obK_eq e2) trivial ⟨by simp, by intro xs h; cases h⟩ ⟨⟨noMk_put n1.1 hc.1, (dput_keys kvs key d n1.2).1⟩, _, upd_same, h3.put (Dt.mono x2 _ _ p1) n1.2⟩)
          | _ => cases e3
        · rw [if_neg hc] at a2; exact a2.elim
/-- the own object k is data from now on -/
def frzD : Option Ob → Option D
  | some (.lst ds) => some (.lst ds)
  | some (.dct kvs) => some (.dct true kvs)
  | some (.dx kvs) => some (.dx true kvs)
  | _ => none
def sFrz (k i : Nat) : Sm := fun env μ => match frzD μ[k]? with
  | none => none
  | some d => some (.nx (env.set i (some d)) (μ.set k .hid))
theorem ps_lockFor {t : TS} (h : PS X st t) : PS X st (fun De σ H => t De σ H ∨ ∃ d u, H d = some u ∧ Mut (some u) ∧ ∀ od, t De σ (upd H d (.frz od u))) := by
  refine ⟨fun pins s σ H D I hw => ?_⟩
  rcases hw with hw | ⟨d, u, hd, mu, hw⟩
  · exact h.run pins s σ H D I hw
  · obtain ⟨od, I1⟩ := I.lock hd mu
    exact h.run pins s σ _ D I1 (hw od)
theorem Rel.freezeK {od : Obj} (r : Rel c F H σ env μ as) {k : Nat} {a : Addr} {kvs : List (List Key × V)} (hk : as[k]? = some (some a)) (ha : H a = some (.dT kvs)) (np : k ∉ c.ps) (h1 : k ≠ 1) :
    Rel c (upd F a (.frz od (.dT kvs))) (upd H a (.frz od (.dT kvs))) σ env (μ.set k .hid) (as.set k none) := by
  obtain ⟨fa, na, ba⟩ := r.out k a hk
  have e : Ex F (upd F a (.frz od (.dT kvs))) := Evl.Ex.new fa
  have keep : ∀ b u, H b = some u → b ≠ a → upd H a (.frz od (.dT kvs)) b = some u := fun b u e hb => by rw [upd_ne hb]; exact e
  have as_ne : ∀ (j : Nat) (b : Addr), (as.set k none)[j]? = some (some b) → k ≠ j ∧ as[j]? = some (some b) := fun j b e => by
    rcases set_cases e with ⟨_, h2, _⟩ | h
    · cases h2
    · exact h
  refine ⟨fun b u h => ?_, r.sz, fun i d' h => ?_, by rw [List.length_set, List.length_set]; exact r.la, fun j l b h1 h2 => r.inj j l b (as_ne j b h1).2 (as_ne l b h2).2, fun j b h => ?_, fun j u h n => ?_, fun b u h hb => ?_, fun j b h => ?_, r.pin, fun b h => ?_, fun p hp => e _ _ (r.gl p hp)⟩
  · by_cases hb : b = a
    · subst hb; rw [upd_same] at h; cases h; exact upd_same
    · rw [upd_ne hb] at h; exact keep b u (r.ex b u h) hb
  · obtain ⟨v, h1, h2⟩ := r.rd i d' h
    exact ⟨v, h1, Dt.mono e _ _ h2⟩
  · obtain ⟨hj, h⟩ := as_ne j b h
    obtain ⟨g1, g2, g3⟩ := r.out j b h
    have hb : b ≠ a := fun z => hj (r.inj k j a hk (by rw [← z]; exact h))
    exact ⟨by rw [upd_ne hb]; exact g1, by rw [upd_ne hb]; exact g2, g3⟩
  · rcases set_cases h with ⟨_, h2, _⟩ | ⟨hj, h2⟩
    · cases h2; exact n.elim
    · obtain ⟨b, g1, g2, g3⟩ := r.own j u h2 n
      have hb : b ≠ a := fun z => hj (r.inj k j a hk (by rw [← z]; exact g1))
      refine ⟨b, by rw [set_of hj]; exact g1, ?_, g3⟩
      refine ObR.as_mono (as := as) (by rw [set_of h1]) ?_
      cases u with
      | hid => trivial
      | lst ds => obtain ⟨n, vs, q1, q2⟩ := g2; exact ⟨n, vs, keep _ _ q1 hb, Dts.mono e _ _ q2⟩
      | dct kvs => obtain ⟨n, vs, q1, q2⟩ := g2; exact ⟨n, vs, keep _ _ q1 hb, Dtk.mono e _ _ q2⟩
      | dk kvs => obtain ⟨n, vs, q1, q2⟩ := g2; exact ⟨n, vs, keep _ _ q1 hb, Dtd.mono e _ _ q2⟩
      | hl s i => obtain ⟨q, q1, q2⟩ := g2; exact ⟨q, q1, keep _ _ q2 hb⟩
      | ins x fs => obtain ⟨n, dx, vs, q1, q2⟩ := g2; exact ⟨n, dx, vs, keep _ _ q1 hb, Dtf.mono e _ _ q2⟩
      | dx kvs => obtain ⟨n, b', o, xs, q1, q2, q3⟩ := g2; exact ⟨n, b', o, xs, keep _ _ q1 hb, q2, Dtx.mono e _ _ q3⟩
      | tbl q => obtain ⟨t0, ps, q1, q2, q3⟩ := g2; exact ⟨t0, ps, keep _ _ q1 hb, q2, fun pos cv z => let ⟨c, e1, e2⟩ := q3 pos cv z; ⟨c, e1, e _ _ e2⟩⟩
  · refine keep b u (r.base b u h hb) fun z => ?_
    subst z
    rcases ba with z | z
    · rw [h] at z; cases z
    · exact hb z
  · have hj : k ≠ j := fun z => np (by rw [z]; exact r.pin j b h)
    rw [set_of hj]; exact r.par j b h
  · by_cases hb : b = a
    · subst hb; exact .inr (.inl (r.nwA hk np))
    · rw [upd_ne hb] at h; exact r.nw b h
/-- a slot whose own object is hidden takes a datum -/
theorem Rel.setH (r : Rel c F H σ env μ as) {k i : Nat} {v : V} {d : D} (hd : Dt c.K F d v) (hs : σ[i]? = some (some v)) : Rel c F H σ (env.set i (some d)) μ as where
  ex := r.ex
  sz := by rw [List.length_set]; exact r.sz
  rd := fun j d' e => by
    rcases set_cases e with ⟨rfl, h2, h3⟩ | ⟨h1, h2⟩
    · cases h2
      exact ⟨v, hs, hd⟩
    · exact r.rd j d' h2
  la := r.la
  inj := r.inj
  out := r.out
  own := r.own
  base := r.base
  par := r.par
  pin := r.pin
  nw := r.nw
  gl := r.gl
theorem ds_frz {k i : Nat} (b : Bnd c k i) (h : PS X st (SX c W s)) : PS X st (SX c W (sSeq (sFrz k i) s)) := impS (ps_lockFor h) fun De σ H ⟨yy, F, env, μ, as, R, q⟩ => by
  unfold sSeq sFrz at q
  cases e : μ[k]? with
  | none => rw [e] at q; exact q.elim
  | some o =>
    rw [e] at q
    cases o with
    | lst ds =>
      obtain ⟨a, g1, ⟨n, vs, g2, g3⟩, g4⟩ := R.own k _ e trivial
      have R1 := R.freeze g1 g2 (.lst n g3) b.np b.ne
      have fa := (R.out k a g1).1
      have ee : Ex F (upd F a (.lst vs)) := Evl.Ex.new fa
      have R2 := R1.setH (k := k) (d := .lst ds) ⟨a, vs, rfl, upd_same, Dts.mono ee _ _ g3⟩ (g4 i b.sl)
      exact .inl ⟨yy, _, _, _, _, R2, q.mono ee⟩
    | dct kvs =>
      obtain ⟨a, g1, ⟨n, vs, g2, g3⟩, g4⟩ := R.own k _ e trivial
      refine .inr ⟨a, .dT vs, g2, trivial, fun od => ?_⟩
      have R1 := R.freezeK (od := od) g1 g2 b.np b.ne
      have fa := (R.out k a g1).1
      have ee : Ex F (upd F a (.frz od (.dT vs))) := Evl.Ex.new fa
      have R2 := R1.setH (k := k) (d := .dct true kvs) ⟨a, vs, rfl, ⟨od, upd_same⟩, Dtk.mono ee _ _ g3⟩ (g4 i b.sl)
      exact ⟨yy, _, _, _, _, R2, q.mono ee⟩
    | dx kvs =>
      obtain ⟨a, g1, ⟨n, b', o, xs, g2, g3, g5⟩, g4⟩ := R.own k _ e trivial
      have R1 := R.freeze g1 g2 (.dx n g3 g5) b.np b.ne
      have fa := (R.out k a g1).1
      have ee : Ex F (upd F a (dxo b' o)) := Evl.Ex.new fa
      have R2 := R1.setH (k := k) (d := .dx true kvs) ⟨a, _, _, _, rfl, upd_same, g3, Dtx.mono ee _ _ g5⟩ (g4 i b.sl)
      exact .inl ⟨yy, _, _, _, _, R2, q.mono ee⟩
    | _ => exact q.elim
end
end Sh
namespace Sh
open PySem PySem.Spec PyProof.Rows L2
variable [Wd]
/-! ### defs -/
/-- what a def's text says of the objects that it may change: their slots, which of them are its arguments -/
structure Sg where
  sl : List (Option Nat)
  ps : List Nat
  G : List (Addr × List V)
abbrev Fm := List (Option D) → Mu → Option (Res D)
/-- a body as a function: N slots -/
def fnS (N : Nat) (body : Sm) : Fm := fun args μ => match body (args ++ List.replicate (N - args.length) none) μ with
  | some (.nx _ μ') => some (.ok .non μ')
  | some (.rt d _ μ') => some (.ok d μ')
  | some (.er x fs _ μ') => some (.err x fs μ')
  | _ => none
/-- a call's beginning -/
structure Ent (K : PySem.W.Frag) (g : Sg) (F H : Hp) (vs : List V) (args : List (Option D)) (μ : Mu) (as : List (Option Addr)) : Prop where
  ex : Ex F H
  sz : vs.length = args.length
  rd : ∀ (i : Nat) (d : D), args[i]? = some (some d) → ∃ v, vs[i]? = some v ∧ Dt K F d v
  la : as.length = μ.length
  inj : ∀ (k l : Nat) (a : Addr), as[k]? = some (some a) → as[l]? = some (some a) → k = l
  out : ∀ (k : Nat) (a : Addr), as[k]? = some (some a) → F a = none ∧ NoTup (H a)
  own : ∀ (k : Nat) (o : Ob), μ[k]? = some o → notHid o → ∃ a, as[k]? = some (some a) ∧ ObR K F H as a o ∧ ∀ (i : Nat), g.sl[k]? = some (some i) → vs[i]? = some (.ref a)
  dom : ∀ (k : Nat) (a : Addr), as[k]? = some (some a) → k ∈ g.ps
  gl : ∀ p ∈ g.G, F p.1 = some (.tup p.2)
/-- .. and its end -/
structure Ret (K : PySem.W.Frag) (g : Sg) (F H F' H' : Hp) (μ' : Mu) (as : List (Option Addr)) : Prop where
  f : Ex F F'
  ex : Ex F' H'
  fr : ∀ b o, H b = some o → some b ∉ as → H' b = some o
  nw : ∀ b, F' b ≠ none → F b ≠ none ∨ H b = none ∨ ∃ xs, H b = some (.tup xs)
  out : ∀ (k : Nat) (a : Addr), as[k]? = some (some a) → F' a = none ∧ NoTup (H' a)
  own : ∀ (k : Nat) (o : Ob), k ∈ g.ps → μ'[k]? = some o → notHid o → ∃ a, as[k]? = some (some a) ∧ ObR K F' H' as a o
/-- the promise of a def that the text's function says -/
def FSp (K : PySem.W.Frag) (g : Sg) (fm : Fm) : Sp := fun vs H Q E => ∃ F args μ as, Ent K g F H vs args μ as ∧ match fm args μ with
  | none => False
  | some (.ok d μ') => ∀ v F' H', Ret K g F H F' H' μ' as → Dt K F' d v → Q v H'
  | some (.err x fs μ') => ∀ F' H' a, Ret K g F H F' H' μ' as → XdR K F' H' a fs → E (.ref (He.ga K x)) a H'
/-- .. that raises nothing -/
def FSp0 (K : PySem.W.Frag) (g : Sg) (fm : Fm) (np : Nat) : Sp := fun vs H Q _ => vs.length = np ∧ FSp K g fm vs H Q fun _ _ _ => False
def FSpX (K : PySem.W.Frag) (g : Sg) (fm : Fm) (np : Nat) : Sp := fun vs H Q E => vs.length = np ∧ FSp K g fm vs H Q E
def Sg.c (g : Sg) (K : PySem.W.Frag) : Ct := ⟨K, fun _ => none, fun _ => none, [], g.sl, g.ps, g.G⟩
section
variable {K : PySem.W.Frag} {g : Sg} {F H : Hp} {vs : List V} {args : List (Option D)} {μ : Mu} {as : List (Option Addr)}
theorem Ent.rel (e : Ent K g F H vs args μ as) {N : List Str} (hN : args.length ≤ N.length) : Rel ((g.c K).w ⟨F, H, as⟩) F H (L2.start N vs) (args ++ List.replicate (N.length - args.length) none) μ as := by
  have hs : ∀ (i : Nat) (v : V), vs[i]? = some v → (L2.start N vs)[i]? = some (some v) := fun i v h => by
    have hi : i < vs.length := lt_of_at h
    unfold L2.start
    rw [List.getElem?_append_left (by rw [List.length_map]; exact hi), List.getElem?_map, h]; rfl
  refine ⟨e.ex, ?_, fun i d h => ?_, e.la, e.inj, fun k a h => ?_, fun k o h n => ?_, fun b o h _ => h, fun k a h => h, e.dom, fun b h => .inl h, e.gl⟩
  · unfold L2.start
    rw [List.length_append, List.length_append, List.length_map, List.length_replicate, List.length_replicate, e.sz]
  · by_cases hi : i < args.length
    · rw [List.getElem?_append_left hi] at h
      obtain ⟨v, h1, h2⟩ := e.rd i d h
      exact ⟨v, hs i v h1, h2⟩
    · rw [List.getElem?_append_right (by omega)] at h
      have := List.mem_of_getElem? h
      have z := List.eq_of_mem_replicate this
      cases z
  · obtain ⟨h1, h2⟩ := e.out k a h
    exact ⟨h1, h2, .inr (List.mem_of_getElem? h)⟩
  · obtain ⟨a, h1, h2, h3⟩ := e.own k o h n
    exact ⟨a, h1, h2, fun i hi => hs i _ (h3 i hi)⟩
/-- from the end of the body -/
theorem Rel.ret {c : Ct} {F' H' : Hp} {σ : L2.St} {env : Env} {μ' : Mu} {as' : List (Option Addr)} (hc : c = g.c K) (f : Ex F F') (r : Rel (c.w ⟨F, H, as⟩) F' H' σ env μ' as') (one : ∀ k ∈ g.ps, ∃ a, as[k]? = some (some a)) (h1 : g.ps ≠ [] → 1 ∈ g.ps) : Ret K g F H F' H' μ' as := by
  subst hc
  refine ⟨f, r.ex, fun b o h n => r.base b o h n, fun b h => r.nw b h, fun k a h => ?_, fun k o hk h n => ?_⟩
  · obtain ⟨z1, z2, _⟩ := r.out k a (r.par k a h)
    exact ⟨z1, z2⟩
  · obtain ⟨a, g1, g2, _⟩ := r.own k o h n
    obtain ⟨a', g3⟩ := one k hk
    have := r.par k a' g3
    rw [g1] at this; cases this
    refine ⟨a, g3, ObR.as_mono ?_ g2⟩
    obtain ⟨a1, q1⟩ := one 1 (h1 (List.ne_nil_of_mem hk))
    rw [q1]
    exact r.par 1 a1 q1
end
section
variable {P : Program} {w : World} {K : PySem.W.Frag} {mg : Str → Option Value} {base : Heap} {x qual : Str} {st : Stmt} {f : Addr} {fd : FuncData} {N ps : List Str} {k : Nat} {g : Sg} {body : Sm}
/-- all arguments that may change are there -/
def full (g : Sg) (μ : Mu) : Prop := ∀ k ∈ g.ps, ∃ o, μ[k]? = some o ∧ notHid o
def fullB (g : Sg) (μ : Mu) : Bool := g.ps.all fun k => match μ[k]? with
  | some .hid => false
  | some _ => true
  | none => false
theorem fullB_ok {g : Sg} {μ : Mu} (h : fullB g μ = true) : full g μ := fun k hk => by
  have z := List.all_eq_true.mp h k hk
  cases e : μ[k]? with
  | none => rw [e] at z; cases z
  | some o => cases o with
    | hid => rw [e] at z; cases z
    | _ => exact ⟨_, rfl, trivial⟩
def oneB (g : Sg) : Bool := g.ps.isEmpty || g.ps.contains 1
theorem oneB_ok {g : Sg} (h : oneB g = true) : g.ps ≠ [] → 1 ∈ g.ps := fun n => by
  unfold oneB at h
  rcases Bool.or_eq_true_iff.mp h with z | z
  · exact (n (List.isEmpty_iff.mp z)).elim
  · exact List.contains_iff_mem.mp z
/-- the def's function: with its own objects there -/
def fnG (g : Sg) (N : Nat) (body : Sm) : Fm := fun args μ => if fullB g μ = true then fnS N body args μ else none
theorem fsp_body {c : Ct} {X : Cx} {W : WX} {vs : List V} {H : Hp} {Q : VK} {E : XK} (hc : c = g.c K) (hN : ps.length ≤ N.length) (h1 : oneB g = true) (hW : ∀ cls d σ H, E cls d H → W cls d σ H)
    (h : vs.length = ps.length) (h2 : FSp K g (fnG g N.length body) vs H Q E) : SX c W body { nx := fun _ H' => Q .non H', rt := Q } (L2.start N vs) H := by
  subst hc
  obtain ⟨F, args, μ, as, e, q⟩ := h2
  have hl : args.length ≤ N.length := by rw [← e.sz, h]; exact hN
  refine ⟨⟨F, H, as⟩, F, _, μ, as, e.rel hl, ?_⟩
  unfold fnG at q
  by_cases hf : fullB g μ = true
  · rw [if_pos hf] at q
    have one : ∀ k ∈ g.ps, ∃ a, as[k]? = some (some a) := fun k hk => by
      obtain ⟨o, ho, n⟩ := fullB_ok hf k hk
      obtain ⟨a, h1, _⟩ := e.own k o ho n
      exact ⟨a, h1⟩
    have o1 := oneB_ok h1
    unfold fnS at q
    cases eb : body (args ++ List.replicate (N.length - args.length) none) μ with
    | none => rw [eb] at q; exact q
    | some z =>
      rw [eb] at q
      cases z with
      | nx env' μ' => exact fun σ F' H' as' x R => q .non F' H' (R.ret rfl x one o1) rfl
      | rt d env' μ' => exact fun v σ F' H' as' x R p => q v F' H' (R.ret rfl x one o1) p
      | er y fs env' μ' => exact fun σ F' H' as' d x R p => hW _ _ _ _ (q F' H' d (R.ret rfl x one o1) p)
      | bk _ _ => exact q.elim
      | ct _ _ => exact q.elim
  · rw [if_neg hf] at q; exact q.elim
abbrev W0 : WX := fun _ _ _ _ => False
theorem fn_ok0 (F : Fun K x qual st f fd) (S : FnScope N ps (defScope st)) (hN : ps.length ≤ N.length) (h1 : oneB g = true)
    (hb : ∀ (cdv : Value) (A : Around) (outer : List PySem.Env) (s : Shared) (H : Hp) (E : XK), Room k (A.deeper (envOfC qual (defScope st) s.heap.objs.size f cdv)) → PSs (cxOf CX0 P w K mg base N qual (defScope st) f cdv A outer s H E).nox (defBody st) (SX (g.c K) W0 body)) :
    FnOk P w K mg base CX0 (k + 1) f fd ps (FSp0 K g (fnG g N.length body) ps.length) :=
  F.ok S (fun vs H Q E h => h.1) fun cdv A outer s H vs Q E hr h => ⟨_, hb cdv A outer s H E hr, fsp_body (X := (cxOf CX0 P w K mg base N qual (defScope st) f cdv A outer s H E).nox) (E := fun _ _ _ => False) rfl hN h1 (fun _ _ _ _ z => z) h.1 h.2⟩
abbrev WE' (E : XK) : WX := fun cls d _ H => E cls d H
theorem fn_okX (F : Fun K x qual st f fd) (S : FnScope N ps (defScope st)) (hN : ps.length ≤ N.length) (h1 : oneB g = true)
    (hb : ∀ (cdv : Value) (A : Around) (outer : List PySem.Env) (s : Shared) (H : Hp) (E : XK), Room k (A.deeper (envOfC qual (defScope st) s.heap.objs.size f cdv)) → PSs (cxOf (L2.CX P w) P w K mg base N qual (defScope st) f cdv A outer s H E) (defBody st) (SX (g.c K) (WE' E) body)) :
    FnOk P w K mg base (L2.CX P w) (k + 1) f fd ps (FSpX K g (fnG g N.length body) ps.length) :=
  F.okX S (fun vs H Q E h => h.1) fun cdv A outer s H vs Q E hr h => ⟨_, hb cdv A outer s H E hr, fsp_body (X := cxOf (L2.CX P w) P w K mg base N qual (defScope st) f cdv A outer s H E) (E := E) rfl hN h1 (fun _ _ _ _ z => z) h.1 h.2⟩
end
/-! ### arguments of a call: data, or objects of one's own -/
abbrev Ar := D ⊕ Nat
def ArR (K : PySem.W.Frag) (F : Hp) (as : List (Option Addr)) : Ar → V → Prop
  | .inl d, v => Dt K F d v
  | .inr k, v => ∃ a, as[k]? = some (some a) ∧ v = .ref a
def ArsR (K : PySem.W.Frag) (F : Hp) (as : List (Option Addr)) : List Ar → List V → Prop
  | [], vs => vs = []
  | a :: r, vs => ∃ x t, vs = x :: t ∧ ArR K F as a x ∧ ArsR K F as r t
abbrev PA' (c : Ct) : Pr (List Ar) (List V) := fun F as l vs => ArsR c.K F as l vs
abbrev TAr (c : Ct) (W : WX) (f : Mx (List Ar)) : TA := TX (PA' c) c W f
section
variable {c : Ct} {W : WX} {F F1 H H1 : Hp} {σ : L2.St} {env : Env} {as as1 : List (Option Addr)} {μ : Mu} {X : Cx} {pos : Pos} {e : Expr} {es : List Expr} {f : Em} {l : Mx (List Ar)}
theorem ArR.mono {K : PySem.W.Frag} (e : Ex F F1) (y : AsLe as as1) : ∀ {a : Ar} {v : V}, ArR K F as a v → ArR K F1 as1 a v
  | .inl _, _, h => Dt.mono e _ _ h
  | .inr k, _, ⟨a, h1, h2⟩ => ⟨a, y k a h1, h2⟩
def rNil : Mx (List Ar) := ret []
def rCons (f : Em) (l : Mx (List Ar)) : Mx (List Ar) := bnd f fun d => bnd l fun r => ret (.inl d :: r)
def rOwn (k : Nat) (l : Mx (List Ar)) : Mx (List Ar) := fun env μ => match μ[k]? with
  | none => none
  | some .hid => none
  | some _ => bnd l (fun r => ret (.inr k :: r)) env μ
theorem dr_nil : PA X [] (TAr c W rNil) := impA pa_nil fun σ H Q ⟨yy, F, env, μ, as, R, q⟩ => aft_ret R q _ F H (New.refl R.ex) rfl
theorem dr_cons (ha : PE X e (T c W f)) (hr : PA X es (TAr c W l)) (hs : starEach (e :: es) X.env = (false, eval e X.env) :: starEach es X.env := by rfl) : PA X (e :: es) (TAr c W (rCons f l)) := impA (pa_cons ha hr hs) fun σ H Q ⟨yy, F, env, μ, as, R, q⟩ => by
  refine (aft_bind (P := PD c) R q).imp fun v H1 ⟨d, F1, μ1, as1, x1, y1, p1, R1, a1⟩ => ?_
  refine (aft_bind (P := PA' c) R1 a1).imp fun v2 H2 ⟨d2, F2, μ2, as2, x2, y2, p2, R2, a2⟩ => ?_
  exact aft_ret R2 a2 _ F2 H2 (New.refl R2.ex) ⟨v, v2, rfl, Dt.mono x2 _ _ p1, p2⟩
theorem dr_own {i k : Nat} (hsl : c.sl[k]? = some (some i)) (ha : PE X e (tVar i)) (hr : PA X es (TAr c W l)) (hs : starEach (e :: es) X.env = (false, eval e X.env) :: starEach es X.env := by rfl) : PA X (e :: es) (TAr c W (rOwn k l)) := impA (pa_cons ha hr hs) fun σ H Q ⟨yy, F, env, μ, as, R, q⟩ => by
  unfold rOwn at q
  have main : ∀ o, μ[k]? = some o → notHid o → Aft (PA' c) (c.w yy) W F σ env as (bnd l (fun r => ret (.inr k :: r)) env μ) Q → tCons (tVar i) (TAr c W l) σ H Q := fun o e1 n q => by
    obtain ⟨a, g1, g2, g3⟩ := R.own k o e1 n
    refine ⟨.ref a, g3 i hsl, ?_⟩
    refine (aft_bind (P := PA' c) R q).imp fun v2 H2 ⟨d2, F2, μ2, as2, x2, y2, p2, R2, a2⟩ => ?_
    exact aft_ret R2 a2 _ F2 H2 (New.refl R2.ex) ⟨_, v2, rfl, ⟨a, y2 k a g1, rfl⟩, p2⟩
  cases e1 : μ[k]? with
  | none => rw [e1] at q; exact q.elim
  | some o =>
    rw [e1] at q
    cases o with
    | hid => exact q.elim
    | lst ds => exact main _ e1 trivial q
    | dct kvs => exact main _ e1 trivial q
    | dk kvs => exact main _ e1 trivial q
    | hl s i => exact main _ e1 trivial q
    | ins x fs => exact main _ e1 trivial q
    | dx kvs => exact main _ e1 trivial q
    | tbl w => exact main _ e1 trivial q
end
end Sh
namespace Sh
open PySem PySem.Spec PyProof.Rows L2
variable [Wd]
/-! ### a call -/
abbrev Mp := List (Nat × Nat)
/-- the caller's object that is the callee's k; the callee's that is the caller's j -/
def lkI : Mp → Nat → Option Nat
  | [], _ => none
  | (a, b) :: r, k => if a = k then some b else lkI r k
def lkO : Mp → Nat → Option Nat
  | [], _ => none
  | (a, b) :: r, j => if b = j then some a else lkO r j
def inL {α : Type} (z : α) (mp : Mp) (l : List α) : Nat → Nat → List α
  | _, 0 => []
  | j, n + 1 => (match lkI mp j with
    | some k => l.getD k z
    | none => z) :: inL z mp l (j + 1) n
def outMu (mp : Mp) (μc : Mu) : Nat → Mu → Mu
  | _, [] => []
  | j, o :: r => (match lkO mp j with
    | some k => μc.getD k .hid
    | none => o) :: outMu mp μc (j + 1) r
theorem inL_len {α : Type} {z : α} {mp : Mp} {l : List α} : ∀ (n j : Nat), (inL z mp l j n).length = n
  | 0, _ => rfl
  | n + 1, j => by unfold inL; rw [List.length_cons, inL_len n]
theorem inL_at {α : Type} {z x : α} {mp : Mp} {l : List α} : ∀ {n j i : Nat}, (inL z mp l j n)[i]? = some x → x ≠ z → ∃ k, lkI mp (j + i) = some k ∧ l[k]? = some x
  | 0, _, _, h, _ => by simp [inL] at h
  | n + 1, j, 0, h, hx => by
    unfold inL at h
    have h : some (match lkI mp j with | some k => l.getD k z | none => z) = some x := h
    cases e : lkI mp j with
    | none => rw [e] at h; cases h; exact (hx rfl).elim
    | some k =>
      rw [e] at h
      refine ⟨k, by first | rfl | (rw [Nat.add_zero]; exact e), ?_⟩
      have h : l.getD k z = x := Option.some.inj h
      rw [List.getD_eq_getElem?_getD] at h
      cases q : l[k]? with
      | none => rw [q] at h; exact (hx h.symm).elim
      | some y => rw [q] at h; exact congrArg some h
  | n + 1, j, i + 1, h, hx => by
    unfold inL at h
    rw [List.getElem?_cons_succ] at h
    obtain ⟨k, h1, h2⟩ := inL_at h hx
    exact ⟨k, by rw [show j + (i + 1) = j + 1 + i by omega]; exact h1, h2⟩
theorem inL_is {α : Type} {z x : α} {mp : Mp} {l : List α} : ∀ {n j i k : Nat}, i < n → lkI mp (j + i) = some k → l[k]? = some x → (inL z mp l j n)[i]? = some x
  | 0, _, _, _, hi, _, _ => by omega
  | n + 1, j, 0, k, hi, h1, h2 => by
    unfold inL
    rw [Nat.add_zero] at h1
    rw [h1]
    show some (l.getD k z) = some x
    rw [List.getD_eq_getElem?_getD, h2]; rfl
  | n + 1, j, i + 1, k, hi, h1, h2 => by
    unfold inL
    rw [List.getElem?_cons_succ]
    exact inL_is (by omega) (by rw [show j + 1 + i = j + (i + 1) by omega]; exact h1) h2
theorem outMu_len {mp : Mp} {μc : Mu} : ∀ (μ : Mu) (j : Nat), (outMu mp μc j μ).length = μ.length
  | [], _ => rfl
  | o :: r, j => by unfold outMu; rw [List.length_cons, outMu_len r, List.length_cons]
theorem outMu_at {mp : Mp} {μc : Mu} {o : Ob} : ∀ {μ : Mu} {j i : Nat}, (outMu mp μc j μ)[i]? = some o → ∃ o0, μ[i]? = some o0 ∧ ((∃ k, lkO mp (j + i) = some k ∧ o = μc.getD k .hid) ∨ (lkO mp (j + i) = none ∧ o = o0))
  | [], _, _, h => by simp [outMu] at h
  | u :: r, j, 0, h => by
    unfold outMu at h
    have h : some (match lkO mp j with | some k => μc.getD k .hid | none => u) = some o := h
    refine ⟨u, rfl, ?_⟩
    rw [Nat.add_zero]
    cases e : lkO mp j with
    | none => rw [e] at h; exact .inr ⟨rfl, (Option.some.inj h).symm⟩
    | some k => rw [e] at h; exact .inl ⟨k, rfl, (Option.some.inj h).symm⟩
  | u :: r, j, i + 1, h => by
    unfold outMu at h
    rw [List.getElem?_cons_succ] at h
    obtain ⟨o0, h1, h2⟩ := outMu_at h
    refine ⟨o0, by rw [List.getElem?_cons_succ]; exact h1, ?_⟩
    rw [show j + (i + 1) = j + 1 + i by omega]
    exact h2
theorem lkI_mem : ∀ {mp : Mp} {k b : Nat}, lkI mp k = some b → (k, b) ∈ mp
  | (a, c) :: r, k, b, h => by
    unfold lkI at h
    by_cases q : a = k
    · rw [if_pos q] at h; cases h; rw [q]; exact List.mem_cons_self
    · rw [if_neg q] at h; exact List.mem_cons_of_mem _ (lkI_mem h)
theorem lkO_mem : ∀ {mp : Mp} {k b : Nat}, lkO mp b = some k → (k, b) ∈ mp
  | (a, c) :: r, k, b, h => by
    unfold lkO at h
    by_cases q : c = b
    · rw [if_pos q] at h; cases h; rw [q]; exact List.mem_cons_self
    · rw [if_neg q] at h; exact List.mem_cons_of_mem _ (lkO_mem h)
theorem lkI_some : ∀ {mp : Mp} {k b : Nat}, (k, b) ∈ mp → ∃ b', lkI mp k = some b'
  | (a, c) :: r, k, b, h => by
    unfold lkI
    by_cases q : a = k
    · rw [if_pos q]; exact ⟨c, rfl⟩
    · rw [if_neg q]
      rcases List.mem_cons.mp h with z | z
      · cases z; exact (q rfl).elim
      · exact lkI_some z
theorem lkO_some : ∀ {mp : Mp} {k b : Nat}, (k, b) ∈ mp → ∃ k', lkO mp b = some k'
  | (a, c) :: r, k, b, h => by
    unfold lkO
    by_cases q : c = b
    · rw [if_pos q]; exact ⟨a, rfl⟩
    · rw [if_neg q]
      rcases List.mem_cons.mp h with z | z
      · cases z; exact (q rfl).elim
      · exact lkO_some z
/-- what is asked of the pairing: both ways one to one; the callee's are its own arguments; the drawing's cells go with the cells -/
structure MpOk (g : Sg) (n : Nat) (mp : Mp) : Prop where
  i1 : ∀ a b b', (a, b) ∈ mp → (a, b') ∈ mp → b = b'
  o1 : ∀ a a' b, (a, b) ∈ mp → (a', b) ∈ mp → a = a'
  dom : ∀ a b, (a, b) ∈ mp → a ∈ g.ps ∧ a < n
  all : ∀ a ∈ g.ps, ∃ b, (a, b) ∈ mp
  one : mp = [] ∨ (1, 1) ∈ mp
def mpOkB (g : Sg) (n : Nat) (mp : Mp) : Bool :=
  mp.all (fun p => mp.all fun q => (!decide (p.1 = q.1) || decide (p.2 = q.2)) && (!decide (p.2 = q.2) || decide (p.1 = q.1))) && (mp.all (fun p => g.ps.contains p.1 && decide (p.1 < n)) && (g.ps.all (fun a => mp.any fun p => decide (p.1 = a)) && (mp.isEmpty || mp.any fun p => decide (p = (1, 1)))))
theorem mpOk_of {g : Sg} {n : Nat} {mp : Mp} (h : mpOkB g n mp = true) : MpOk g n mp := by
  unfold mpOkB at h
  obtain ⟨h1, h⟩ := Bool.and_eq_true_iff.mp h
  obtain ⟨h2, h⟩ := Bool.and_eq_true_iff.mp h
  obtain ⟨h3, h4⟩ := Bool.and_eq_true_iff.mp h
  have two : ∀ p ∈ mp, ∀ q ∈ mp, (p.1 = q.1 → p.2 = q.2) ∧ (p.2 = q.2 → p.1 = q.1) := fun p hp q hq => by
    have z := List.all_eq_true.mp (List.all_eq_true.mp h1 p hp) q hq
    obtain ⟨z1, z2⟩ := Bool.and_eq_true_iff.mp z
    refine ⟨fun e => ?_, fun e => ?_⟩
    · rw [decide_eq_true e] at z1
      simpa using z1
    · rw [decide_eq_true e] at z2
      simpa using z2
  refine ⟨fun a b b' m1 m2 => (two _ m1 _ m2).1 rfl, fun a a' b m1 m2 => (two _ m1 _ m2).2 rfl, fun a b m => ?_, fun a ha => ?_, ?_⟩
  · obtain ⟨z1, z2⟩ := Bool.and_eq_true_iff.mp (List.all_eq_true.mp h2 _ m)
    exact ⟨List.contains_iff_mem.mp z1, of_decide_eq_true z2⟩
  · obtain ⟨p, hp, e⟩ := List.any_eq_true.mp (List.all_eq_true.mp h3 a ha)
    have e := of_decide_eq_true e
    exact ⟨p.2, by rw [← e]; exact hp⟩
  · rcases Bool.or_eq_true_iff.mp h4 with z | z
    · exact .inl (List.isEmpty_iff.mp z)
    · obtain ⟨p, hp, e⟩ := List.any_eq_true.mp z
      have e := of_decide_eq_true e
      exact .inr (by rw [← e]; exact hp)
/-- the arguments as data; do the objects stand where the pairing says -/
def arD : Ar → Option D
  | .inl d => some d
  | .inr _ => none
def isOwn : Option Ar → Nat → Bool
  | some (.inr k), j => decide (k = j)
  | _, _ => false
def nhB : Option Ob → Bool
  | some .hid => false
  | some _ => true
  | none => false
def arOk (g : Sg) (al : List Ar) (μ : Mu) : Mp → Bool
  | [] => true
  | (a, b) :: r => nhB μ[b]? && ((match g.sl[a]? with
    | some (some i) => isOwn al[i]? b
    | _ => true) && arOk g al μ r)
theorem arOk_of {g : Sg} {al : List Ar} {μ : Mu} : ∀ {mp : Mp}, arOk g al μ mp = true → ∀ {a b : Nat}, (a, b) ∈ mp → (∃ o, μ[b]? = some o ∧ notHid o) ∧ ∀ i, g.sl[a]? = some (some i) → al[i]? = some (.inr b)
  | (x, y) :: r, h, a, b, m => by
    obtain ⟨h1, h⟩ := Bool.and_eq_true_iff.mp (show (nhB μ[y]? && _) = true from h)
    obtain ⟨h2, h3⟩ := Bool.and_eq_true_iff.mp h
    rcases List.mem_cons.mp m with z | z
    · obtain ⟨rfl, rfl⟩ := Prod.mk.inj z
      refine ⟨?_, fun i hi => ?_⟩
      · cases e : μ[b]? with
        | none => rw [e] at h1; cases h1
        | some o => cases o with
          | hid => rw [e] at h1; cases h1
          | _ => exact ⟨_, rfl, trivial⟩
      · rw [hi] at h2
        have h2 : isOwn al[i]? b = true := h2
        cases e : al[i]? with
        | none => rw [e] at h2; cases h2
        | some u => cases u with
          | inl d => rw [e] at h2; cases h2
          | inr k => rw [e] at h2; rw [of_decide_eq_true h2]
    · exact arOk_of h3 z
section
variable {c : Ct} {W : WX} {F F1 H H1 F' H' : Hp} {σ : L2.St} {env : Env} {as as1 : List (Option Addr)} {μ μ1 μc : Mu} {X : Cx} {pos : Pos} {e : Expr} {es : List Expr} {l : Mx (List Ar)} {g : Sg} {n : Nat} {mp : Mp} {al : List Ar} {vs : List V}
theorem ArsR.at : ∀ {al : List Ar} {vs : List V} {i : Nat} {a : Ar}, ArsR c.K F as al vs → al[i]? = some a → ∃ v, vs[i]? = some v ∧ ArR c.K F as a v
  | [], _, i, a, _, h => by simp at h
  | b :: r, _, 0, a, ⟨x, t, e, h1, h2⟩, h => by
    have : b = a := by simpa using h
    subst this
    exact ⟨x, by rw [e]; rfl, h1⟩
  | b :: r, _, i + 1, a, ⟨x, t, e, h1, h2⟩, h => by
    obtain ⟨v, g1, g2⟩ := ArsR.at (i := i) (a := a) h2 (by simpa using h)
    exact ⟨v, by rw [e]; simpa using g1, g2⟩
theorem ArsR.len : ∀ {al : List Ar} {vs : List V}, ArsR c.K F as al vs → vs.length = al.length
  | [], _, h => by rw [show _ = ([] : List V) from h]; rfl
  | b :: r, _, ⟨x, t, e, h1, h2⟩ => by rw [e, List.length_cons, List.length_cons, ArsR.len h2]
theorem one_in (mo : MpOk g n mp) {a b : Nat} (h : (a, b) ∈ mp) (ha : as[b]? = some (some a1)) (full : ∀ {a b : Nat}, (a, b) ∈ mp → ∃ x, as[b]? = some (some x)) : as[1]? = (inL none mp as 0 n)[1]? := by
  rcases mo.one with z | z
  · rw [z] at h; cases h
  · obtain ⟨x, hx⟩ := full z
    have h1 : lkI mp (0 + 1) = some 1 := by
      obtain ⟨b', hb⟩ := lkI_some z
      rw [Nat.zero_add, hb, mo.i1 _ _ _ (lkI_mem hb) z]
    rw [hx, inL_is (mo.dom _ _ z).2 h1 hx]
theorem call_ent (hG : g.G = c.G) (mo : MpOk g n mp) (R : Rel c F H σ env μ as) (ar : ArsR c.K F as al vs) (ok : arOk g al μ mp = true) : Ent c.K g F H vs (al.map arD) (inL .hid mp μ 0 n) (inL none mp as 0 n) := by
  have full : ∀ {a b : Nat}, (a, b) ∈ mp → ∃ x, as[b]? = some (some x) := fun {a b} h => by
    obtain ⟨⟨o, h1, h2⟩, _⟩ := arOk_of ok h
    obtain ⟨x, h3, _⟩ := R.own b o h1 h2
    exact ⟨x, h3⟩
  have asI : ∀ (k : Nat) (a : Addr), (inL none mp as 0 n)[k]? = some (some a) → ∃ b, (k, b) ∈ mp ∧ as[b]? = some (some a) := fun k a h => by
    obtain ⟨b, h1, h2⟩ := inL_at h (by simp)
    rw [Nat.zero_add] at h1
    exact ⟨b, lkI_mem h1, h2⟩
  refine ⟨R.ex, by rw [List.length_map]; exact ar.len, fun i d h => ?_, by rw [inL_len, inL_len], fun k l a h1 h2 => ?_, fun k a h => ?_, fun k o h nh => ?_, fun k a h => ?_, by rw [hG]; exact R.gl⟩
  · rw [List.getElem?_map] at h
    obtain ⟨a, h1, h2⟩ := Option.map_eq_some_iff.mp h
    cases a with
    | inl d' => cases h2; exact ar.at h1
    | inr k => cases h2
  · obtain ⟨b, m1, g1⟩ := asI k a h1
    obtain ⟨b', m2, g2⟩ := asI l a h2
    have := R.inj b b' a g1 g2
    subst this
    exact mo.o1 _ _ _ m1 m2
  · obtain ⟨b, m1, g1⟩ := asI k a h
    obtain ⟨z1, z2, _⟩ := R.out b a g1
    exact ⟨z1, z2⟩
  · obtain ⟨b, h1, h2⟩ := inL_at h (fun z => by rw [z] at nh; exact nh)
    rw [Nat.zero_add] at h1
    have m := lkI_mem h1
    obtain ⟨a, g1, g2, g3⟩ := R.own b o h2 nh
    refine ⟨a, inL_is (mo.dom _ _ m).2 (by rw [Nat.zero_add]; exact h1) g1, g2.as_mono (one_in mo m g1 full), fun i hi => ?_⟩
    have q := (arOk_of ok m).2 i hi
    obtain ⟨v, q1, a', q2, q3⟩ := ar.at q
    rw [g1] at q2; cases q2
    rw [q1, q3]
  · obtain ⟨b, m1, g1⟩ := asI k a h
    exact (mo.dom _ _ m1).1
theorem call_ret (mo : MpOk g n mp) (R : Rel c F H σ env μ as) (ok : arOk g al μ mp = true) (r : Ret c.K g F H F' H' μc (inL none mp as 0 n)) : Rel c F' H' σ env (outMu mp μc 0 μ) as := by
  have full : ∀ {a b : Nat}, (a, b) ∈ mp → ∃ x, as[b]? = some (some x) := fun {a b} h => by
    obtain ⟨⟨o, h1, h2⟩, _⟩ := arOk_of ok h
    obtain ⟨x, h3, _⟩ := R.own b o h1 h2
    exact ⟨x, h3⟩
  have asI : ∀ (k : Nat) (a : Addr), (inL none mp as 0 n)[k]? = some (some a) → ∃ b, (k, b) ∈ mp ∧ as[b]? = some (some a) := fun k a h => by
    obtain ⟨b, h1, h2⟩ := inL_at h (by simp)
    rw [Nat.zero_add] at h1
    exact ⟨b, lkI_mem h1, h2⟩
  have asO : ∀ {k b : Nat} {a : Addr}, (k, b) ∈ mp → as[b]? = some (some a) → (inL none mp as 0 n)[k]? = some (some a) := fun {k b a} m h => by
    obtain ⟨b', hb⟩ := lkI_some m
    have := mo.i1 _ _ _ (lkI_mem hb) m
    subst this
    exact inL_is (mo.dom _ _ m).2 (by rw [Nat.zero_add]; exact hb) h
  have notin : ∀ (j : Nat) (a : Addr), as[j]? = some (some a) → lkO mp j = none → some a ∉ inL none mp as 0 n := fun j a h hn hm => by
    obtain ⟨k, hk, e⟩ := List.mem_iff_getElem.mp hm
    have e2 : (inL none mp as 0 n)[k]? = some (some a) := by rw [List.getElem?_eq_getElem hk, e]
    obtain ⟨b, m, g⟩ := asI k a e2
    have := R.inj j b a h g
    subst this
    obtain ⟨k', q⟩ := lkO_some m
    rw [hn] at q; cases q
  have keep : ∀ (j : Nat) (a : Addr), as[j]? = some (some a) → lkO mp j = none → ∀ o, H a = some o → H' a = some o := fun j a h hn o ho => r.fr a o ho (notin j a h hn)
  refine ⟨r.ex, R.sz, fun i d h => ?_, by rw [outMu_len]; exact R.la, R.inj, fun j a h => ?_, fun j o h nh => ?_, fun b o h hb => ?_, R.par, R.pin, fun b h => ?_, fun p hp => r.f _ _ (R.gl p hp)⟩
  · obtain ⟨v, h1, h2⟩ := R.rd i d h
    exact ⟨v, h1, Dt.mono r.f _ _ h2⟩
  · obtain ⟨z1, z2, z3⟩ := R.out j a h
    cases q : lkO mp j with
    | some k =>
      obtain ⟨w1, w2⟩ := r.out k a (asO (lkO_mem q) h)
      exact ⟨w1, w2, z3⟩
    | none =>
      refine ⟨?_, ?_, z3⟩
      · cases e : F' a with
        | none => rfl
        | some u =>
          rcases r.nw a (by rw [e]; simp) with w | w | ⟨xs, w⟩
          · exact (w z1).elim
          · exact (z2.1 w).elim
          · exact (z2.2 xs w).elim
      · cases e : H a with
        | none => exact (z2.1 e).elim
        | some u => rw [keep j a h q u e, ← e]; exact z2
  · obtain ⟨o0, h1, h2⟩ := outMu_at h
    rw [Nat.zero_add] at h2
    rcases h2 with ⟨k, h2, h3⟩ | ⟨h2, h3⟩
    · have m := lkO_mem h2
      obtain ⟨⟨o1, q1, q2⟩, _⟩ := arOk_of ok m
      obtain ⟨a, g1, g2, g3⟩ := R.own j o1 q1 q2
      have hμ : μc[k]? = some o := by
        rw [List.getD_eq_getElem?_getD] at h3
        cases e : μc[k]? with
        | none => rw [e] at h3; rw [h3] at nh; exact nh.elim
        | some u => rw [e] at h3; rw [h3]; rfl
      obtain ⟨a', w1, w2⟩ := r.own k o (mo.dom _ _ m).1 hμ nh
      rw [asO m g1] at w1; cases w1
      exact ⟨a, g1, w2.as_mono (one_in mo m g1 full).symm, g3⟩
    · subst h3
      obtain ⟨a, g1, g2, g3⟩ := R.own j o h1 nh
      refine ⟨a, g1, ?_, g3⟩
      have kp := keep j a g1 h2
      cases o with
      | hid => trivial
      | lst ds => obtain ⟨n, vs, q1, q2⟩ := g2; exact ⟨n, vs, kp _ q1, Dts.mono r.f _ _ q2⟩
      | dct kvs => obtain ⟨n, vs, q1, q2⟩ := g2; exact ⟨n, vs, kp _ q1, Dtk.mono r.f _ _ q2⟩
      | dk kvs => obtain ⟨n, vs, q1, q2⟩ := g2; exact ⟨n, vs, kp _ q1, Dtd.mono r.f _ _ q2⟩
      | hl s i => obtain ⟨q, q1, q2⟩ := g2; exact ⟨q, q1, kp _ q2⟩
      | ins x fs => obtain ⟨n, dx, vs, q1, q2⟩ := g2; exact ⟨n, dx, vs, kp _ q1, Dtf.mono r.f _ _ q2⟩
      | dx kvs => obtain ⟨n, b', o, xs, q1, q2, q3⟩ := g2; exact ⟨n, b', o, xs, kp _ q1, q2, Dtx.mono r.f _ _ q3⟩
      | tbl q => obtain ⟨t0, ps, q1, q2, q3⟩ := g2; exact ⟨t0, ps, kp _ q1, q2, fun pos cv z => let ⟨c, e1, e2⟩ := q3 pos cv z; ⟨c, e1, r.f _ _ e2⟩⟩
  · refine r.fr b o (R.base b o h hb) fun hm => ?_
    obtain ⟨k, hk, e⟩ := List.mem_iff_getElem.mp hm
    have e2 : (inL none mp as 0 n)[k]? = some (some b) := by rw [List.getElem?_eq_getElem hk, e]
    obtain ⟨j, m, q⟩ := asI k b e2
    rcases (R.out j b q).2.2 with z | z
    · rw [h] at z; cases z
    · exact hb z
  · rcases r.nw b h with z | z | z
    · exact R.nw b z
    · exact .inr (R.was b (.inl z))
    · exact .inr (R.was b (.inr z))
/-- f(..): n own objects of the callee, paired by mp; np arguments -/
def mFn (g : Sg) (n np : Nat) (mp : Mp) (fm : Fm) (l : Mx (List Ar)) : Em := bnd l fun al => fun env μ => if (arOk g al μ mp && decide (al.length = np)) = true then (match fm (al.map arD) (inL .hid mp μ 0 n) with
  | none => none
  | some (.ok d μc) => some (.ok d (outMu mp μc 0 μ))
  | some (.err x fs μc) => some (.err x fs (outMu mp μc 0 μ))) else none
def noErr (fm : Fm) : Fm := fun a μ => match fm a μ with
  | some (.ok d μ') => some (.ok d μ')
  | _ => none
variable {CX : CXT} {k : Nat} {f : Addr} {fd : FuncData} {ps : List Str} {x : Str} {p : Pos} {fm : Fm} {np : Nat}
theorem t_fn {Q : VK} (hG : g.G = c.G) (mo : MpOk g n mp) {yy : Dy} (R : Rel (c.w yy) F H σ env μ as) (ar : ArsR c.K F as al vs) (q : Aft (PD c) (c.w yy) W F σ env as (if (arOk g al μ mp && decide (al.length = np)) = true then (match fm (al.map arD) (inL .hid mp μ 0 n) with
      | none => none
      | some (.ok d μc) => some (.ok d (outMu mp μc 0 μ))
      | some (.err x fs μc) => some (.err x fs (outMu mp μc 0 μ))) else none) Q) : vs.length = np ∧ FSp c.K g fm vs H Q (fun cls d H' => W cls d σ H') := by
  by_cases ok' : (arOk g al μ mp && decide (al.length = np)) = true
  · rw [if_pos ok'] at q
    obtain ⟨ok, hl⟩ := Bool.and_eq_true_iff.mp ok'
    refine ⟨by rw [ar.len]; exact of_decide_eq_true hl, F, al.map arD, _, _, call_ent (c := c.w yy) hG mo R ar ok, ?_⟩
    cases e : fm (al.map arD) (inL .hid mp μ 0 n) with
    | none => rw [e] at q; exact q
    | some z =>
      rw [e] at q
      cases z with
      | ok d μc => exact fun v F' H' r pd => q v F' H' as r.f (AsLe.refl _) (call_ret (c := c.w yy) mo R ok r) pd
      | err y fs μc => exact fun F' H' a r xd => q F' H' as a r.f (AsLe.refl _) (call_ret (c := c.w yy) mo R ok r) xd
  · rw [if_neg ok'] at q; exact q.elim
theorem fsp_noErr {K : PySem.W.Frag} {Q : VK} {E : XK} (h : FSp K g (noErr fm) vs H Q E) : FSp K g fm vs H Q fun _ _ _ => False := by
  obtain ⟨F, args, μ, as, e, q⟩ := h
  refine ⟨F, args, μ, as, e, ?_⟩
  unfold noErr at q
  cases z : fm args μ with
  | none => rw [z] at q; exact q
  | some r =>
    rw [z] at q
    cases r with
    | ok d μ' => exact q
    | err y fs μ' => exact q.elim
/-- a call of a def that raises nothing -/
theorem de_fn0 (G : FnOk X.prog X.w X.K X.mg X.base CX0 k f fd ps (FSp0 X.K g fm np)) (hK : X.K = c.K) (hG : g.G = c.G) (mo : MpOk g n mp) (hr : Room k X.A) (hg : Gl X x) (hm : X.mg x = some (.ref f)) (hk : PySem.W.keepIn X.K (.ref f) = true) (hb : Binds X.K fd ps []) (ha : PA X (e :: es) (TAr c W l))
    (hdb : (x == ("__debug__" : Str)) = false := by decide) (he : starEach (e :: es) X.env = (false, eval e X.env) :: starEach es X.env := by rfl) (hpl : (backTo pos (starEach es X.env)).any (·.1) = false := by rfl) :
    PE X (.Call (.Name x p) (e :: es) [] pos) (T c W (mFn g n np mp (noErr fm) l)) :=
  impE (pe_call G hr hg hm hk hb .nil (pass0 (X := X)) ha hdb he hpl) fun σ H Q ⟨yy, F, env, μ, as, R, q⟩ => by
    refine (aft_bind (P := PA' c) R q).imp fun vs H1 ⟨al, F1, μ1, as1, x1, y1, p1, R1, a1⟩ => ?_
    rw [List.append_nil]
    obtain ⟨h1, h2⟩ := t_fn (fm := noErr fm) hG mo R1 p1 a1
    refine ⟨h1, ?_⟩
    rw [hK]
    exact fsp_noErr h2
/-- a call of a def that may raise -/
theorem de_fnX (G : FnOk X.prog X.w X.K X.mg X.base (L2.CX X.prog X.w) k f fd ps (FSpX X.K g fm np)) (tk : Takes X W) (hK : X.K = c.K) (hG : g.G = c.G) (mo : MpOk g n mp) (hr : Room k X.A) (hg : Gl X x) (hm : X.mg x = some (.ref f)) (hk : PySem.W.keepIn X.K (.ref f) = true) (hb : Binds X.K fd ps []) (ha : PA X (e :: es) (TAr c W l))
    (hdb : (x == ("__debug__" : Str)) = false := by decide) (he : starEach (e :: es) X.env = (false, eval e X.env) :: starEach es X.env := by rfl) (hpl : (backTo pos (starEach es X.env)).any (·.1) = false := by rfl) :
    PE X (.Call (.Name x p) (e :: es) [] pos) (T c W (mFn g n np mp fm l)) :=
  impE (pe_callS G hr hg hm hk hb (fun σ => passAt tk σ) ha hdb he hpl) fun σ H Q ⟨yy, F, env, μ, as, R, q⟩ => by
    refine (aft_bind (P := PA' c) R q).imp fun vs H1 ⟨al, F1, μ1, as1, x1, y1, p1, R1, a1⟩ => ?_
    obtain ⟨h1, h2⟩ := t_fn (fm := fm) hG mo R1 p1 a1
    refine ⟨h1, ?_⟩
    rw [hK]
    exact h2
end
end Sh
namespace Sh
open PySem PySem.Spec PyProof.Rows L2
variable [Wd]
/-! ### an object on its way: no one else's -/
section
variable {c : Ct} {F H F' H' : Hp} {σ σ' : L2.St} {env env' : Env} {μ μ' : Mu} {as as' : List (Option Addr)} {y : Dy} {p : Addr} {ho ho' : HO}
def Free (F : Hp) (as : List (Option Addr)) (y : Dy) (p : Addr) : Prop := F p = none ∧ (∀ j : Nat, as[j]? ≠ some (some p)) ∧ y.H0 p = none
def Dy.gd (y : Dy) (F : Hp) (p : Addr) (ho : HO) : Dy := ⟨F, upd y.H0 p ho, y.ex0⟩
/-- a fresh object -/
theorem Rel.fresh (r : Rel (c.w y) F H σ env μ as) (hp : H p = none) : Free F as y p := by
  refine ⟨?_, fun j z => (r.out j p z).2.1.1 hp, ?_⟩
  · cases q : F p with
    | none => rfl
    | some u => rw [r.ex p u q] at hp; cases hp
  · rcases r.was p (.inl hp) with z | ⟨xs, z⟩
    · exact z
    · have z : y.H0 p = some (.tup xs) := z
      by_cases hb : some p ∈ y.ex0
      · obtain ⟨l, hl, e⟩ := List.mem_iff_getElem.mp hb
        have e2 : y.ex0[l]? = some (some p) := by rw [List.getElem?_eq_getElem hl, e]
        exact ((r.out l p (r.par l p e2)).2.1.1 hp).elim
      · have := r.base p _ z hb
        rw [hp] at this; cases this
theorem Rel.lay (r : Rel (c.w y) F H σ env μ as) (f : Free F as y p) (hp : H p = none ∨ NoTup (H p)) : Rel (c.w y) F (upd H p ho) σ env μ as := by
  obtain ⟨f1, f2, f3⟩ := f
  have keep : ∀ b u, H b = some u → b ≠ p → upd H p ho b = some u := fun b u e hb => by rw [upd_ne hb]; exact e
  refine ⟨fun b u e => keep b u (r.ex b u e) (fun z => by rw [z, f1] at e; cases e), r.sz, r.rd, r.la, r.inj, fun j b e => ?_, fun j u e n => ?_, fun b u e hb => keep b u (r.base b u e hb) (fun z => ?_), r.par, r.pin, r.nw, r.gl⟩
  · obtain ⟨h1, h2, h3⟩ := r.out j b e
    have hb : b ≠ p := fun z => f2 j (by rw [← z]; exact e)
    exact ⟨h1, by rw [upd_ne hb]; exact h2, h3⟩
  · obtain ⟨a, h1, h2, h3⟩ := r.own j u e n
    have hb : a ≠ p := fun z => f2 j (by rw [← z]; exact h1)
    refine ⟨a, h1, ?_, h3⟩
    cases u with
    | hid => trivial
    | lst ds => obtain ⟨n, vs, q1, q2⟩ := h2; exact ⟨n, vs, keep _ _ q1 hb, q2⟩
    | dct kvs => obtain ⟨n, vs, q1, q2⟩ := h2; exact ⟨n, vs, keep _ _ q1 hb, q2⟩
    | dk kvs => obtain ⟨n, vs, q1, q2⟩ := h2; exact ⟨n, vs, keep _ _ q1 hb, q2⟩
    | hl s i => obtain ⟨q, q1, q2⟩ := h2; exact ⟨q, q1, keep _ _ q2 hb⟩
    | ins x fs => obtain ⟨n, dx, vs, q1, q2⟩ := h2; exact ⟨n, dx, vs, keep _ _ q1 hb, q2⟩
    | dx kvs => obtain ⟨n, b', o, xs, q1, q2⟩ := h2; exact ⟨n, b', o, xs, keep _ _ q1 hb, q2⟩
    | tbl q => obtain ⟨t0, ps, q1, q2⟩ := h2; exact ⟨t0, ps, keep _ _ q1 hb, q2⟩
  · subst z
    have e : y.H0 b = some u := e
    rw [f3] at e; cases e
theorem Rel.guard (r : Rel (c.w y) F H σ env μ as) (f : Free F as y p) (hp : H p = some ho) : Rel (c.w (y.gd F p ho)) F H σ env μ as := by
  obtain ⟨f1, f2, f3⟩ := f
  refine ⟨r.ex, r.sz, r.rd, r.la, r.inj, fun j b e => ?_, r.own, fun b u e hb => ?_, r.par, r.pin, fun b h => .inl h, r.gl⟩
  · obtain ⟨h1, h2, h3⟩ := r.out j b e
    have hb : b ≠ p := fun z => f2 j (by rw [← z]; exact e)
    refine ⟨h1, h2, ?_⟩
    rcases h3 with z | z
    · exact .inl (by show upd y.H0 p ho b = none; rw [upd_ne hb]; exact z)
    · exact .inr z
  · have e : upd y.H0 p ho b = some u := e
    by_cases q : b = p
    · subst q; rw [upd_same] at e; cases e; exact hp
    · rw [upd_ne q] at e; exact r.base b u e hb
theorem Rel.unguard (r0 : Rel (c.w y) F H σ env μ as) (f : Free F as y p) (nt : ∀ xs, ho ≠ .tup xs) (r : Rel (c.w (y.gd F p ho)) F' H' σ' env' μ' as') (e : Ex F F') : H' p = some ho ∧ Free F' as' y p ∧ Rel (c.w y) F' H' σ' env' μ' as' := by
  obtain ⟨f1, f2, f3⟩ := f
  have nex : some p ∉ y.ex0 := fun z => by
    obtain ⟨l, hl, e⟩ := List.mem_iff_getElem.mp z
    have e2 : y.ex0[l]? = some (some p) := by rw [List.getElem?_eq_getElem hl, e]
    exact f2 l (r0.par l p e2)
  have hp : H' p = some ho := r.base p ho (by show upd y.H0 p ho p = some ho; exact upd_same) nex
  have fp : F' p = none := by
    cases q : F' p with
    | none => rfl
    | some u =>
      rcases r.nw p (by rw [q]; simp) with z | z | ⟨xs, z⟩
      · exact (z f1).elim
      · have z : upd y.H0 p ho p = none := z
        rw [upd_same] at z; cases z
      · have z : upd y.H0 p ho p = some (.tup xs) := z
        rw [upd_same] at z; cases z; exact (nt xs rfl).elim
  have ap : ∀ j : Nat, as'[j]? ≠ some (some p) := fun j z => by
    rcases (r.out j p z).2.2 with w | w
    · have w : upd y.H0 p ho p = none := w
      rw [upd_same] at w; cases w
    · exact nex w
  refine ⟨hp, ⟨fp, ap, f3⟩, r.ex, r.sz, r.rd, r.la, r.inj, fun j b h => ?_, r.own, fun b u h hb => ?_, r.par, r.pin, fun b h => ?_, r.gl⟩
  · obtain ⟨h1, h2, h3⟩ := r.out j b h
    have hb : b ≠ p := fun z => ap j (by rw [← z]; exact h)
    refine ⟨h1, h2, ?_⟩
    rcases h3 with z | z
    · have z : upd y.H0 p ho b = none := z
      rw [upd_ne hb] at z; exact .inl z
    · exact .inr z
  · have q : b ≠ p := fun z => by
      subst z
      have h : y.H0 b = some u := h
      rw [f3] at h; cases h
    exact r.base b u (by show upd y.H0 p ho b = some u; rw [upd_ne q]; exact h) hb
  · have q : b ≠ p := fun z => by rw [z, fp] at h; exact h rfl
    rcases r.nw b h with z | z | z
    · exact r0.nw b z
    · have z : upd y.H0 p ho b = none := z
      rw [upd_ne q] at z; exact .inr (.inl z)
    · have z : ∃ xs, upd y.H0 p ho b = some (.tup xs) := z
      rw [upd_ne q] at z; exact .inr (.inr z)
end
/-! ### comprehensions -/
def wipeE (env : Env) : List Nat → Env
  | [] => env
  | v :: vs => (wipeE env vs).set v none
theorem wipe_get (σ : L2.St) : ∀ (vs : List Nat) (j : Nat), (wipe σ vs)[j]? = if j ∈ vs ∧ j < σ.length then some none else σ[j]?
  | [], j => by unfold wipe; rw [if_neg (fun h => by cases h.1)]
  | v :: vs, j => by
    unfold wipe
    by_cases q : v = j
    · subst q
      by_cases hl : v < σ.length
      · rw [set_at (by rw [wipe_length]; exact hl), if_pos ⟨List.mem_cons_self, hl⟩]
      · rw [List.getElem?_eq_none (by rw [List.length_set, wipe_length]; omega), if_neg (fun h => hl h.2), List.getElem?_eq_none (by omega)]
    · rw [set_of q, wipe_get σ vs j]
      have : (j ∈ v :: vs ∧ j < σ.length) ↔ (j ∈ vs ∧ j < σ.length) := by
        constructor
        · rintro ⟨h1, h2⟩
          rcases List.mem_cons.mp h1 with z | z
          · exact (q z.symm).elim
          · exact ⟨z, h2⟩
        · rintro ⟨h1, h2⟩
          exact ⟨List.mem_cons_of_mem _ h1, h2⟩
      by_cases h : j ∈ vs ∧ j < σ.length
      · rw [if_pos h, if_pos (this.mpr h)]
      · rw [if_neg h, if_neg (fun z => h (this.mp z))]
theorem wipe_eq {σ σ2 : L2.St} {ss vs : List Nat} (l : SlE ss (wipe σ vs) σ2) (h : ∀ j ∈ ss, j ∈ vs) : wipe σ2 vs = wipe σ vs := by
  have hl : σ2.length = σ.length := by rw [l.1, wipe_length]
  apply List.ext_getElem?
  intro j
  rw [wipe_get, wipe_get, hl]
  by_cases q : j ∈ vs ∧ j < σ.length
  · rw [if_pos q, if_pos q]
  · rw [if_neg q, if_neg q]
    by_cases hj : j ∈ ss
    · have : ¬ j < σ.length := fun z => q ⟨h j hj, z⟩
      rw [List.getElem?_eq_none (by omega), List.getElem?_eq_none (by omega)]
    · rw [l.2 j hj, wipe_get, if_neg q]
section
variable {c : Ct} {F H F' H' : Hp} {σ σ' : L2.St} {env env' : Env} {μ μ' : Mu} {as as' : List (Option Addr)} {y : Dy}
theorem Rel.wipe (r : Rel c F H σ env μ as) : ∀ {vs : List Nat}, (∀ v ∈ vs, noSlot c.sl v) → Rel c F H (wipe σ vs) (wipeE env vs) μ as
  | [], _ => r
  | v :: vs, h => (r.wipe fun x hx => h x (List.mem_cons_of_mem _ hx)).unset (h v List.mem_cons_self)
theorem Rel.unwipe (r0 : Rel c F H σ env μ as) {vs : List Nat} {env2 : Env} (e : Ex F F') (r : Rel c F' H' (L2.wipe σ vs) env2 μ' as') : Rel c F' H' σ env μ' as' where
  ex := r.ex
  sz := r0.sz
  rd := fun i d h => let ⟨v, h1, h2⟩ := r0.rd i d h; ⟨v, h1, Dt.mono e _ _ h2⟩
  la := r.la
  inj := r.inj
  out := r.out
  own := fun k o h n => by
    obtain ⟨a, h1, h2, h3⟩ := r.own k o h n
    exact ⟨a, h1, h2, fun i hi => (wipe_some (h3 i hi)).1⟩
  base := r.base
  par := r.par
  pin := r.pin
  nw := r.nw
  gl := r.gl
/-- the turns of a comprehension -/
def lcS (A : Am) (p : Mx Bool) (f : Em) (env : Env) : List D → List D → Mu → Option (List D × Mu)
  | [], acc, μ => some (acc, μ)
  | d :: r, acc, μ => match A d env with
    | none => none
    | some env' => match p env' μ with
      | some (.ok true μ1) => (match f env' μ1 with
        | some (.ok x μ2) => if decide (acc.length < 100000) = true then lcS A p f env r (acc ++ [x]) μ2 else none
        | _ => none)
      | some (.ok false μ1) => lcS A p f env r acc μ1
      | _ => none
def mLc (vs : List Nat) (it : Mx (List D)) (A : Am) (p : Mx Bool) (f : Em) : Em := bnd it fun ds env μ => match lcS A p f (wipeE env vs) ds [] μ with
  | none => none
  | some (acc, μ') => some (.ok (.lst acc) μ')
variable {W : WX} {De : Ends} {X : Cx} {pos : Pos} {tg iter elt : Expr} {ifs : List Expr} {it : Mx (List D)} {A : Am} {p : Mx Bool} {f : Em} {ss vs : List Nat}
theorem t_lc {Q : VK} (hv : ∀ v ∈ vs, noSlot c.sl v) (hss : ∀ j ∈ ss, j ∈ vs) (h : T c W (mLc vs it A p f) σ H Q) : tLc (IX c W it) (AX c A ss) (TB c W0 p) (T c W0 f) vs σ H Q := by
  obtain ⟨yy, F, env, μ, as, R, q⟩ := h
  refine (aft_bind (P := PI' c) R q).imp fun J H1 ⟨ds, F1, μ1, as1, x1, y1, p1, R1, a1⟩ => ?_
  intro Dl hD
  obtain ⟨G, Y, w, hG, hY⟩ := p1
  have fr := R1.fresh hD
  refine lc_it w (fun i H => ∃ F2 μ2 as2 acc ws, Ex F1 F2 ∧ AsLe as1 as2 ∧ Rel (c.w yy) F2 H (L2.wipe σ vs) (wipeE env vs) μ2 as2 ∧ Free F2 as2 yy Dl ∧ H Dl = some (.lst ws) ∧ Dts c.K F2 acc ws ∧
      Aft (PD c) (c.w yy) W F1 σ env as1 (match lcS A p f (wipeE env vs) (ds.drop i) acc μ2 with
        | none => none
        | some (acc, μ') => some (.ok (.lst acc) μ')) Q) ?_ ?_ ?_ ?_
  · have R2 := (R1.wipe (vs := vs) hv).lay (ho := .lst []) fr (.inl hD)
    exact ⟨F1, μ1, as1, [], [], Evl.Ex.refl _, AsLe.refl _, R2, fr, upd_same, rfl, a1⟩
  · rintro i H hi ⟨F2, μ2, as2, acc, ws, e2, l2, R2, _⟩
    exact hG H (e2.trans R2.ex)
  · rintro i x H H' hi ⟨F2, μ2, as2, acc, ws, e2, l2, R2, f2, hD2, hacc, a2⟩ hy
    obtain ⟨d, F3, hd, n, hdt⟩ := hY i F2 H x H' hi e2 R2.ex hy
    have dr : ds.drop i = d :: ds.drop (i + 1) := by
      obtain ⟨hi', e⟩ := List.getElem?_eq_some_iff.mp hd
      rw [List.drop_eq_getElem_cons hi', e]
    rw [dr] at a2
    have R3 := R2.new n
    have f3 : Free F3 as2 yy Dl := by
      refine ⟨?_, f2.2⟩
      cases q : F3 Dl with
      | none => rfl
      | some u =>
        rcases n.nw Dl (by rw [q]; simp) with z | z | ⟨xs, z⟩
        · exact (z f2.1).elim
        · rw [hD2] at z; cases z
        · rw [hD2] at z; cases z
    have hD3 : H' Dl = some (.lst ws) := n.h _ _ hD2
    have R4 := R3.guard f3 hD3
    unfold lcS at a2
    cases e1 : A d (wipeE env vs) with
    | none => simp only [e1] at a2; exact a2.elim
    | some env3 =>
      simp only [e1] at a2
      refine ⟨_, F3, wipeE env vs, μ2, as2, d, env3, R4, hdt, e1, fun σ2 sl R5 => ⟨wipe_eq sl hss, ?_⟩⟩
      refine ⟨_, F3, env3, μ2, as2, R5, ?_⟩
      cases e4 : p env3 μ2 with
      | none => simp only [e4] at a2; exact a2.elim
      | some z =>
        simp only [e4] at a2
        cases z with
        | err y fs m => exact a2.elim
        | ok b m =>
          intro b' F5 H5 as5 x5 y5 R6 eb
          subst eb
          cases b' with
          | false =>
            rw [if_neg Bool.false_ne_true]
            obtain ⟨g1, g2, g3⟩ := R3.unguard f3 (fun xs z => by cases z) R6 x5
            have R7 := (R3.unwipe (vs := vs) x5 (by
              have e := wipe_eq sl hss
              have := g3.wipe (vs := vs) hv
              rw [e] at this
              have w2 : L2.wipe (L2.wipe σ vs) vs = L2.wipe σ vs := wipe_eq ⟨rfl, fun _ _ => rfl⟩ hss
              rw [w2]
              exact this))
            exact ⟨F5, m, as5, acc, ws, (e2.trans n.f).trans x5, l2.trans y5, R7, g2, g1, Dts.mono (n.f.trans x5) _ _ hacc, a2⟩
          | true =>
            rw [if_pos rfl]
            simp only at a2
            refine ⟨_, F5, env3, m, as5, R6, ?_⟩
            cases e6 : f env3 m with
            | none => simp only [e6] at a2; exact a2.elim
            | some z =>
              simp only [e6] at a2
              cases z with
              | err y fs m => exact a2.elim
              | ok xd m2 =>
                intro v F7 H7 as7 x7 y7 R8 pv
                simp only at a2
                by_cases hc : decide (acc.length < 100000) = true
                · rw [if_pos hc] at a2
                  obtain ⟨g1, g2, g3⟩ := R3.unguard f3 (fun xs z => by cases z) R8 (x5.trans x7)
                  have R9 := (R3.unwipe (vs := vs) (x5.trans x7) (by
                    have e := wipe_eq sl hss
                    have := g3.wipe (vs := vs) hv
                    rw [e] at this
                    have w2 : L2.wipe (L2.wipe σ vs) vs = L2.wipe σ vs := wipe_eq ⟨rfl, fun _ _ => rfl⟩ hss
                    rw [w2]
                    exact this))
                  refine ⟨ws, g1, by rw [hacc.len]; exact Evl.sz_lt (of_decide_eq_true hc), F7, m2, as7, acc ++ [xd], ws ++ [v], ((e2.trans n.f).trans x5).trans x7, (l2.trans y5).trans y7, R9.lay g2 (.inr (by rw [g1]; exact ⟨by simp, by intro xs h; cases h⟩)), g2, upd_same, Dts.app (Dts.mono ((n.f.trans x5).trans x7) _ _ hacc) (Dts.one pv), a2⟩
                · rw [if_neg hc] at a2; exact a2.elim
  · rintro H ⟨F2, μ2, as2, acc, ws, e2, l2, R2, f2, hD2, hacc, a2⟩
    rw [List.drop_length] at a2
    have a2 : Aft (PD c) (c.w yy) W F1 σ env as1 (some (.ok (.lst acc) μ2)) Q := a2
    have R3 := R1.unwipe (vs := vs) e2 R2
    have hf : Ex F2 (upd F2 Dl (.lst ws)) := Evl.Ex.new f2.1
    refine a2 (.ref Dl) (upd F2 Dl (.lst ws)) H as2 (e2.trans hf) l2 ?_ ⟨Dl, ws, rfl, upd_same, Dts.mono hf _ _ hacc⟩
    refine ⟨fun b u h => ?_, R3.sz, fun i d h => ?_, R3.la, R3.inj, fun k a h => ?_, fun k o h nh => ?_, R3.base, R3.par, R3.pin, fun b h => ?_, fun p hp => hf _ _ (R3.gl p hp)⟩
    · by_cases hb : b = Dl
      · subst hb; rw [upd_same] at h; cases h; exact hD2
      · rw [upd_ne hb] at h; exact R3.ex b u h
    · obtain ⟨v, h1, h2⟩ := R3.rd i d h
      exact ⟨v, h1, Dt.mono hf _ _ h2⟩
    · obtain ⟨h1, h2, h3⟩ := R3.out k a h
      have hb : a ≠ Dl := fun z => f2.2.1 k (by rw [← z]; exact h)
      exact ⟨by rw [upd_ne hb]; exact h1, h2, h3⟩
    · obtain ⟨a, h1, h2, h3⟩ := R3.own k o h nh
      exact ⟨a, h1, h2.grow hf (Evl.Ex.refl _), h3⟩
    · by_cases hb : b = Dl
      · subst hb; exact .inr (.inl f2.2.2)
      · rw [upd_ne hb] at h; exact R3.nw b h
theorem de_lc {scope : Scope} {own : List (Str × Nat)} (h : PE X (.ListComp elt [⟨tg, iter, ifs, 0⟩] scope pos) (tLc (IX c W it) (AX c A ss) (TB c W0 p) (T c W0 f) (own.map (·.2)))) (hv : ∀ v ∈ own.map (·.2), noSlot c.sl v) (hss : ∀ j ∈ ss, j ∈ own.map (·.2)) :
    PE X (.ListComp elt [⟨tg, iter, ifs, 0⟩] scope pos) (T c W (mLc (own.map (·.2)) it A p f)) := impE h fun _ _ _ hw => t_lc hv hss hw
/-- no test, one test -/
def pYes : Mx Bool := ret true
theorem dts_nil : PTs X [] (TB c W pYes) := ⟨fun pins s σ H Q I ⟨yy, F, env, μ, as, R, q⟩ => pts_nil.run pins s σ H Q I (aft_ret R q _ F H (New.refl R.ex) rfl)⟩
theorem dts_one {e : Expr} (h : PT X e (TB c W p)) : PTs X [e] (TB c W p) := pts_one h
end
end Sh
namespace Sh
open PySem PySem.Spec PyProof.Rows L2
variable [Wd]
/-! ### short rules: everything that a body's context gives at once -/
/-- a body's context: the written part, room, no exception around -/
structure Bd (X : Cx) (c : Ct) (k : Nat) : Prop where
  K : X.K = c.K
  room : Room k X.A
  calm : X.calm = true
  hw : X.w = Wd.w
section
variable {X : Cx} {c : Ct} {k : Nat} {W : WX} {pos : Pos} {a b : Expr} {f f1 f2 g : Em}
theorem Bd.u65 (B : Bd X c k) : X.A.units + 65 < cLine := by have := B.room.un; omega
theorem Bd.u64 (B : Bd X c k) : X.A.units + 64 < cLine := by have := B.room.un; omega
theorem Bd.u9 (B : Bd X c k) : X.A.units + 9 < cLine := by have := B.room.un; omega
theorem Bd.u1 (B : Bd X c k) : X.A.units + 1 < cLine := by have := B.room.un; omega
theorem Bd.u0 (B : Bd X c k) : X.A.units < cLine := by have := B.room.un; omega
section
variable (B : Bd X c k) (ha : PE X a (T c W f1)) (hb : PE X b (T c W f2))
include B ha hb
theorem de_add : PE X (.BinOp a .Add b pos) (T c W (mBin dAdd f1 f2)) := de_bin op_add4 (by rw [B.K]; exact sem_add) ha hb
theorem de_sub : PE X (.BinOp a .Sub b pos) (T c W (mBin dSub f1 f2)) := de_bin op_sub sem_sub ha hb
theorem de_mul : PE X (.BinOp a .Mult b pos) (T c W (mBin dMul f1 f2)) := de_bin op_mul2 (by rw [B.K]; exact sem_mul) ha hb
theorem de_fdiv : PE X (.BinOp a .FloorDiv b pos) (T c W (mBin dFdiv f1 f2)) := de_bin op_fdiv sem_fdiv ha hb
theorem de_mod : PE X (.BinOp a .Mod b pos) (T c W (mBin dMod f1 f2)) := de_bin op_mod sem_mod ha hb
theorem de_pow : PE X (.BinOp a .Pow b pos) (T c W (mBin dPow f1 f2)) := de_bin op_pow sem_pow ha hb
theorem de_eq : PE X (.Compare a [.Eq] [b] pos) (T c W (mBin dEq f1 f2)) := de_cmp (op_eqD B.u64) (by rw [B.K]; exact sem_eq) ha hb (nomark _)
theorem de_ne : PE X (.Compare a [.NotEq] [b] pos) (T c W (mBin dNe f1 f2)) := de_cmp (op_neD B.u64) (by rw [B.K]; exact sem_ne) ha hb (nomark _)
theorem de_lt : PE X (.Compare a [.Lt] [b] pos) (T c W (mBin dLt f1 f2)) := de_cmp (op_lt2 B.u0) (by rw [B.K]; exact sem_lt) ha hb (nomark _)
theorem de_le : PE X (.Compare a [.LtE] [b] pos) (T c W (mBin dLe f1 f2)) := de_cmp op_le sem_le ha hb (nomark _)
theorem de_gt : PE X (.Compare a [.Gt] [b] pos) (T c W (mBin dGt f1 f2)) := de_cmp op_gt sem_gt ha hb (nomark _)
theorem de_ge : PE X (.Compare a [.GtE] [b] pos) (T c W (mBin dGe f1 f2)) := de_cmp op_ge sem_ge ha hb (nomark _)
theorem de_is : PE X (.Compare a [.Is] [b] pos) (T c W (mBin (dIsN false) f1 f2)) := de_cmp op_isN sem_isN ha hb (nomark _)
theorem de_isnt : PE X (.Compare a [.IsNot] [b] pos) (T c W (mBin (dIsN true) f1 f2)) := de_cmp op_notN sem_notN ha hb (nomark _)
theorem de_in (hm : behindInMarks .In b = false := by rfl) : PE X (.Compare a [.In] [b] pos) (T c W (mBin (dIn false) f1 f2)) := de_cmp (op_in3 B.hw B.u65) (by rw [B.K]; exact sem_in) ha hb hm
theorem de_ni (hm : behindInMarks .NotIn b = false := by rfl) : PE X (.Compare a [.NotIn] [b] pos) (T c W (mBin (dIn true) f1 f2)) := de_cmp (op_ni3 B.hw B.u65) (by rw [B.K]; exact sem_ni) ha hb hm
theorem dt_eq : PT X (.Compare a [.Eq] [b] pos) (TB c W (mTest (mBin dEq f1 f2))) := dt_cmp (op_eqD B.u64) (by rw [B.K]; exact sem_eq) ha hb (nomark _)
theorem dt_ne : PT X (.Compare a [.NotEq] [b] pos) (TB c W (mTest (mBin dNe f1 f2))) := dt_cmp (op_neD B.u64) (by rw [B.K]; exact sem_ne) ha hb (nomark _)
theorem dt_lt : PT X (.Compare a [.Lt] [b] pos) (TB c W (mTest (mBin dLt f1 f2))) := dt_cmp (op_lt2 B.u0) (by rw [B.K]; exact sem_lt) ha hb (nomark _)
theorem dt_le : PT X (.Compare a [.LtE] [b] pos) (TB c W (mTest (mBin dLe f1 f2))) := dt_cmp op_le sem_le ha hb (nomark _)
theorem dt_gt : PT X (.Compare a [.Gt] [b] pos) (TB c W (mTest (mBin dGt f1 f2))) := dt_cmp op_gt sem_gt ha hb (nomark _)
theorem dt_ge : PT X (.Compare a [.GtE] [b] pos) (TB c W (mTest (mBin dGe f1 f2))) := dt_cmp op_ge sem_ge ha hb (nomark _)
theorem dt_is : PT X (.Compare a [.Is] [b] pos) (TB c W (mTest (mBin (dIsN false) f1 f2))) := dt_cmp op_isN sem_isN ha hb (nomark _)
theorem dt_isnt : PT X (.Compare a [.IsNot] [b] pos) (TB c W (mTest (mBin (dIsN true) f1 f2))) := dt_cmp op_notN sem_notN ha hb (nomark _)
theorem dt_in (hm : behindInMarks .In b = false := by rfl) : PT X (.Compare a [.In] [b] pos) (TB c W (mTest (mBin (dIn false) f1 f2))) := dt_cmp (op_in3 B.hw B.u65) (by rw [B.K]; exact sem_in) ha hb hm
theorem dt_ni (hm : behindInMarks .NotIn b = false := by rfl) : PT X (.Compare a [.NotIn] [b] pos) (TB c W (mTest (mBin (dIn true) f1 f2))) := dt_cmp (op_ni3 B.hw B.u65) (by rw [B.K]; exact sem_ni) ha hb hm
theorem de_at (hs : PlainIx b) : PE X (.Subscript a b pos) (T c W (mBin dIx f1 f2)) := de_ix B.hw B.u9 B.K ha hb hs
end
theorem dt_tr (B : Bd X c k) (ha : PE X a (T c W f)) (he : ∀ whole, isTrue a X.env whole = (do let v ← whole; standAt a.pos; holding [v] (truthy v)) := by intro _; rfl) : PT X a (TB c W (mTru f)) := dt_truth ha B.K he
/-- a module's whole number | tuple -/
theorem de_globI {x : Str} {i : Int} (hg : Gl X x) (hm : ∃ t, X.mg x = some (.int i t)) (hd : (x == ("__debug__" : Str)) = false := by decide) : PE X (.Name x pos) (T c W (ret (.int i))) := by
  obtain ⟨t, hm⟩ := hm
  exact de_c (pe_glob hg hm (v := .int i) ⟨t, rfl⟩ hd) fun _ => rfl
def gInts (ns : List Int) : D := .tup (ns.map D.int)
theorem de_globT {x : Str} {ns : List Int} {p : Addr} (hg : Gl X x) (hm : X.mg x = some (.ref p)) (hG : (p, ns.map V.int) ∈ c.G) (hd : (x == ("__debug__" : Str)) = false := by decide) : PE X (.Name x pos) (T c W (ret (gInts ns))) :=
  impE (pe_glob hg hm (v := .ref p) rfl hd) fun σ H Q ⟨yy, F, env, μ, as, R, q⟩ => q (.ref p) F H as (Evl.Ex.refl _) (AsLe.refl _) R ⟨p, _, rfl, R.gl _ hG, Dts.ints.mpr rfl⟩
section
variable (B : Bd X c k)
include B
variable {es : List Expr} {l : Mx (List D)} {p : Pos} {e : Expr}
theorem de_len (hg : Gl X "len") (hm : X.mg "len" = none) (ha : PA X (e :: es) (TL c W l)) (he : starEach (e :: es) X.env = (false, eval e X.env) :: starEach es X.env := by rfl) (hpl : (backTo pos (starEach es X.env)).any (·.1) = false := by rfl) : PE X (.Call (.Name "len" p) (e :: es) [] pos) (T c W (mCall gLen l)) :=
  de_callB call_lenQ (by rw [B.K]; exact sem_len) hg hm (by decide +kernel) ha (by decide) (by decide) he hpl
theorem de_sum (hg : Gl X "sum") (hm : X.mg "sum" = none) (ha : PA X (e :: es) (TL c W l)) (he : starEach (e :: es) X.env = (false, eval e X.env) :: starEach es X.env := by rfl) (hpl : (backTo pos (starEach es X.env)).any (·.1) = false := by rfl) : PE X (.Call (.Name "sum" p) (e :: es) [] pos) (T c W (mCall gSum l)) :=
  de_callB (cr_sum B.calm) (by rw [B.K]; exact sem_sum) hg hm (by decide +kernel) ha (by decide) (by decide) he hpl
theorem de_any (hg : Gl X "any") (hm : X.mg "any" = none) (ha : PA X (e :: es) (TL c W l)) (he : starEach (e :: es) X.env = (false, eval e X.env) :: starEach es X.env := by rfl) (hpl : (backTo pos (starEach es X.env)).any (·.1) = false := by rfl) : PE X (.Call (.Name "any" p) (e :: es) [] pos) (T c W (mCall gAny l)) :=
  de_callB (cr_any B.calm) (by rw [B.K]; exact sem_any) hg hm (by decide +kernel) ha (by decide) (by decide) he hpl
theorem de_max (hg : Gl X "max") (hm : X.mg "max" = none) (ha : PA X (e :: es) (TL c W l)) (he : starEach (e :: es) X.env = (false, eval e X.env) :: starEach es X.env := by rfl) (hpl : (backTo pos (starEach es X.env)).any (·.1) = false := by rfl) : PE X (.Call (.Name "max" p) (e :: es) [] pos) (T c W (mCall gMax l)) :=
  de_callB (call_maxQ B.calm) sem_max hg hm (by decide +kernel) ha (by decide) (by decide) he hpl
theorem de_min (hg : Gl X "min") (hm : X.mg "min" = none) (ha : PA X (e :: es) (TL c W l)) (he : starEach (e :: es) X.env = (false, eval e X.env) :: starEach es X.env := by rfl) (hpl : (backTo pos (starEach es X.env)).any (·.1) = false := by rfl) : PE X (.Call (.Name "min" p) (e :: es) [] pos) (T c W (mCall gMin l)) :=
  de_callB (call_minQ B.calm) sem_min hg hm (by decide +kernel) ha (by decide) (by decide) he hpl
theorem de_list (hg : Gl X "list") (hm : X.mg "list" = none) (ha : PA X (e :: es) (TL c W l)) (he : starEach (e :: es) X.env = (false, eval e X.env) :: starEach es X.env := by rfl) (hpl : (backTo pos (starEach es X.env)).any (·.1) = false := by rfl) : PE X (.Call (.Name "list" p) (e :: es) [] pos) (T c W (mCall gList l)) :=
  de_callTy (call_listQ B.calm) (by rw [B.K]; exact sem_list) hg hm (by decide +kernel) ha (by decide) (by decide) he hpl
theorem de_tuple (hg : Gl X "tuple") (hm : X.mg "tuple" = none) (ha : PA X (e :: es) (TL c W l)) (he : starEach (e :: es) X.env = (false, eval e X.env) :: starEach es X.env := by rfl) (hpl : (backTo pos (starEach es X.env)).any (·.1) = false := by rfl) : PE X (.Call (.Name "tuple" p) (e :: es) [] pos) (T c W (mCall gTuple l)) :=
  de_callTy call_tupQ (by rw [B.K]; exact sem_tuple) hg hm (by decide +kernel) ha (by decide) (by decide) he hpl
theorem de_intc (hg : Gl X "int") (hm : X.mg "int" = none) (ha : PA X (e :: es) (TL c W l)) (he : starEach (e :: es) X.env = (false, eval e X.env) :: starEach es X.env := by rfl) (hpl : (backTo pos (starEach es X.env)).any (·.1) = false := by rfl) : PE X (.Call (.Name "int" p) (e :: es) [] pos) (T c W (mCall gInt l)) :=
  de_callTy call_intQ sem_intC1 hg hm (by decide +kernel) ha (by decide) (by decide) he hpl
end
end
end Sh
namespace Sh
open PySem PySem.Spec PyProof.Rows L2
variable [Wd]
/-! ### the drawing state [s, cells, i] -/
section
variable {c : Ct} {W : WX} {X : Cx} {k i : Nat} {pos p1 p2 p3 : Pos} {f f1 f2 : Em} {x : Str} {e e1 e2 : Expr} {k1 k2 k3 : Nat}
def hlB (b : Bool) : Option Ob → Option D
  | some (.hl s i) => some (.int (if b then i else s))
  | _ => none
def mHl (b : Bool) : Em := fun env μ => (hlB b μ[0]?).map fun d => .ok d μ
def hlJ (b : Bool) : Int := if b then 2 else 0
theorem hlB_eq {b : Bool} {o : Option Ob} {d : D} (h : hlB b o = some d) : ∃ s i, o = some (.hl s i) ∧ d = .int (if b then i else s) := by
  cases o with
  | none => cases h
  | some o => cases o with
    | hl s i => cases h; exact ⟨s, i, rfl, rfl⟩
    | _ => cases h
theorem de_hint (b : Bool) (hK : X.K = c.K) (hsl : c.sl[0]? = some (some i)) (he : PE X (.Name x p1) (tVar i)) : PE X (.Subscript (.Name x p1) (.Constant (.int (hlJ b)) k1 p2) pos) (T c W (mHl b)) :=
  impE (pe_ix ix_list he pe_int fun _ _ => rfl) fun σ H Q ⟨yy, F, env, μ, as, R, q⟩ => by
    unfold mHl at q
    cases e1 : hlB b μ[0]? with
    | none => rw [e1] at q; exact q.elim
    | some d =>
      rw [e1] at q
      obtain ⟨s, n, e2, rfl⟩ := hlB_eq e1
      obtain ⟨a, g1, ⟨p, g2, g3⟩, g4⟩ := R.own 0 _ e2 trivial
      refine ⟨.ref a, g4 i hsl, a, _, hlJ b, (if b then .int n else .int s), rfl, rfl, SqL.of g3, by cases b <;> rfl, ?_⟩
      exact q _ F H as (Evl.Ex.refl _) (AsLe.refl _) R (by cases b <;> rfl)
/-- h[1] -/
def tHc (K : PySem.W.Frag) (i : Nat) : TE := tOp (rIxL K) (tVar i) (tC (.int 1))
theorem pe_hc (he : PE X (.Name x p1) (tVar i)) : PE X (.Subscript (.Name x p1) (.Constant (.int 1) k1 p2) pos) (tHc X.K i) := pe_ix ix_list he pe_int fun _ _ => rfl
def isHl : Option Ob → Bool
  | some (.hl _ _) => true
  | _ => false
theorem t_hc {K : PySem.W.Frag} {y : Dy} {F H : Hp} {σ : L2.St} {env : Env} {μ : Mu} {as : List (Option Addr)} {Q : VK} (hsl : c.sl[0]? = some (some i)) (R : Rel (c.w y) F H σ env μ as) (h : isHl μ[0]? = true) (q : ∀ a, as[1]? = some (some a) → Q (.ref a) H) : tHc K i σ H Q := by
  cases e : μ[0]? with
  | none => rw [e] at h; cases h
  | some o =>
    rw [e] at h
    cases o with
    | hl s n =>
      obtain ⟨a, g1, ⟨p, g2, g3⟩, g4⟩ := R.own 0 _ e trivial
      exact ⟨.ref a, g4 i hsl, a, _, 1, .ref p, rfl, rfl, SqL.of g3, rfl, q p g2⟩
    | _ => cases h
/-- h[1] + [..] -/
def mHcat (f : Em) : Em := fun env μ => if isHl μ[0]? = true then bnd f (fun d env μ => match obL μ[1]?, d with
  | some ds, .lst zs => if szb (ds.length + zs.length) = true then some (.ok (.lst (ds ++ zs)) μ) else none
  | _, _ => none) env μ else none
theorem de_hcat (hK : X.K = c.K) (hsl : c.sl[0]? = some (some i)) (he : PE X (.Name x p1) (tVar i)) (h2 : PE X e (T c W f)) : PE X (.BinOp (.Subscript (.Name x p1) (.Constant (.int 1) k1 p2) p3) .Add e pos) (T c W (mHcat f)) :=
  impE (pe_op op_cat (pe_hc he) h2) fun σ H Q ⟨yy, F, env, μ, as, R, q⟩ => by
    unfold mHcat at q
    by_cases hh : isHl μ[0]? = true
    · rw [if_pos hh] at q
      refine t_hc hsl R hh fun a ha => ?_
      refine (aft_bind (P := PD c) R q).imp fun v H1 ⟨d, F1, μ1, as1, x1, y1, p1, R1, a1⟩ => ?_
      cases e1 : obL μ1[1]? with
      | none => simp only [e1] at a1; exact a1.elim
      | some ds =>
        simp only [e1] at a1
        cases d with
        | lst zs =>
          simp only at a1
          by_cases hc : szb (ds.length + zs.length) = true
          · rw [if_pos hc] at a1
            obtain ⟨a', g1, ⟨n, vs, g2, g3⟩, g4⟩ := R1.own 1 _ (obL_eq e1) trivial
            have z := y1 1 a ha
            rw [g1] at z; cases z
            obtain ⟨b, ws, rfl, q1, q2⟩ := p1
            refine ⟨a, b, vs, ws, rfl, rfl, g2, R1.ex _ _ q1, by rw [g3.len, q2.len]; exact szb_ok hc, fun p hp => ?_⟩
            have n := new1 (o := .lst (vs ++ ws)) R1.ex hp
            exact a1 _ _ _ as1 n.f (AsLe.refl _) (R1.new n) ⟨p, _, rfl, upd_same, Dts.app (Dts.mono n.f _ _ g3) (Dts.mono n.f _ _ q2)⟩
          · rw [if_neg hc] at a1; exact a1.elim
        | _ => exact a1.elim
    · rw [if_neg hh] at q; exact q.elim
/-- len(h[1]) -/
def mHlen : Em := fun env μ => if isHl μ[0]? = true then (match obL μ[1]? with
  | some ds => some (.ok (.int ds.length) μ)
  | none => none) else none
theorem de_hlen {p4 : Pos} (hK : X.K = c.K) (hsl : c.sl[0]? = some (some i)) (he : PE X (.Name x p1) (tVar i)) (hg : Gl X "len") (hm : X.mg "len" = none) : PE X (.Call (.Name "len" p3) [.Subscript (.Name x p1) (.Constant (.int 1) k1 p2) p4] [] pos) (T c W mHlen) :=
  impE (pe_callB call_lenQ hg hm (by decide +kernel) (pa_cons (pe_hc he) pa_nil) (by decide) (by decide)) fun σ H Q ⟨yy, F, env, μ, as, R, q⟩ => by
    unfold mHlen at q
    by_cases hh : isHl μ[0]? = true
    · rw [if_pos hh] at q
      refine t_hc hsl R hh fun a ha => ?_
      cases e1 : obL μ[1]? with
      | none => simp only [e1] at q; exact q.elim
      | some ds =>
        simp only [e1] at q
        obtain ⟨a', g1, ⟨n, vs, g2, g3⟩, g4⟩ := R.own 1 _ (obL_eq e1) trivial
        rw [g1] at ha; cases ha
        refine ⟨a, vs, rfl, .inl (SqL.of g2), ?_⟩
        rw [g3.len]
        exact q _ F H as (Evl.Ex.refl _) (AsLe.refl _) R rfl
    · rw [if_neg hh] at q; exact q.elim
def setHl (b : Bool) (n : Int) : Option Ob → Option Ob
  | some (.hl s i) => some (if b then .hl s n else .hl n i)
  | _ => none
/-- h[0] = e, h[2] = e -/
def sHset (b : Bool) (f : Em) : Sm := sBnd f fun d env μ => match asI d with
  | none => none
  | some n => (setHl b n μ[0]?).map fun o => .nx env (μ.set 0 o)
theorem ds_hset (b : Bool) (hsl : c.sl[0]? = some (some i)) (he : PE X (.Name x p1) (tVar i)) (h : PE X e (T c W f)) (h1 : PS X (.Assign [.Subscript (.Name x p1) (.Constant (.int (hlJ b)) k1 p2) p3] e pos) (tAsg (T c W f) (gSub (tVar i) (tC (.int (hlJ b))) rSetL))) :
    PS X (.Assign [.Subscript (.Name x p1) (.Constant (.int (hlJ b)) k1 p2) p3] e pos) (SX c W (sHset b f)) := impS h1 fun De σ H ⟨yy, F, env, μ, as, R, q⟩ => by
  refine (saft_bind (P := PD c) R q).imp fun v H1 ⟨d, F1, μ1, as1, x1, y1, p1, R1, a1⟩ => ?_
  cases e1 : asI d with
  | none => simp only [e1] at a1; exact a1.elim
  | some n =>
    simp only [e1] at a1
    rw [asI_eq e1] at p1
    have p1 : v = .int n := p1
    subst p1
    cases e2 : μ1[0]? with
    | none => rw [e2] at a1; exact a1.elim
    | some o =>
      rw [e2] at a1
      cases o with
      | hl s m =>
        obtain ⟨a, g1, ⟨p, g2, g3⟩, g4⟩ := R1.own 0 _ e2 trivial
        refine ⟨.ref a, g4 i hsl, a, _, hlJ b, (if b then 2 else 0), rfl, rfl, g3, by cases b <;> rfl, ?_⟩
        refine a1 _ F1 _ as1 (Evl.Ex.refl _) (R1.write g1 e2 trivial ⟨by simp, by intro xs h; cases h⟩ ?_)
        cases b with
        | true => exact ⟨p, g2, upd_same⟩
        | false => exact ⟨p, g2, upd_same⟩
      | _ => exact a1.elim
/-- h[1][e1] = e2 -/
def sHcell (f1 f2 : Em) : Sm := sBnd f2 fun d env μ => if isHl μ[0]? = true then sBnd f1 (fun j env μ => match obL μ[1]?, asI j with
  | some ds, some j => if noM d = true then (ixN ds.length j).map fun n => .nx env (μ.set 1 (.lst (ds.set n d))) else none
  | _, _ => none) env μ else none
theorem noMs_set : ∀ {ds : List D} {d : D} {n : Nat}, noMs ds = true → noM d = true → noMs (ds.set n d) = true
  | [], _, _, h, _ => h
  | x :: xs, d, 0, h, g => by
    obtain ⟨h1, h2⟩ := Bool.and_eq_true_iff.mp (show (noM x && noMs xs) = true from h)
    exact Bool.and_eq_true_iff.mpr ⟨g, h2⟩
  | x :: xs, d, n + 1, h, g => by
    obtain ⟨h1, h2⟩ := Bool.and_eq_true_iff.mp (show (noM x && noMs xs) = true from h)
    exact Bool.and_eq_true_iff.mpr ⟨h1, noMs_set h2 g⟩
theorem ds_hcell {st : Stmt} (hsl : c.sl[0]? = some (some i)) (h1 : PS X st (tAsg (T c W f2) (gSub (tHc X.K i) (T c W f1) rSetL))) : PS X st (SX c W (sHcell f1 f2)) := impS h1 fun De σ H ⟨yy, F, env, μ, as, R, q⟩ => by
  refine (saft_bind (P := PD c) R q).imp fun v H1 ⟨d, F1, μ1, as1, x1, y1, p1, R1, a1⟩ => ?_
  by_cases hh : isHl μ1[0]? = true
  · rw [if_pos hh] at a1
    refine t_hc hsl R1 hh fun a ha => ?_
    refine (saft_bind (P := PD c) R1 a1).imp fun w H2 ⟨j, F2, μ2, as2, x2, y2, p2, R2, a2⟩ => ?_
    cases e1 : obL μ2[1]? with
    | none => simp only [e1] at a2; exact a2.elim
    | some ds =>
      cases e2 : asI j with
      | none => simp only [e1, e2] at a2; exact a2.elim
      | some j' =>
        simp only [e1, e2] at a2
        rw [asI_eq e2] at p2
        have p2 : w = .int j' := p2
        subst p2
        by_cases hn : noM d = true
        · rw [if_pos hn] at a2
          cases e3 : ixN ds.length j' with
          | none => rw [e3] at a2; exact a2.elim
          | some n =>
            rw [e3] at a2
            obtain ⟨a', g1, ⟨nm, vs, g2, g3⟩, g4⟩ := R2.own 1 _ (obL_eq e1) trivial
            have z := y2 1 a ha
            rw [g1] at z; cases z
            refine ⟨a, vs, j', n, rfl, rfl, g2, by rw [g3.len]; exact e3, ?_⟩
            exact a2 _ F2 _ as2 (Evl.Ex.refl _) (R2.write g1 (obL_eq e1) trivial ⟨by simp, by intro xs h; cases h⟩ ⟨noMs_set nm hn, _, upd_same, g3.set n (Dt.mono x2 _ _ p1)⟩)
        · rw [if_neg hn] at a2; exact a2.elim
  · rw [if_neg hh] at a1; exact a1.elim
end
end Sh
namespace Sh
open PySem PySem.Spec PyProof.Rows L2
variable [Wd]
/-! ### the drawing state's beginning: h = mix(script, seed) -/
section
variable {c : Ct} {F H F' H' : Hp} {σ : L2.St} {env : Env} {μ : Mu} {as : List (Option Addr)}
theorem ObR.as_any {K : PySem.W.Frag} {as' : List (Option Addr)} {a : Addr} {o : Ob} (n : isHl (some o) = false) (h : ObR K F H as a o) : ObR K F H as' a o := by
  cases o with
  | hl s i => cases n
  | _ => exact h
/-- a new object of one's own in no slot -/
theorem Rel.ownN {y : Dy} (r : Rel (c.w y) F H σ env μ as) {k : Nat} {p : Addr} {o : Ob} {ho : HO} (nsl : ∀ i, c.sl[k]? ≠ some (some i)) (np : k ∉ c.ps) (nhl : (μ.all fun o => !isHl (some o)) = true) (hp : H p = none) (nt : NoTup (some ho)) (hk : k < μ.length)
    (new : ObR c.K F (upd H p ho) (as.set k (some p)) p o) : Rel (c.w y) F (upd H p ho) σ env (μ.set k o) (as.set k (some p)) := by
  have fp : F p = none := by
    cases q : F p with
    | none => rfl
    | some u => rw [r.ex p u q] at hp; cases hp
  have as_p : ∀ j : Nat, as[j]? ≠ some (some p) := fun j z => (r.out j p z).2.1.1 hp
  have e : Ex H (upd H p ho) := Evl.Ex.new hp
  have hk' : k < as.length := by rw [r.la]; exact hk
  refine ⟨fun b u h => e b u (r.ex b u h), r.sz, r.rd, by rw [List.length_set, List.length_set]; exact r.la, fun j l b g1 g2 => ?_, fun j b h => ?_, fun j u h n => ?_, fun b u h hb => e b u (r.base b u h hb), fun j b' h => ?_, r.pin, r.nw, r.gl⟩
  · rcases set_cases g1 with ⟨rfl, q1, _⟩ | ⟨q0, q1⟩
    · cases q1
      rcases set_cases g2 with ⟨rfl, _, _⟩ | ⟨_, q2⟩
      · rfl
      · exact (as_p l q2).elim
    · rcases set_cases g2 with ⟨rfl, q2, _⟩ | ⟨_, q2⟩
      · cases q2; exact (as_p j q1).elim
      · exact r.inj j l b q1 q2
  · rcases set_cases h with ⟨rfl, q, _⟩ | ⟨q0, q1⟩
    · cases q
      refine ⟨fp, by rw [upd_same]; exact nt, ?_⟩
      cases z : y.H0 p with
      | none => exact .inl z
      | some u =>
        by_cases zz : some p ∈ y.ex0
        · exact .inr zz
        · have := r.base p u z zz
          rw [hp] at this; cases this
    · obtain ⟨g1, g2, g3⟩ := r.out j b q1
      refine ⟨g1, ?_, g3⟩
      have hb : b ≠ p := fun z => g2.1 (by rw [z]; exact hp)
      rw [upd_ne hb]; exact g2
  · rcases set_cases h with ⟨rfl, q, _⟩ | ⟨q0, q1⟩
    · cases q
      exact ⟨p, set_at hk', new, fun j ej => (nsl j ej).elim⟩
    · obtain ⟨a, g1, g2, g3⟩ := r.own j u q1 n
      have nu : isHl (some u) = false := by
        have z := List.all_eq_true.mp nhl u (List.mem_of_getElem? q1)
        cases q : isHl (some u) with
        | false => rfl
        | true => rw [q] at z; cases z
      exact ⟨a, by rw [set_of q0]; exact g1, (g2.grow (Evl.Ex.refl _) e).as_any nu, g3⟩
  · have hj : k ≠ j := fun z => np (by rw [z]; exact r.pin j b' h)
    rw [set_of hj]; exact r.par j b' h
end
def tMixR (K : PySem.W.Frag) : TS := tRet (tLst (tCons (tVar 2) (tCons (tCB (rListA K) (tCons (tVar 0) tNil)) (tCons (tC (.int 0)) tNil))))
def envOf (N : Nat) (args : List (Option D)) : Env := args ++ List.replicate (N - args.length) none
/-- what mix gives: the state, the cells -/
def scrAt : Option (Option D) → Option (List Int)
  | some (some (.scr ns)) => some ns
  | _ => none
def intAt : Option (Option D) → Option Int
  | some (some (.int s)) => some s
  | _ => none
theorem scrAt_eq {o : Option (Option D)} {ns : List Int} (h : scrAt o = some ns) : o = some (some (.scr ns)) := by
  unfold scrAt at h
  split at h
  · cases h; rfl
  · cases h
theorem intAt_eq {o : Option (Option D)} {ns : Int} (h : intAt o = some ns) : o = some (some (.int ns)) := by
  unfold intAt at h
  split at h
  · cases h; rfl
  · cases h
def mixOut : Option SR → Option (Int × List Int)
  | some (.nx env []) => (intAt env[2]?).bind fun s => (scrAt env[0]?).map fun ns => (s, ns)
  | _ => none
theorem mixOut_eq {r : Option SR} {p : Int × List Int} (h : mixOut r = some p) : ∃ env, r = some (.nx env []) ∧ env[0]? = some (some (.scr p.2)) ∧ env[2]? = some (some (.int p.1)) := by
  unfold mixOut at h
  split at h
  · obtain ⟨s, h1, h2⟩ := Option.bind_eq_some_iff.mp h
    obtain ⟨ns, h3, rfl⟩ := Option.map_eq_some_iff.mp h2
    exact ⟨_, rfl, scrAt_eq h3, intAt_eq h1⟩
  · cases h
def gMix (G : List (Addr × List V)) : Sg := ⟨[], [], G⟩
def spMix (K : PySem.W.Frag) (G : List (Addr × List V)) (N : Nat) (s1 s2 : Sm) : Sp := fun vs H Q _ => vs.length = 2 ∧ ∃ F args as p, Ent K (gMix G) F H vs args [] as ∧ mixOut (sSeq s1 s2 (envOf N args) []) = some p ∧
  ∀ F' H' a b, Ret K (gMix G) F H F' H' [] as → H' b = none → upd H' b (.lst (p.2.map V.int)) a = none → Q (.ref a) (upd (upd H' b (.lst (p.2.map V.int))) a (.lst [.int p.1, .ref b, .int 0]))
section
variable {P : Program} {w : World} {K : PySem.W.Frag} {mg : Str → Option Value} {base : Heap} {x qual : Str} {st : Stmt} {f : Addr} {fd : FuncData} {N ps : List Str} {k : Nat} {G : List (Addr × List V)} {s1 s2 : Sm}
theorem mix_run {vs : List V} {H : Hp} {Q : VK} {E : XK} (hN : 2 ≤ N.length) (h : spMix K G N.length s1 s2 vs H Q E) :
    tSeq (SX ((gMix G).c K) W0 s1) (tSeq (SX ((gMix G).c K) W0 s2) (tMixR K)) { nx := fun _ H' => Q .non H', rt := Q } (L2.start N vs) H := by
  obtain ⟨hl, F, args, as, p, e, hm, q⟩ := h
  obtain ⟨env, h1, h2, h3⟩ := mixOut_eq hm
  have la : args.length ≤ N.length := by rw [← e.sz, hl]; exact hN
  have R := e.rel la
  have fin : ∀ σ F' H' as', Ex F F' → Rel (((gMix G).c K).w ⟨F, H, as⟩) F' H' σ env [] as' → tMixR K { nx := fun _ H' => Q .non H', rt := Q } σ H' := fun σ F' H' as' x R' => by
    obtain ⟨v0, a1, a2⟩ := R'.rd 0 _ h2
    obtain ⟨v2, b1, b2⟩ := R'.rd 2 _ h3
    obtain ⟨a, rfl, sq⟩ := a2
    have b2 : v2 = .int p.1 := b2
    subst b2
    refine ⟨.int p.1, b1, .ref a, a1, a, _, rfl, .inl (Evl.ex_l R'.ex sq), fun b hb => ?_⟩
    refine ⟨by show 3 ≤ sizeLine; decide, fun d hd => ?_⟩
    exact q F' H' d b (R'.ret rfl x (fun k hk => nomatch hk) (fun z => (z rfl).elim)) hb hd
  unfold sSeq at h1
  cases e1 : s1 (envOf N.length args) [] with
  | none => rw [e1] at h1; cases h1
  | some r =>
    rw [e1] at h1
    cases r with
    | nx env1 μ1 =>
      refine ⟨⟨F, H, as⟩, F, envOf N.length args, [], as, R, ?_⟩
      rw [e1]
      intro σ F1 H1 as1 x1 R1
      refine ⟨⟨F, H, as⟩, F1, env1, μ1, as1, R1, ?_⟩
      have h1 : s2 env1 μ1 = some (.nx env []) := h1
      rw [h1]
      exact fun σ F2 H2 as2 x2 R2 => fin σ F2 H2 as2 (x1.trans x2) R2
    | _ => cases h1
theorem fn_mix (F : Fun K x qual st f fd) (S : FnScope N ps (defScope st)) (hN : 2 ≤ N.length) (hps : ps.length = 2)
    (hb : ∀ (cdv : Value) (A : Around) (outer : List PySem.Env) (s : Shared) (H : Hp) (E : XK), Room k (A.deeper (envOfC qual (defScope st) s.heap.objs.size f cdv)) → PSs (cxOf CX0 P w K mg base N qual (defScope st) f cdv A outer s H E).nox (defBody st) (tSeq (SX ((gMix G).c K) W0 s1) (tSeq (SX ((gMix G).c K) W0 s2) (tMixR K)))) :
    FnOk P w K mg base CX0 (k + 1) f fd ps (spMix K G N.length s1 s2) :=
  F.ok S (fun vs H Q E h => by rw [hps]; exact h.1) fun cdv A outer s H vs Q E hr h => ⟨_, hb cdv A outer s H E hr, mix_run hN h⟩
end
section
variable {c : Ct} {W : WX} {X : Cx} {k i N : Nat} {pos p p1 : Pos} {st : Stmt} {e : Expr} {es : List Expr} {x y : Str} {f : Addr} {fd : FuncData} {ps : List Str} {s1 s2 : Sm} {l : Mx (List Ar)}
/-- h = mix(..) -/
def sMix (N i : Nat) (s1 s2 : Sm) (l : Mx (List Ar)) : Sm := sBnd l fun al env μ => if ((μ.all fun o => !isHl (some o)) && decide (al.length = 2) && decide (1 < μ.length) && decide (i < env.length)) = true then (match mixOut (sSeq s1 s2 (envOf N (al.map arD)) []) with
  | some (s, ns) => some (.nx (env.set i none) ((μ.set 1 (.lst (ns.map D.int))).set 0 (.hl s 0)))
  | none => none) else none
theorem mp0 {g : Sg} (h : g.ps = []) : MpOk g 0 [] := mpOk_of (by unfold mpOkB; rw [h]; rfl)
theorem noMs_ints : ∀ ns : List Int, noMs (ns.map D.int) = true
  | [] => rfl
  | n :: ns => Bool.and_eq_true_iff.mpr ⟨rfl, noMs_ints ns⟩
theorem ds_mix (b : Bnd c 0 i) (n1 : ∀ j, c.sl[1]? ≠ some (some j)) (np : 1 ∉ c.ps) (G : FnOk X.prog X.w X.K X.mg X.base CX0 k f fd ps (spMix X.K c.G N s1 s2)) (hK : X.K = c.K) (hr : Room k X.A) (hg : Gl X x) (hm : X.mg x = some (.ref f)) (hk : PySem.W.keepIn X.K (.ref f) = true) (hb : Binds X.K fd ps [])
    (ha : PA X (e :: es) (TAr c W l)) (h : ∀ t, PE X (.Call (.Name x p) (e :: es) [] p1) t → PS X st (tAsg t (gName i)))
    (hdb : (x == ("__debug__" : Str)) = false := by decide) (he : starEach (e :: es) X.env = (false, eval e X.env) :: starEach es X.env := by rfl) (hpl : (backTo p1 (starEach es X.env)).any (·.1) = false := by rfl) :
    PS X st (SX c W (sMix N i s1 s2 l)) := impS (h _ (pe_call G hr hg hm hk hb .nil (pass0 (X := X)) ha hdb he hpl)) fun De σ H ⟨yy, F, env, μ, as, R, q⟩ => by
  refine (saft_bind (P := PA' c) R q).imp fun vs H1 ⟨al, F1, μ1, as1, x1, y1, p1, R1, a1⟩ => ?_
  rw [List.append_nil]
  by_cases hc : ((μ1.all fun o => !isHl (some o)) && decide (al.length = 2) && decide (1 < μ1.length) && decide (i < env.length)) = true
  · rw [if_pos hc] at a1
    simp only [Bool.and_eq_true, decide_eq_true_eq] at hc
    obtain ⟨⟨⟨c1, c2⟩, c3⟩, c4⟩ := hc
    cases em : mixOut (sSeq s1 s2 (envOf N (al.map arD)) []) with
    | none => rw [em] at a1; exact a1.elim
    | some z =>
      rw [em] at a1
      refine ⟨by rw [p1.len]; exact c2, F1, al.map arD, [], z, ?_, em, ?_⟩
      · rw [hK]
        exact call_ent (c := c.w yy) (g := gMix c.G) (n := 0) (mp := []) rfl (mp0 rfl) R1 p1 rfl
      · intro F' H' a b' r hb' ha'
        rw [hK] at r
        have R2 : Rel (c.w yy) F' H' σ env (outMu [] [] 0 μ1) as1 := call_ret (c := c.w yy) (g := gMix c.G) (n := 0) (mp := []) (al := al) (mp0 rfl) R1 rfl r
        have om : ∀ (μ : Mu) (j : Nat), outMu [] [] j μ = μ := fun μ => by
          induction μ with
          | nil => intro j; rfl
          | cons o t ih => intro j; show o :: outMu [] [] (j + 1) t = o :: t; rw [ih]
        rw [om] at R2
        have R3 := R2.ownN (o := .lst (z.2.map D.int)) (ho := .lst (z.2.map V.int)) n1 np (by exact c1) hb' ⟨by simp, by intro xs h; cases h⟩ c3 ⟨noMs_ints _, _, upd_same, Dts.ints.mpr rfl⟩
        have l1 : (μ1.set 1 (Ob.lst (z.2.map D.int))).length = μ1.length := List.length_set
        have R4 := R3.own' (o := .hl z.1 0) (ho := .lst [.int z.1, .ref b', .int 0]) b ha' ⟨by simp, by intro xs h; cases h⟩ trivial (by rw [l1]; omega) (by rw [R3.sz]; exact c4) ⟨b', by rw [set_of (by decide)]; exact set_at (by rw [R2.la]; exact c3), upd_same⟩
        exact a1 _ F' _ _ r.f R4
  · rw [if_neg hc] at a1; exact a1.elim
end
end Sh
namespace Sh
open PySem PySem.Spec PyProof.Rows L2
variable [Wd]
/-! ### several targets, some of them new objects of one's own -/
abbrev Fr := D ⊕ Ob
/-- a new own object; dicts with whole numbers and texts as keys, too -/
inductive ShX (K : PySem.W.Frag) (F : Hp) : Ob → HO → D → Prop
  | lst {ds : List D} {vs : List V} (n : noMs ds = true) (h : Dts K F ds vs) : ShX K F (.lst ds) (.lst vs) (.lst ds)
  | dct {kvs : List (List Key × D)} {ks : List (List Key × V)} (n : noMk kvs = true ∧ (kvs.map (·.1)).Nodup) (h : Dtk K F kvs ks) : ShX K F (.dct kvs) (.dT ks) (.dct false kvs)
  | dx {kvs : Kx} {b : Addr} {o : Obj} {xs : List (NK × Addr × Value)} (n : noMx kvs = true) (hs : DxS o xs) (h : Dtx K F kvs xs) : ShX K F (.dx kvs) (dxo b o) (.dx false kvs)
  | dk {kvs : List (Key × D)} {ks : List (Key × V)} (n : noMd kvs = true ∧ (kvs.map (·.1)).Nodup) (h : Dtd K F kvs ks) : ShX K F (.dk kvs) (.dK ks) .non
theorem ShX.mono {K : PySem.W.Frag} {F F1 : Hp} {o : Ob} {ho : HO} {d : D} (e : Ex F F1) (s : ShX K F o ho d) : ShX K F1 o ho d := by
  cases s with
  | lst n h => exact .lst n (Dts.mono e _ _ h)
  | dct n h => exact .dct n (Dtk.mono e _ _ h)
  | dx n hs h => exact .dx n hs (Dtx.mono e _ _ h)
  | dk n h => exact .dk n (Dtd.mono e _ _ h)
theorem ShX.ob {K : PySem.W.Frag} {F H : Hp} {as : List (Option Addr)} {o : Ob} {ho : HO} {d : D} {a : Addr} (s : ShX K F o ho d) (ha : H a = some ho) : ObR K F H as a o := by
  cases s with
  | lst n h => exact ⟨n, _, ha, h⟩
  | dct n h => exact ⟨n, _, ha, h⟩
  | dx n hs h => exact ⟨n, _, _, _, ha, hs, h⟩
  | dk n h => exact ⟨n, _, ha, h⟩
theorem ShX.noTup {K : PySem.W.Frag} {F : Hp} {o : Ob} {ho : HO} {d : D} (s : ShX K F o ho d) : NoTup (some ho) := by
  cases s <;> exact ⟨by simp, by intro xs h; cases h⟩
theorem ShX.drp {K : PySem.W.Frag} {F : Hp} {a : Addr} {o : Ob} {ho : HO} {d : D} (m : IsM (F a)) (s : ShX K F o ho d) : ShX K (Sh.drp F a) o ho d := by
  cases s with
  | lst n h => exact .lst n (Dts.drp m _ _ n h)
  | dx n hs h => exact .dx n hs (Dtx.drp m _ _ n h)
  | dct n h => exact .dct n (Dtk.drp m _ _ n.1 h)
  | dk n h => exact .dk n (Dtd.drp m _ _ n.1 h)
def FrR (K : PySem.W.Frag) (F H : Hp) (as : List (Option Addr)) : Dy → List Fr → List V → Prop
  | _, [], vs => vs = []
  | y, .inl d :: r, vs => ∃ x t, vs = x :: t ∧ Dt K F d x ∧ FrR K F H as y r t
  | y, .inr o :: r, vs => ∃ p F1 ho t d, vs = .ref p :: t ∧ H p = some ho ∧ Free F as y p ∧ ShX K F o ho d ∧ FrR K F H as (y.gd F1 p ho) r t
/-- an expression whose value is a new object that no one else has -/
def FrE (c : Ct) (W : WX) (g : Mx Ob) : TE := fun σ H Q => ∃ yy F env μ as, Rel (c.w yy) F H σ env μ as ∧ match g env μ with
  | none => False
  | some (.err x fs μ') => ∀ F' H' as' d, Ex F F' → AsLe as as' → Rel (c.w yy) F' H' σ env μ' as' → XdR c.K F' H' d fs → W (.ref (He.ga c.K x)) d σ H'
  | some (.ok o μ') => ∀ p ho dd F' H' as', Ex F F' → AsLe as as' → Rel (c.w yy) F' H' σ env μ' as' → Free F' as' yy p → H' p = some ho → ShX c.K F' o ho dd → Q (.ref p) H'
def FrL (c : Ct) (W : WX) (m : Mx (List Fr)) : TA := fun σ H Q => ∃ yy F env μ as, Rel (c.w yy) F H σ env μ as ∧ match m env μ with
  | none => False
  | some (.err x fs μ') => ∀ F' H' as' d, Ex F F' → AsLe as as' → Rel (c.w yy) F' H' σ env μ' as' → XdR c.K F' H' d fs → W (.ref (He.ga c.K x)) d σ H'
  | some (.ok l μ') => ∀ vs F' H' as', Ex F F' → AsLe as as' → Rel (c.w yy) F' H' σ env μ' as' → FrR c.K F' H' as' yy l vs → Q vs H'
def fNil : Mx (List Fr) := ret []
def fDat (f : Em) (m : Mx (List Fr)) : Mx (List Fr) := bnd f fun d => bnd m fun l => ret (.inl d :: l)
def fOwn (g : Mx Ob) (m : Mx (List Fr)) : Mx (List Fr) := bnd g fun o => bnd m fun l => ret (.inr o :: l)
section
variable {c : Ct} {W : WX} {X : Cx} {e a b : Expr} {es : List Expr} {f f1 f2 : Em} {g : Mx Ob} {m : Mx (List Fr)} {pos : Pos} {l : Mx (List D)}
theorem ShX.nt {K : PySem.W.Frag} {F : Hp} {o : Ob} {ho : HO} {d : D} (s : ShX K F o ho d) : ∀ xs, ho ≠ .tup xs := by cases s <;> intro xs h <;> cases h
theorem fr_nil : PA X [] (FrL c W fNil) := impA pa_nil fun σ H Q ⟨yy, F, env, μ, as, R, q⟩ => q [] F H as (Evl.Ex.refl _) (AsLe.refl _) R rfl
theorem fr_dat (ha : PE X e (T c W f)) (hr : PA X es (FrL c W m)) (hs : starEach (e :: es) X.env = (false, eval e X.env) :: starEach es X.env := by rfl) : PA X (e :: es) (FrL c W (fDat f m)) := impA (pa_cons ha hr hs) fun σ H Q ⟨yy, F, env, μ, as, R, q⟩ => by
  refine ⟨yy, F, env, μ, as, R, ?_⟩
  unfold fDat bnd at q
  cases e1 : f env μ with
  | none => simp only [e1] at q
  | some z =>
    simp only [e1] at q
    cases z with
    | err x fs μ' => exact q
    | ok d μ' =>
      intro v F1 H1 as1 x1 y1 R1 p1
      refine ⟨yy, F1, env, μ', as1, R1, ?_⟩
      simp only at q
      cases e2 : m env μ' with
      | none => simp only [e2] at q
      | some z =>
        simp only [e2] at q
        cases z with
        | err x fs μ2 => exact fun F' H' as' d x y => q F' H' as' d (x1.trans x) (y1.trans y)
        | ok l μ2 => exact fun vs F' H' as' x y R' fr => q _ F' H' as' (x1.trans x) (y1.trans y) R' ⟨v, vs, rfl, Dt.mono x _ _ p1, fr⟩
theorem fr_own (ha : PE X e (FrE c W g)) (hr : PA X es (FrL c W m)) (hs : starEach (e :: es) X.env = (false, eval e X.env) :: starEach es X.env := by rfl) : PA X (e :: es) (FrL c W (fOwn g m)) := impA (pa_cons ha hr hs) fun σ H Q ⟨yy, F, env, μ, as, R, q⟩ => by
  refine ⟨yy, F, env, μ, as, R, ?_⟩
  unfold fOwn bnd at q
  cases e1 : g env μ with
  | none => simp only [e1] at q
  | some z =>
    simp only [e1] at q
    cases z with
    | err x fs μ' => exact q
    | ok o μ' =>
      intro p ho dd F1 H1 as1 x1 y1 R2 fr hp sh
      have R3 := R2.guard fr hp
      refine ⟨yy.gd F1 p ho, F1, env, μ', as1, R3, ?_⟩
      simp only at q
      cases e2 : m env μ' with
      | none => simp only [e2] at q
      | some z =>
        simp only [e2] at q
        cases z with
        | err x fs μ2 =>
          intro F' H' as' d x y R' xd
          obtain ⟨_, _, R4⟩ := R2.unguard fr sh.nt R' x
          exact q F' H' as' d (x1.trans x) (y1.trans y) R4 xd
        | ok l μ2 =>
          intro vs F' H' as' x y R' frr
          obtain ⟨h1, h2, R4⟩ := R2.unguard fr sh.nt R' x
          exact q _ F' H' as' (x1.trans x) (y1.trans y) R4 ⟨p, F1, ho, vs, dd, rfl, h1, h2, sh.mono x, frr⟩
/-- what is made -/
def oLst (l : Mx (List D)) : Mx Ob := bnd l fun ds => lift (gd (noMs ds && szb ds.length) (.lst ds))
theorem fe_lst (h : PA X es (TL c W l)) : PE X (.List es pos) (FrE c W (oLst l)) := impE (pe_lst h) fun σ H Q ⟨yy, F, env, μ, as, R, q⟩ => by
  refine ⟨yy, F, env, μ, as, R, ?_⟩
  unfold oLst bnd at q
  cases e1 : l env μ with
  | none => simp only [e1] at q
  | some z =>
    simp only [e1] at q
    cases z with
    | err x fs μ' => exact q
    | ok ds μ' =>
      intro vs F1 H1 as1 x1 y1 R1 p1
      simp only at q
      cases e2 : gd (noMs ds && szb ds.length) (Ob.lst ds) with
      | none => rw [e2] at q; exact q.elim
      | some o =>
        rw [e2] at q
        obtain ⟨hc, rfl⟩ := gd_ok e2
        obtain ⟨c1, c2⟩ := Bool.and_eq_true_iff.mp hc
        exact ⟨by rw [p1.len]; exact szb_ok c2, fun p hp => q p _ _ F1 _ as1 x1 y1 (R1.lay (R1.fresh hp) (.inl hp)) (R1.fresh hp) upd_same (.lst c1 p1)⟩
def oDct : Mx Ob := ret (.dct [])
theorem fe_dct (h : PE X e tDNewT) : PE X e (FrE c W oDct) := impE h fun σ H Q ⟨yy, F, env, μ, as, R, q⟩ => fun p hp => q p _ _ F _ as (Evl.Ex.refl _) (AsLe.refl _) (R.lay (R.fresh hp) (.inl hp)) (R.fresh hp) upd_same (.dct ⟨rfl, List.nodup_nil⟩ rfl)
/-- a + b of lists -/
def catD : D → D → Option Ob
  | .lst xs, .lst ys => gd (noMs xs && noMs ys && szb (xs.length + ys.length)) (.lst (xs ++ ys))
  | _, _ => none
def oCat (f1 f2 : Em) : Mx Ob := bnd f1 fun x => bnd f2 fun y => lift (catD x y)
theorem fe_cat (ha : PE X a (T c W f1)) (hb : PE X b (T c W f2)) : PE X (.BinOp a .Add b pos) (FrE c W (oCat f1 f2)) := impE (pe_op op_cat ha hb) fun σ H Q ⟨yy, F, env, μ, as, R, q⟩ => by
  refine ⟨yy, F, env, μ, as, R, ?_⟩
  unfold oCat bnd at q
  cases e1 : f1 env μ with
  | none => simp only [e1] at q
  | some z =>
    simp only [e1] at q
    cases z with
    | err x fs μ' => exact q
    | ok d1 μ1 =>
      intro v1 F1 H1 as1 x1 y1 R1 p1
      refine ⟨yy, F1, env, μ1, as1, R1, ?_⟩
      simp only at q
      cases e2 : f2 env μ1 with
      | none => simp only [e2] at q
      | some z =>
        simp only [e2] at q
        cases z with
        | err x fs μ' => exact fun F' H' as' d x y => q F' H' as' d (x1.trans x) (y1.trans y)
        | ok d2 μ2 =>
          intro v2 F2 H2 as2 x2 y2 R2 p2
          simp only at q
          cases d1 with
          | lst xs =>
            cases d2 with
            | lst ys =>
              cases e3 : catD (.lst xs) (.lst ys) with
              | none => rw [e3] at q; exact q.elim
              | some o =>
                rw [e3] at q
                obtain ⟨hc, rfl⟩ := gd_ok e3
                obtain ⟨c12, c3⟩ := Bool.and_eq_true_iff.mp hc
                obtain ⟨c1, c2⟩ := Bool.and_eq_true_iff.mp c12
                obtain ⟨a1, vs, rfl, h1, h2⟩ := p1
                obtain ⟨a2, ws, rfl, h3, h4⟩ := p2
                exact ⟨a1, a2, vs, ws, rfl, rfl, R2.ex _ _ (x2 _ _ h1), R2.ex _ _ h3, by rw [h2.len, h4.len]; exact szb_ok c3, fun p hp => q p _ _ F2 _ as2 (x1.trans x2) (y1.trans y2) (R2.lay (R2.fresh hp) (.inl hp)) (R2.fresh hp) upd_same (.lst (noMs_app c1 c2) (Dts.app (Dts.mono x2 _ _ h2) h4))⟩
            | _ => exact q.elim
          | _ => exact q.elim
end
/-! ### taking them -/
section
variable {c : Ct} {F H F' H' : Hp} {σ : L2.St} {env : Env} {μ : Mu} {as as' : List (Option Addr)} {y y' : Dy}
theorem Rel.adopt (r : Rel (c.w y) F H σ env μ as) {k i : Nat} {p : Addr} {o : Ob} {ho : HO} {d : D} (b : Bnd c k i) (f : Free F as y p) (hp : H p = some ho) (sh : ShX c.K F o ho d) (hk : k < μ.length) (hi : i < σ.length) : Rel (c.w y) F H (σ.set i (some (.ref p))) (env.set i none) (μ.set k o) (as.set k (some p)) := by
  obtain ⟨fp, as_p, f3⟩ := f
  have hk' : k < as.length := by rw [r.la]; exact hk
  refine ⟨r.ex, by rw [List.length_set, List.length_set]; exact r.sz, fun j d h => ?_, by rw [List.length_set, List.length_set]; exact r.la, fun j l b g1 g2 => ?_, fun j b h => ?_, fun j u h n => ?_, r.base, fun j b' h => ?_, r.pin, r.nw, r.gl⟩
  · rcases set_cases h with ⟨_, q, _⟩ | ⟨q0, q1⟩
    · cases q
    · rw [set_of q0]; exact r.rd j d q1
  · rcases set_cases g1 with ⟨rfl, q1, _⟩ | ⟨q0, q1⟩
    · cases q1
      rcases set_cases g2 with ⟨rfl, _, _⟩ | ⟨_, q2⟩
      · rfl
      · exact (as_p l q2).elim
    · rcases set_cases g2 with ⟨rfl, q2, _⟩ | ⟨_, q2⟩
      · cases q2; exact (as_p j q1).elim
      · exact r.inj j l b q1 q2
  · rcases set_cases h with ⟨rfl, q, _⟩ | ⟨q0, q1⟩
    · cases q
      exact ⟨fp, by rw [hp]; exact sh.noTup, .inl f3⟩
    · exact r.out j b q1
  · rcases set_cases h with ⟨rfl, q, _⟩ | ⟨q0, q1⟩
    · cases q
      refine ⟨p, set_at hk', sh.ob hp, fun j ej => ?_⟩
      have ej : c.sl[k]? = some (some j) := ej
      rw [b.sl] at ej; cases ej
      exact set_at hi
    · obtain ⟨a, g1, g2, g3⟩ := r.own j u q1 n
      refine ⟨a, by rw [set_of q0]; exact g1, g2.as_mono (by rw [set_of b.ne]), fun l el => ?_⟩
      have hl : i ≠ l := fun z => q0 (b.sole j (by rw [z]; exact el)).symm
      rw [set_of hl]; exact g3 l el
  · have hj : k ≠ j := fun z => b.np (by rw [z]; exact r.pin j b' h)
    rw [set_of hj]; exact r.par j b' h
theorem FrR.imp {K : PySem.W.Frag} : ∀ {l : List Fr} {vs : List V} {y y' : Dy} {as as' : List (Option Addr)}, (∀ q, Free F as y q → Free F as' y' q) → FrR K F H as y l vs → FrR K F H as' y' l vs
  | [], _, _, _, _, _, _, h => h
  | .inl d :: r, _, _, _, _, _, g, ⟨x, t, e, h1, h2⟩ => ⟨x, t, e, h1, FrR.imp g h2⟩
  | .inr o :: r, _, y, y', as, as', g, ⟨p, F1, ho, t, d, e, h1, h2, h3, h4⟩ => ⟨p, F1, ho, t, d, e, h1, g p h2, h3, FrR.imp (fun q z => by
      obtain ⟨z1, z2, z3⟩ := z
      have z3 : upd y.H0 p ho q = none := z3
      have hq : q ≠ p := fun w => by rw [w, upd_same] at z3; cases z3
      rw [upd_ne hq] at z3
      obtain ⟨w1, w2, w3⟩ := g q ⟨z1, z2, z3⟩
      exact ⟨w1, w2, by show upd y'.H0 p ho q = none; rw [upd_ne hq]; exact w3⟩) h4⟩
/-- a slot | a slot and the own object that it holds from now on -/
abbrev Tg := Nat × Option Nat
def tgsOk (c : Ct) : List Tg → Prop
  | [] => True
  | (i, none) :: r => noSlot c.sl i ∧ tgsOk c r
  | (i, some k) :: r => Bnd c k i ∧ tgsOk c r
def setV : List Tg → List V → L2.St → L2.St
  | (i, _) :: r, v :: vs, σ => setV r vs (σ.set i (some v))
  | _, _, σ => σ
def setD : List Tg → List Fr → Env → Mu → Option (Env × Mu)
  | [], [], env, μ => some (env, μ)
  | (i, none) :: t, .inl d :: r, env, μ => setD t r (env.set i (some d)) μ
  | (i, some k) :: t, .inr o :: r, env, μ => if (decide (k < μ.length) && decide (i < env.length)) = true then setD t r (env.set i none) (μ.set k o) else none
  | _, _, _, _ => none
theorem Rel.setAll : ∀ {ts : List Tg} {l : List Fr} {vs : List V} {y : Dy} {σ : L2.St} {env : Env} {μ : Mu} {as : List (Option Addr)} {p : Env × Mu}, tgsOk c ts → Rel (c.w y) F H σ env μ as → FrR c.K F H as y l vs → setD ts l env μ = some p → vs.length = ts.length ∧ ∃ as', Rel (c.w y) F H (setV ts vs σ) p.1 p.2 as'
  | [], [], vs, y, σ, env, μ, as, p, _, R, fr, e => by
    cases e
    rw [show vs = [] from fr]
    exact ⟨rfl, as, R⟩
  | [], _ :: _, _, _, _, _, _, _, _, _, _, _, e => by cases e
  | (i, none) :: t, [], _, _, _, _, _, _, _, _, _, _, e => by cases e
  | (i, some k) :: t, [], _, _, _, _, _, _, _, _, _, _, e => by cases e
  | (i, none) :: t, .inr o :: r, _, _, _, _, _, _, _, _, _, _, e => by cases e
  | (i, some k) :: t, .inl o :: r, _, _, _, _, _, _, _, _, _, _, e => by cases e
  | (i, none) :: t, .inl d :: r, vs, y, σ, env, μ, as, p, ok, R, fr, e => by
    obtain ⟨x, w, rfl, h1, h2⟩ := fr
    obtain ⟨g1, g2⟩ := Rel.setAll (ts := t) ok.2 (R.set h1 ok.1) h2 e
    exact ⟨by rw [List.length_cons, List.length_cons, g1], g2⟩
  | (i, some k) :: t, .inr o :: r, vs, y, σ, env, μ, as, p, ok, R, fr, e => by
    obtain ⟨q, F1, ho, w, d, rfl, h1, h2, h3, h4⟩ := fr
    unfold setD at e
    by_cases hc : (decide (k < μ.length) && decide (i < env.length)) = true
    · rw [if_pos hc] at e
      simp only [Bool.and_eq_true, decide_eq_true_eq] at hc
      have R2 := R.adopt ok.1 h2 h1 h3 hc.1 (by rw [R.sz]; exact hc.2)
      have h5 : FrR c.K F H (as.set k (some q)) y r w := FrR.imp (fun q2 z => by
        obtain ⟨z1, z2, z3⟩ := z
        have z3 : upd y.H0 q ho q2 = none := z3
        have hq : q2 ≠ q := fun w => by rw [w, upd_same] at z3; cases z3
        rw [upd_ne hq] at z3
        refine ⟨z1, fun j hj => ?_, z3⟩
        rcases set_cases hj with ⟨_, w, _⟩ | ⟨_, w⟩
        · cases w; exact hq rfl
        · exact z2 j w) h4
      obtain ⟨g1, g2⟩ := Rel.setAll (ts := t) ok.2 R2 h5 e
      exact ⟨by rw [List.length_cons, List.length_cons, g1], g2⟩
    · rw [if_neg hc] at e; cases e
end
section
variable {c : Ct} {W : WX} {X : Cx} {st : Stmt} {m : Mx (List Fr)} {i j k : Nat} {ts : List Tg} {g : Mx Ob}
/-- a, b, .. = .. -/
def sMul (ts : List Tg) (m : Mx (List Fr)) : Sm := sBnd m fun l env μ => (setD ts l env μ).map fun p => .nx p.1 p.2
theorem t_mul {De : Ends} {σ : L2.St} {H : Hp} {Q : List V → Hp → Prop} (ok : tgsOk c ts) (h : SX c W (sMul ts m) De σ H) (q : ∀ vs H', vs.length = ts.length → (∀ p xs, H' p = none → De.nx (setV ts vs σ) (upd H' p (.tup xs))) → De.nx (setV ts vs σ) H' → Q vs H') : FrL c W m σ H Q := by
  obtain ⟨yy, F, env, μ, as, R, z⟩ := h
  refine ⟨yy, F, env, μ, as, R, ?_⟩
  unfold sMul sBnd at z
  cases e : m env μ with
  | none => rw [e] at z; exact z
  | some r =>
    rw [e] at z
    cases r with
    | err x fs μ' => exact fun F' H' as' d x y R' xd => z σ F' H' as' d x R' xd
    | ok l μ' =>
      intro vs F' H' as' x y R' fr
      simp only at z
      cases e2 : setD ts l env μ' with
      | none => rw [e2] at z; exact z.elim
      | some p =>
        rw [e2] at z
        obtain ⟨g1, as2, g2⟩ := R'.setAll ok fr e2
        refine q vs H' g1 (fun a xs ha => ?_) (z _ F' H' as2 x g2)
        have fr2 := g2.fresh ha
        exact z _ F' _ as2 x (g2.lay fr2 (.inl ha))
theorem two_vs {vs : List V} (h : vs.length = 2) : ∃ a b, vs = [a, b] := by
  match vs, h with
  | [a, b], _ => exact ⟨a, b, rfl⟩
theorem three_vs {vs : List V} (h : vs.length = 3) : ∃ a b d, vs = [a, b, d] := by
  match vs, h with
  | [a, b, d], _ => exact ⟨a, b, d, rfl⟩
theorem ds_mul2 {o1 o2 : Option Nat} (ok : tgsOk c [(i, o1), (j, o2)]) (h : PS X st (tPar i j (FrL c W m))) : PS X st (SX c W (sMul [(i, o1), (j, o2)] m)) := impS h fun De σ H hw => t_mul ok hw fun vs H' hl _ q => by
  obtain ⟨a, b, rfl⟩ := two_vs hl
  exact ⟨a, b, rfl, q⟩
theorem ds_mul3 {o1 o2 o3 : Option Nat} (ok : tgsOk c [(i, o1), (j, o2), (k, o3)]) (h : PS X st (tPar3 i j k (FrL c W m))) : PS X st (SX c W (sMul [(i, o1), (j, o2), (k, o3)] m)) := impS h fun De σ H hw => t_mul ok hw fun vs H' hl _ q => by
  obtain ⟨a, b, d, rfl⟩ := three_vs hl
  exact ⟨a, b, d, rfl, q⟩
def gNames : List Tg → TGs
  | [] => gNil
  | (i, _) :: r => gCons (gName i) (gNames r)
theorem gNames_run : ∀ {ts : List Tg} {vs : List V} {σ : L2.St} {H : Hp} {Q : L2.St → Hp → Prop}, vs.length = ts.length → Q (setV ts vs σ) H → gNames ts vs σ H Q
  | [], [], _, _, _, _, h => ⟨rfl, h⟩
  | [], _ :: _, _, _, _, e, _ => by cases e
  | _ :: _, [], _, _, _, e, _ => by cases e
  | (i, _) :: r, v :: vs, σ, H, Q, e, h => ⟨v, vs, rfl, gNames_run (by simpa using e) h⟩
theorem ds_mulN (ok : tgsOk c ts) (hl : ts.length ≤ 1000) (h : PS X st (tAsg (tTup (FrL c W m)) (gTup X.K ts.length (gNames ts)))) : PS X st (SX c W (sMul ts m)) := impS h fun De σ H hw => t_mul ok hw fun vs H' hv q _ => by
  refine ⟨by rw [hv]; exact Evl.sz_of (by omega), fun p hp => ⟨p, vs, rfl, SqT.of upd_same, hv, ?_⟩⟩
  exact gNames_run hv (q p vs hp)
/-- x = a new object of one's own -/
def sOwn (k i : Nat) (g : Mx Ob) : Sm := sMul [(i, some k)] (fOwn g fNil)
theorem ds_own (b : Bnd c k i) (h : PS X st (tAsg (FrE c W g) (gName i))) : PS X st (SX c W (sOwn k i g)) := impS h fun De σ H hw => by
  have z := t_mul (Q := fun vs H' => ∃ v, vs = [v] ∧ De.nx (σ.set i (some v)) H') (ts := [(i, some k)]) ⟨b, trivial⟩ hw fun vs H' hl _ q => by
    match vs, hl with
    | [a], _ => exact ⟨a, rfl, q⟩
  obtain ⟨yy, F, env, μ, as, R, q⟩ := z
  refine ⟨yy, F, env, μ, as, R, ?_⟩
  unfold fOwn bnd at q
  cases e1 : g env μ with
  | none => simp only [e1] at q
  | some z =>
    simp only [e1] at q
    cases z with
    | err x fs μ' => exact q
    | ok o μ' =>
      intro p ho dd F1 H1 as1 x1 y1 R2 fr hp sh
      obtain ⟨v, ev, n⟩ := q [.ref p] F1 _ as1 x1 y1 R2 ⟨p, F1, ho, [], dd, rfl, hp, fr, sh, rfl⟩
      cases ev
      exact n
end
end Sh
namespace Sh
open PySem PySem.Spec PyProof.Rows L2
variable [Wd]
/-! ### a def by its datum, its promise by name -/
/-- the global x is a def that keeps fm's promise and raises nothing -/
def D0 (P : Program) (w : World) (K : PySem.W.Frag) (mg : Str → Option Value) (base : Heap) (x : Str) (k np : Nat) (g : Sg) (fm : Fm) : Prop :=
  ∃ f fd ps, mg x = some (.ref f) ∧ PySem.W.keepIn K (.ref f) = true ∧ Binds K fd ps [] ∧ FnOk P w K mg base CX0 k f fd ps (FSp0 K g fm np)
section
variable {P : Program} {w : World} {K : PySem.W.Frag} {mg : Str → Option Value} {base : Heap} {x qual : Str} {pa : Arguments} {bd : List Stmt} {sc : Scope} {f : Addr} {fd : FuncData} {N ps : List Str} {k : Nat} {g : Sg} {body : Sm}
abbrev XD (P : Program) (w : World) (K : PySem.W.Frag) (mg : Str → Option Value) (base : Heap) (N : List Str) (qual : Str) (sc : Scope) (f : Addr) (cdv : Value) (A : Around) (outer : List PySem.Env) (s : Shared) (H : Hp) (E : XK) : Cx := (cxOf CX0 P w K mg base N qual sc f cdv A outer s H E).nox
theorem fn_D0 (F : FunD K x qual pa bd sc [] [] f fd) (S : FnScope N ps sc) (hm : mg x = some (.ref f)) (hb : Binds K fd ps []) (hN : ps.length ≤ N.length) (h1 : oneB g = true)
    (hw : w = Wd.w)
    (hbd : ∀ (cdv : Value) (A : Around) (outer : List PySem.Env) (s : Shared) (H : Hp) (E : XK), Bd (XD P w K mg base N qual sc f cdv A outer s H E) (g.c K) k → PSs (XD P w K mg base N qual sc f cdv A outer s H E) bd (SX (g.c K) W0 body)) :
    D0 P w K mg base x (k + 1) ps.length g (fnG g N.length body) :=
  ⟨f, fd, ps, hm, F.kp, hb, F.ok S (fun vs H Q E h => h.1) fun cdv A outer s H vs Q E hr h => ⟨_, PSs.nox (hbd cdv A outer s H E ⟨rfl, hr, rfl, hw⟩), fsp_body (X := XD P w K mg base N qual sc f cdv A outer s H E) (E := fun _ _ _ => False) rfl hN h1 (fun _ _ _ _ z => z) h.1 h.2⟩⟩
end
section
variable {c : Ct} {W : WX} {X : Cx} {k k2 n np : Nat} {pos p : Pos} {st : Stmt} {e : Expr} {es : List Expr} {x : Str} {g : Sg} {mp : Mp} {fm : Fm} {l : Mx (List Ar)}
theorem de_fnD (B : Bd X c k) (D : D0 X.prog X.w X.K X.mg X.base x k2 np g fm) (hk : k2 ≤ k) (hg : Gl X x) (hG : g.G = c.G) (n : Nat) (mp : Mp) (mo : mpOkB g n mp = true) (ha : PA X (e :: es) (TAr c W l))
    (hdb : (x == ("__debug__" : Str)) = false := by decide) (he : starEach (e :: es) X.env = (false, eval e X.env) :: starEach es X.env := by rfl) (hpl : (backTo pos (starEach es X.env)).any (·.1) = false := by rfl) :
    PE X (.Call (.Name x p) (e :: es) [] pos) (T c W (mFn g n np mp (noErr fm) l)) := by
  obtain ⟨f, fd, ps, h1, h2, h3, h4⟩ := D
  exact de_fn0 h4 B.K hG (mpOk_of mo) (B.room.mono hk) hg h1 h2 h3 ha hdb he hpl
def bndB (sl : List (Option Nat)) (ps : List Nat) (k i : Nat) : Bool := decide (sl[k]? = some (some i)) && ((List.range sl.length).all (fun j => decide (sl[j]? = some (some i) → j = k)) && (!decide (k = 1) && !ps.contains k))
theorem bnd_of {c : Ct} {k i : Nat} (h : bndB c.sl c.ps k i = true) : Bnd c k i := by
  unfold bndB at h
  obtain ⟨h1, h⟩ := Bool.and_eq_true_iff.mp h
  obtain ⟨h2, h⟩ := Bool.and_eq_true_iff.mp h
  obtain ⟨h3, h4⟩ := Bool.and_eq_true_iff.mp h
  refine ⟨of_decide_eq_true h1, soleSlot_of h2, fun z => ?_, fun z => ?_⟩
  · rw [z] at h3; cases h3
  · rw [List.contains_iff_mem.mpr z] at h4; cases h4
/-! y = [e for ..] -/
variable {i : Nat} {it : Mx (List D)} {A : Am} {pq : Mx Bool} {f : Em} {ss vs : List Nat}
theorem ds_setLc (h : PS X st (tAsg (tLc (IX c W it) (AX c A ss) (TB c W0 pq) (T c W0 f) vs) (gName i))) (hi : noSlot c.sl i) (hv : ∀ v ∈ vs, noSlot c.sl v) (hss : ∀ j ∈ ss, j ∈ vs) : PS X st (SX c W (sAsg (mLc vs it A pq f) (aName i))) := impS h fun De σ H hw => by
  have q : tAsg (T c W (mLc vs it A pq f)) (gName i) De σ H := by
    refine (t_asg (ss := [i]) hw).imp fun v H1 hg => ?_
    obtain ⟨yy, F, env, μ, as, d, env', R, hd, e, k⟩ := hg
    cases e
    exact k _ sle_set (R.set hd hi)
  exact t_lc hv hss q
theorem ns_of {sl : List (Option Nat)} {vs : List Nat} (h : vs.all (fun v => sl.all (fun o => decide (o ≠ some v))) = true) : ∀ v ∈ vs, noSlot sl v := fun v hv => noSlot_of (List.all_eq_true.mp h v hv)
theorem sub_of {ss vs : List Nat} (h : ss.all (fun j => vs.contains j) = true) : ∀ j ∈ ss, j ∈ vs := fun j hj => List.contains_iff_mem.mp (List.all_eq_true.mp h j hj)
theorem Bd.blk {X : Cx} {c : Ct} {k : Nat} (B : Bd X c k) {s : Shared} {H : Hp} {scope : Scope} {env : PySem.Env} {fp : List Addr} : Bd (X.blk s H scope env fp) c k := ⟨B.K, B.room, B.calm, B.hw⟩
theorem n1_of {sl : List (Option Nat)} (h : decide (sl[1]? = some none) = true) : ∀ j, sl[1]? ≠ some (some j) := fun j e => by rw [of_decide_eq_true h] at e; cases e
/-- the drawing state's maker -/
def DMix (P : Program) (w : World) (K : PySem.W.Frag) (mg : Str → Option Value) (base : Heap) (x : Str) (k : Nat) (G : List (Addr × List V)) (N : Nat) (s1 s2 : Sm) : Prop :=
  ∃ f fd ps, mg x = some (.ref f) ∧ PySem.W.keepIn K (.ref f) = true ∧ Binds K fd ps [] ∧ FnOk P w K mg base CX0 k f fd ps (spMix K G N s1 s2)
section
variable {c : Ct} {W : WX} {X : Cx} {k k2 i N : Nat} {pos p p1 : Pos} {st : Stmt} {e : Expr} {es : List Expr} {x y : Str} {s1 s2 : Sm} {l : Mx (List Ar)}
theorem ds_mixD (B : Bd X c k) (b : Bnd c 0 i) (n1 : ∀ j, c.sl[1]? ≠ some (some j)) (np : 1 ∉ c.ps) (D : DMix X.prog X.w X.K X.mg X.base x k2 c.G N s1 s2) (hk : k2 ≤ k) (hg : Gl X x)
    (ha : PA X (e :: es) (TAr c W l)) (h : ∀ t, PE X (.Call (.Name x p) (e :: es) [] p1) t → PS X st (tAsg t (gName i)))
    (hdb : (x == ("__debug__" : Str)) = false := by decide) (he : starEach (e :: es) X.env = (false, eval e X.env) :: starEach es X.env := by rfl) (hpl : (backTo p1 (starEach es X.env)).any (·.1) = false := by rfl) :
    PS X st (SX c W (sMix N i s1 s2 l)) := by
  obtain ⟨f, fd, ps, h1, h2, h3, h4⟩ := D
  exact ds_mix b n1 np h4 B.K (B.room.mono hk) hg h1 h2 h3 ha h hdb he hpl
end
abbrev FnPS (K : PySem.W.Frag) (x : Str) (st : Stmt) (f : Addr) (fd : FuncData) : Prop := FunD K x x (defArgs st) (defBody st) (defScope st) [] [] f fd
section
variable {P : Program} {w : World} {K : PySem.W.Frag} {mg : Str → Option Value} {base : Heap} {x qual : Str} {pa : Arguments} {bd : List Stmt} {sc : Scope} {f : Addr} {fd : FuncData} {N ps : List Str} {k : Nat} {G : List (Addr × List V)} {s1 s2 : Sm}
theorem fn_DMix (F : FunD K x qual pa bd sc [] [] f fd) (S : FnScope N ps sc) (hm : mg x = some (.ref f)) (hb : Binds K fd ps []) (hN : 2 ≤ N.length) (hps : ps.length = 2)
    (hw : w = Wd.w)
    (hbd : ∀ (cdv : Value) (A : Around) (outer : List PySem.Env) (s : Shared) (H : Hp) (E : XK), Bd (XD P w K mg base N qual sc f cdv A outer s H E) ((gMix G).c K) k → PSs (XD P w K mg base N qual sc f cdv A outer s H E) bd (tSeq (SX ((gMix G).c K) W0 s1) (tSeq (SX ((gMix G).c K) W0 s2) (tMixR K)))) :
    DMix P w K mg base x (k + 1) G N.length s1 s2 :=
  ⟨f, fd, ps, hm, F.kp, hb, F.ok S (fun vs H Q E h => by rw [hps]; exact h.1) fun cdv A outer s H vs Q E hr h => ⟨_, PSs.nox (hbd cdv A outer s H E ⟨rfl, hr, rfl, hw⟩), mix_run hN h⟩⟩
end
/-- a new object, an own object being read as data within -/
def oView (k i : Nat) (g : Mx Ob) : Mx Ob := fun env μ => match μ[k]? with
  | none => none
  | some o => match obD o with
    | none => none
    | some d0 => match g (env.set i (some d0)) (μ.set k .hid) with
      | some (.ok d μ') => if decide (k < μ'.length) = true then some (.ok d (μ'.set k o)) else none
      | _ => none
theorem t_viewO {c : Ct} {W : WX} {k i : Nat} {g : Mx Ob} {σ : L2.St} {H : Hp} {Q : VK} (hsl : c.sl[k]? = some (some i)) (h1 : k ≠ 1) (hw : FrE c W (oView k i g) σ H Q) : FrE c W g σ H Q := by
  obtain ⟨yy, F, env, μ, as, R, q⟩ := hw
  unfold oView at q
  cases e1 : μ[k]? with
  | none => rw [e1] at q; exact q.elim
  | some o =>
    rw [e1] at q
    cases e2 : obD o with
    | none => simp only [e2] at q
    | some d0 =>
      simp only [e2] at q
      obtain ⟨a, ho, hk, ha, s, hs⟩ := R.shows e1 e2
      have R1 := R.view hk ha s (hs i hsl) h1
      refine ⟨_, _, _, _, _, R1, ?_⟩
      cases e3 : g (env.set i (some d0)) (μ.set k .hid) with
      | none => rw [e3] at q; exact q
      | some z =>
        rw [e3] at q
        cases z with
        | err x fs μ' => exact q.elim
        | ok d μ' =>
          simp only at q
          by_cases hc : decide (k < μ'.length) = true
          · rw [if_pos hc] at q
            intro p ho' dd F' H' as' x y R2 fr hp sh
            obtain ⟨g1, g2, g3, g4⟩ := R.unview hk ha s hs h1 R2 x y (of_decide_eq_true hc)
            have pa : p ≠ a := fun z => by
              have := x a ho upd_same
              rw [← z, fr.1] at this; cases this
            refine q p ho' dd _ H' _ g1 g2 g4 ⟨by rw [drp_ne pa]; exact fr.1, fun j hj => ?_, ?_⟩ hp (sh.drp g3)
            · rcases set_cases hj with ⟨_, w, _⟩ | ⟨_, w⟩
              · cases w; exact pa rfl
              · exact fr.2.1 j w
            · have z : drp yy.H0 a p = none := fr.2.2
              rw [drp_ne pa] at z; exact z
          · rw [if_neg hc] at q; exact q.elim
theorem fe_view {c : Ct} {W : WX} {X : Cx} {e : Expr} {k i : Nat} {g : Mx Ob} (hsl : c.sl[k]? = some (some i)) (h1 : k ≠ 1) (h : PE X e (FrE c W g)) : PE X e (FrE c W (oView k i g)) := impE h fun σ H Q hw => t_viewO hsl h1 hw
/-- code that is never come to -/
def sNo : Sm := fun _ _ => none
theorem ds_no : PS X st (SX c W sNo) := impS ps_never fun De σ H ⟨yy, F, env, μ, as, R, q⟩ => q
end
end Sh
namespace Sh
open PySem PySem.Spec PyProof.Rows L2
variable [Wd]
/-! ### enumerate over what stands in a list or a tuple
tp tells which; the sequence is known by what it holds (SqX), its iterator by how far it is (ItrOf). -/
def SqX (K : PySem.W.Frag) (tp : Bool) (H : Hp) (a : Addr) (xs : List V) : Prop := match tp with
  | true => SqT K H a xs
  | false => SqL K H a xs
def ItrOf (tp : Bool) (h : Heap) (it a : Addr) (i : Nat) : Prop := match tp with
  | true => h.IsTupleIter it a i
  | false => h.IsListIter it a i
def ArrOf (tp : Bool) (h : Heap) (a : Addr) (its : Array Value) : Prop := match tp with
  | true => h.IsTuple a its
  | false => h.IsList a its
section
variable {X : Cx} {pins : List (Addr × Obj)} {σ : L2.St} {H : Hp} {s : Shared} {tp : Bool} {a : Addr} {xs ys : List V}
theorem ArrOf.of (I : Inv X pins σ H s) (h : SqX X.K tp H a xs) : ∃ its, Vals xs its ∧ ArrOf tp s.heap a its.toArray := by
  cases tp with
  | false => obtain ⟨its, rv, p, _⟩ := I.list h; exact ⟨its, rv, p.isList⟩
  | true => obtain ⟨its, rv, p, _⟩ := I.tuple h; exact ⟨its, rv, p⟩
theorem SqX.inj (I : Inv X pins σ H s) (h : SqX X.K tp H a xs) (g : SqX X.K tp H a ys) : xs = ys := by
  cases tp with
  | false => exact I.list_inj h g
  | true => exact I.tuple_inj h g
end
/-- the i-th turn makes a new pair of k0 + i and the i-th item -/
def Itc2 (K : PySem.W.Frag) (tp : Bool) (a : Addr) (k0 : Int) : It where
  go := fun i H => ∃ xs x, SqX K tp H a xs ∧ xs[i]? = some x
  yld := fun i H v H' => ∃ T x, v = .ref T ∧ H T = none ∧ H' = upd H T (.tup [.int (k0 + (i : Nat)), x]) ∧ ∀ xs, SqX K tp H a xs → xs[i]? = some x
  stop := fun i H => ∃ xs, SqX K tp H a xs ∧ xs.length = i
/-- the draws of its iterator -/
theorem drawsX {P : Program} {w : World} {A : Around} (tp : Bool) (hh : A.handled = none) {it a : Addr} (hn : a ≠ it) (its : Array Value) :
    Draws P w A it [it, a] its.size (fun i v => its[i]? = some v) (fun i h => ItrOf tp h it a i ∧ ArrOf tp h a its) := by
  cases tp with
  | false => exact Draws.list hh it a hn its
  | true => exact Draws.tuple hh it a hn its
theorem ItrOf.at {tp : Bool} {h h' : Heap} {it a : Addr} {i : Nat} (x : ItrOf tp h it a i) (k : ∀ o, h.get? it = some o → h'.get? it = some o) : ItrOf tp h' it a i := by
  cases tp with
  | false => obtain ⟨o, e, r⟩ := x; exact ⟨o, k o e, r⟩
  | true => obtain ⟨o, e, r⟩ := x; exact ⟨o, k o e, r⟩
theorem ItrOf.rec {tp : Bool} {h : Heap} {it a : Addr} {i : Nat} (x : ItrOf tp h it a i) : ∃ o, h.get? it = some o ∧ ∀ v, o.data ≠ .cell v := by
  cases tp with
  | false => obtain ⟨o, e, _, d⟩ := x; exact ⟨o, e, fun v z => by rw [d] at z; cases z⟩
  | true => obtain ⟨o, e, _, d⟩ := x; exact ⟨o, e, fun v z => by rw [d] at z; cases z⟩
theorem turn_enumX {P : Program} {w : World} {K : PySem.W.Frag} {elts : List Expr} {kk : Nat} {tpos : Pos} (tp : Bool) (k0 : Int) (a e it : Addr) :
    Turn P w K (.Tuple elts kk tpos) (Itc2 K tp a k0) [e, it] e (fun i h => (∃ old, IsEnum h e it (k0 + ((i : Nat) : Int)) old) ∧ ItrOf tp h it a i ∧ e ≠ it ∧ a ≠ it ∧ a ≠ e) := by
  have two : ∀ {b : Addr}, b ∈ [e, it] → b = e ∨ b = it := fun {b} hb => by simpa using hb
  refine { mem := by simp, obj := fun i h st b hb => ?_, keep := fun i h h' st k => ?_, item := ?_, done := ?_, self := fun A i s Q E st q => ?_ }
  · obtain ⟨⟨old, en⟩, itr, _⟩ := st
    rcases two hb with z | z
    · exact ⟨_, z ▸ en, fun v q => by cases q⟩
    · exact z ▸ itr.rec
  · obtain ⟨⟨old, en⟩, itr, r⟩ := st
    exact ⟨⟨old, k e (by simp) _ en⟩, itr.at fun o q => k it (by simp) o q, r⟩
  · rintro X rfl rfl rfl hc i pins s σ H E I hf ⟨⟨old, en⟩, itr, hei, hai, hae⟩ ⟨xs, x, hq, hx⟩
    obtain ⟨its, rv, arr⟩ := ArrOf.of I hq
    obtain ⟨u, hu, ru⟩ := rv.get hx
    have hi : i < its.toArray.size := by
      rw [List.size_toArray]; exact (List.getElem?_eq_some_iff.mp hu).1
    have he : e < s.heap.objs.size := Heap.lt_size en
    have ht : it < s.heap.objs.size := let ⟨o, q, _⟩ := itr.rec; Heap.lt_size q
    refine wpAny_pyNext_enum_itemC (drawsX tp (show X.A.in1.handled = none from I.ok.hd hc) hai its.toArray) en ⟨itr, arr⟩ hi hei (by simp; exact ⟨hei, fun z => hae z.symm⟩) fun y h1 tk py out st1 new _ keep => ⟨_, rfl, ?_⟩
    have ey : y = u := by
      have py' : its[i]? = some y := by simpa using py
      rw [hu] at py'; exact (Option.some.inj py').symm
    subst ey
    refine wpAny_letOwnedTupleGo_enum (s := { s with heap := h1, toks := tk + 1 }) out fun h2 en2 same => ?_
    generalize hT : s.heap.objs.size = T at new out en2
    have neT : ∀ b, b < s.heap.objs.size → T ≠ b := fun b hb z => by rw [← hT] at z; exact absurd (z ▸ hb) (Nat.lt_irrefl _)
    have new2 : h2.get? T = some { cls := .type "tuple", data := .seq #[.int (k0 + ((i : Nat) : Int)) tk, y] } := (same.2 T (neT e he)).trans new
    have obj : ObjOk X.prog X.w (upd H T (.tup [.int (k0 + (i : Nat)), x])) h2 T (.tup [.int (k0 + (i : Nat)), x]) :=
      ⟨show 2 ≤ sizeLine by decide, [.int (k0 + ((i : Nat) : Int)) tk, y], .cons ⟨tk, rfl⟩ (.cons ru .nil), _, new2, rfl, _, rfl⟩
    have J := I.turnedNew (h' := h2) (t' := tk + 1) (ch := [e, it]) (T := T) (ob := .tup [.int (k0 + (i : Nat)), x]) (fun b o hb q => by
      have nb : b ≠ e ∧ b ≠ it := ⟨fun z => hb (by simp [z]), fun z => hb (by simp [z])⟩
      exact (same.2 b nb.1).trans (keep b o nb.1 nb.2 q)) hf (Nat.le_of_eq hT) obj
    refine ⟨.ref T, _, J, rfl, ⟨T, x, rfl, I.hok.fresh (Nat.le_of_eq hT), rfl, fun zs hz => by rw [SqX.inj I hz hq]; exact hx⟩, ⟨⟨y, ?_⟩, ?_, hei, hai, hae⟩, fun b hb => ?_⟩
    · have : k0 + ((i + 1 : Nat) : Int) = k0 + (i : Int) + 1 := by omega
      rw [this]; exact en2
    · exact st1.1.at fun o q => (same.2 it (fun z => hei z.symm)).trans q
    · have lt : b < s.heap.objs.size := by rcases two hb with z | z <;> rw [z] <;> assumption
      rw [upd_ne (fun z => neT b lt z.symm)]
      exact (hf b hb).1
  · rintro X rfl rfl rfl hc i pins s σ H E I hf ⟨⟨old, en⟩, itr, hei, hai, hae⟩ ⟨xs, hq, hx⟩
    obtain ⟨its, rv, arr⟩ := ArrOf.of I hq
    obtain ⟨f0, f1, f2, f3, f4, f5⟩ := hf it (by simp)
    have sz : its.toArray.size = i := by rw [List.size_toArray, ← rv.length]; exact hx
    exact wpAny_pyNext_enum_endD (drawsX tp (show X.A.in1.handled = none from I.ok.hd hc) hai its.toArray) en ⟨by rw [sz]; exact itr, arr⟩ fun h' eb => ⟨rfl, I.turned (t' := s.toks) (fun b o hb q => eb b o hb q) f0 f1 f3 f4 f5⟩
  · obtain ⟨⟨old, en⟩, _⟩ := st
    exact wpAny_pyIter_enum en q
end Sh
namespace Sh
open PySem PySem.Spec PyProof.Rows L2
variable [Wd]
/-- a built-in type called by its name, with keywords -/
theorem callWith_typeKw {M : Model} {A : Around} {E : Value → Shared → Prop} {s : Shared} {env : PySem.Env} {pos : Pos} {T : String} {e : Expr} {rest : List Expr} {kws : List Keyword} {Q : Value → Shared → Prop}
    (h : wpAny M A (spliced (backTo pos (starEach (e :: rest) env))) (fun vs s1 => wpAny M A (evalAll ((backToKw pos (keywordEach kws env)).map (·.2))) (fun ws s2 =>
      wpAny M A (call (.type T) vs (((backToKw pos (keywordEach kws env)).filterMap (·.1)).zip ws)) Q E s2) E s1) E s)
    (he : backTo pos (starEach (e :: rest) env) = (false, eval e env) :: backTo pos (starEach rest env)) (hpl : (backTo pos (starEach (e :: rest) env)).any (·.1) = false)
    (named : (backToKw pos (keywordEach kws env)).all (·.1.isSome) = true) (none0 : (backToKw pos (keywordEach kws env)).any (·.1.isNone) = false) :
    wpAny M A (callWith pos (.type T) [] (backTo pos (starEach (e :: rest) env)) (backToKw pos (keywordEach kws env))) Q E s := by
  have args : wpAny M A (evalArgs (.type T) true (backTo pos (starEach (e :: rest) env)) (backToKw pos (keywordEach kws env))) (fun a s1 => wpAny M A (call (.type T) a.pos a.kw) Q E s1) E s := by
    rw [he] at h ⊢
    exact evalArgs_kw named h
  unfold callWith
  refine wpAny_bind (wpAny_holding (thn args fun a s1 h1 => wpAny_bind (wpAny_standAt ?_)))
  rw [hpl, none0]
  exact wpAny_bind (wpAny_pure (wpAny_bind (thn h1 fun r s2 q => wpAny_bind (wpAny_holding (wpAny_point (wpAny_pure q))))))
/-- enumerate(v), whatever v's iterator is -/
theorem enum_new1 {v : Value} {o : Obj} {B : Heap → Prop} (b : Begins v o B) : Meets (Builtin.«enumerate.__new__» ⟨[.type "enumerate", v], []⟩) fun _ R s =>
    B s.heap ∧ R (.ok (.ret (.ref (s.heap.push o).objs.size))) { s with heap := (s.heap.push o).push { cls := .type "enumerate", data := .fields #[.none, .bool false, .ref s.heap.objs.size, rawInt 0, .none, .none] } } := by
  refine .of_wp fun P w A R s hs => ?_
  obtain ⟨heap, gn, dr, tk, os⟩ := s
  obtain ⟨hb, hr⟩ := hs
  have known := sub_enumerate
  have draw : ∀ {A' : Around} {E' : Value → Shared → Prop} {Q' : Value → Shared → Prop}, Q' (.ref heap.objs.size) ⟨heap.push o, gn, dr, tk, os⟩ → wpAny (model P w) A' (pyIter v) Q' E' ⟨heap, gn, dr, tk, os⟩ := b.iter P w _ _ ⟨heap, gn, dr, tk, os⟩ _ hb
  wp_walk using draw
  refine wpAny_stack_any fun _ => wpAny_pure ?_
  split
  · rename_i z _ _ _ _ _
    cases (z == Value.type "enumerate") <;> (wp_walk using draw; exact ⟨_, rfl, hr⟩)
  · (wp_walk using draw; exact ⟨_, rfl, hr⟩)
theorem enum_begins1 {P : Program} {w : World} {A : Around} {E : Value → Shared → Prop} {s : Shared} {v : Value} {o : Obj} {B : Heap → Prop} {Q : Value → Shared → Prop} (b : Begins v o B) (hb : B s.heap)
    (h : ∀ h', IsEnum h' (s.heap.objs.size + 1) s.heap.objs.size 0 .none → h'.get? s.heap.objs.size = some o → h'.objs.size = s.heap.objs.size + 2 → (∀ b o, s.heap.get? b = some o → h'.get? b = some o) → Q (.ref (s.heap.objs.size + 1)) { s with heap := h' }) :
    wpAny (model P w) A (call (.type "enumerate") [v]) Q E s := by
  refine callType_new F.called_enumerate (by decide) (F.typeCall_enumerate_1 _) (F.newCall_enumerate_1 _) (fun obj => F.args_object_init_2 obj _) F.entry_enumerate_new (enum_new1 b) ⟨hb, ?_⟩
  generalize ho : ({ cls := .type "enumerate", data := .fields #[.none, .bool false, .ref s.heap.objs.size, rawInt 0, .none, .none] } : Obj) = eo
  have z1 : (s.heap.push o).objs.size = s.heap.objs.size + 1 := Heap.size_push ..
  have en : IsEnum ((s.heap.push o).push eo) (s.heap.objs.size + 1) s.heap.objs.size 0 .none := by
    rw [← z1]
    unfold IsEnum
    rw [ho]
    exact Heap.get?_push_size _ (by rw [← ho]; rfl)
  rw [z1]
  have kept : ∀ c u, s.heap.get? c = some u → ((s.heap.push o).push eo).get? c = some u := fun c u q => Heap.get?_push_of_some _ (Heap.get?_push_of_some _ q)
  exact ⟨⟨_, en, rfl⟩, h _ en (Heap.get?_push_of_some _ (Heap.get?_push_size _ b.free)) (by rw [Heap.size_push, z1]) kept⟩
def iEnum2 (K : PySem.W.Frag) (k0 : Int) (ta : TA) : TI := fun σ H R => ta σ H fun vs H1 => ∃ a tp xs, vs = [.ref a] ∧ SqX K tp H1 a xs ∧ R (Itc2 K tp a k0) H1
def itO (tp : Bool) (a : Addr) : Obj := match tp with
  | true => { cls := .type "tuple_iterator", data := .fields #[.ref a, .int 0 0] }
  | false => { cls := .type "list_iterator", data := .fields #[.ref a, .int 0 0] }
theorem begins_X (tp : Bool) (a : Addr) (its : Array Value) : Begins (.ref a) (itO tp a) fun h => ArrOf tp h a its := by
  cases tp with
  | true => exact begins_tuple a its
  | false => exact begins_list a its
theorem itr_new {tp : Bool} {h : Heap} {it a : Addr} (e : h.get? it = some (itO tp a)) : ItrOf tp h it a 0 := by
  cases tp with
  | true => exact ⟨_, e, rfl, rfl⟩
  | false => exact ⟨_, e, rfl, rfl⟩
section
variable {X : Cx} {e : Expr} {te : TE} {p pos tpos : Pos} {elts : List Expr} {kk : Nat}
theorem enum_it {pins : List (Addr × Obj)} {σ : L2.St} {H : Hp} {s : Shared} {R : It → Hp → Prop} {tp : Bool} {a : Addr} {xs : List V} {k0 : Int} (I : Inv X pins σ H s) (hq : SqX X.K tp H a xs) (q : R (Itc2 X.K tp a k0) H) {h' : Heap} {o : Obj}
    (he : IsEnum h' (s.heap.objs.size + 1) s.heap.objs.size k0 .none) (ho : h'.get? s.heap.objs.size = some (itO tp a)) (hk : ∀ b o, s.heap.get? b = some o → h'.get? b = some o) :
    wpAny (model X.prog X.w) X.A (pyIter (.ref (s.heap.objs.size + 1))) (PIE X pins σ (.Tuple elts kk tpos) R) X.xe { s with heap := h' } := by
  have I2 : Inv X pins σ H { s with heap := h' } := I.kept (t' := s.toks) hk
  have ha : a < s.heap.objs.size := by
    cases tp with
    | true => obtain ⟨its, rv, ⟨o, ho, _⟩, hz⟩ := I.tuple hq; exact Heap.lt_size ho
    | false => obtain ⟨its, rv, p, hz⟩ := I.list hq; obtain ⟨o, ho, _⟩ := p.isList; exact Heap.lt_size ho
  refine wpAny_pyIter_enum he ?_
  refine ⟨s.heap.objs.size + 1, [s.heap.objs.size + 1, s.heap.objs.size], _, _, H, rfl, I2, turn_enumX tp k0 a (s.heap.objs.size + 1) s.heap.objs.size, ⟨⟨.none, by simpa using he⟩, itr_new ho, Nat.succ_ne_self _, Nat.ne_of_lt ha, Nat.ne_of_lt (Nat.lt_succ_of_lt ha)⟩, fun b hb => ?_, q⟩
  have e' : b = s.heap.objs.size + 1 ∨ b = s.heap.objs.size := by simpa using hb
  have hle : s.heap.objs.size ≤ b := by
    rcases e' with z | z
    · rw [z]; exact Nat.le_add_right _ _
    · rw [z]; exact Nat.le_refl _
  exact I.fpOk hle (I.hok.fresh hle)
theorem pi_enum1 {ta : TA} (hg : Gl X "enumerate") (hm : X.mg "enumerate" = none) (hA : PA X [e] ta) (hs : starEach [e] X.env = [(false, eval e X.env)] := by rfl) :
    PI X (.Tuple elts kk tpos) (.Call (.Name "enumerate" p) [e] [] pos) (iEnum2 X.K 0 ta) := by
  refine ⟨fun pins s σ H R I h => ?_⟩
  refine Call_ (ld_blt I hg hm boot_enumerate (PyProof.Rows.callWith_type1 (thn (hA.run pos pins s σ H _ I h) fun us s1 ⟨vs, H1, I1, r1, q1⟩ => ?_) hs rfl))
  obtain ⟨a, tp, xs, ex, hq, q⟩ := q1
  subst ex
  cases r1 with
  | cons r rr =>
    cases rr
    cases r
    obtain ⟨its, rv, p'⟩ := ArrOf.of I1 hq
    exact enum_begins1 (begins_X tp a its.toArray) p' fun h' he ho hsz hk => enum_it (o := itO tp a) I1 hq q he ho hk
theorem pi_enumK {ta : TA} {k : Int} {j : Nat} {kp p3 : Pos} (hg : Gl X "enumerate") (hm : X.mg "enumerate" = none) (hA : PA X [e] ta) (h0 : -(2 ^ 63) ≤ k) (h1 : k < 2 ^ 63)
    (he : backTo pos (starEach [e] X.env) = (false, eval e X.env) :: backTo pos (starEach [] X.env) := by rfl) (hpl : (backTo pos (starEach [e] X.env)).any (·.1) = false := by rfl) :
    PI X (.Tuple elts kk tpos) (.Call (.Name "enumerate" p) [e] [⟨some "start", .Constant (.int k) j p3, kp⟩] pos) (iEnum2 X.K k ta) := by
  refine ⟨fun pins s σ H R I h => ?_⟩
  have hk := (pk_cons (nm := some "start") (kpos := kp) (pe_int (X := X) (i := k) (j := j) (pos := p3)) pk_nil)
  refine wpAny_Call_Name_kw (ld_blt I hg hm boot_enumerate (callWith_typeKw (thn (hA.run pos pins s σ H _ I h) fun us s1 ⟨vs, H1, I1, r1, q1⟩ => thn (hk.run pos pins s1 σ H1 (fun zs H2 => zs = [.int k] ∧ H2 = H1) I1 ⟨rfl, rfl⟩) fun ws s2 ⟨zs, H2, I2, r2, q2⟩ => ?_) he hpl rfl rfl))
  obtain ⟨a, tp, xs, ex, hq, q⟩ := q1
  obtain ⟨rfl, rfl⟩ := q2
  subst ex
  cases r1 with
  | cons r rr =>
    cases rr
    cases r
    cases r2 with
    | cons r' rr' =>
      cases rr'
      obtain ⟨t, rfl⟩ := r'
      obtain ⟨its, rv, p'⟩ := ArrOf.of I2 hq
      exact enum_begins_start (begins_X tp a its.toArray) p' h0 h1 fun h' he ho hsz hk => enum_it (o := itO tp a) I2 hq q he ho hk
end
/-! as data -/
def enumD (k : Int) : Nat → List D → List D
  | _, [] => []
  | i, d :: r => .tup [.int (k + (i : Nat)), d] :: enumD k (i + 1) r
theorem enumD_len (k : Int) : ∀ (ds : List D) (i : Nat), (enumD k i ds).length = ds.length
  | [], _ => rfl
  | d :: r, i => by show (enumD k (i + 1) r).length + 1 = r.length + 1; rw [enumD_len k r]
theorem enumD_at (k : Int) : ∀ (ds : List D) (i j : Nat) (d : D), ds[j]? = some d → (enumD k i ds)[j]? = some (.tup [.int (k + ((i + j : Nat) : Int)), d])
  | [], _, _, _, e => by simp at e
  | d :: r, i, 0, d', e => by
    have : d = d' := by simpa using e
    subst this; rfl
  | d :: r, i, j + 1, d', e => by
    have := enumD_at k r (i + 1) j d' (by simpa using e)
    show (enumD k (i + 1) r)[j]? = _
    rw [this, show i + 1 + j = i + (j + 1) by omega]
def gEnum (k : Int) : List D → Option (List D)
  | [.lst xs] => some (enumD k 0 xs)
  | [.tup xs] => some (enumD k 0 xs)
  | _ => none
def mEnum (k : Int) (l : Mx (List D)) : Mx (List D) := bnd l fun ds => lift (gEnum k ds)
section
variable {K : PySem.W.Frag}
theorem walk_enumX {tp : Bool} {a : Addr} {k0 : Int} {xs : List V} : Walk (Itc2 K tp a k0) xs.length (fun H => SqX K tp H a xs) (YPair (fun i => some (.int (k0 + (i : Nat)))) (fun i => xs[i]?)) := by
  refine ⟨fun i _ hi q => ⟨xs, xs[i], q, by simp [hi]⟩, fun _ q => ⟨xs, q, rfl⟩, fun i H v H' _ q y => ?_⟩
  obtain ⟨T, x, h1, h2, h3, h4⟩ := y
  exact ⟨T, .int (k0 + (i : Nat)), x, h1, h2, h3, rfl, h4 xs q⟩
theorem good_enum {F : Hp} {tp : Bool} {a : Addr} {k0 : Int} {vs : List V} {ds : List D} (h : Dts K F ds vs) (hs : ∀ H, Ex F H → SqX K tp H a vs) : GoodIt K F (Itc2 K tp a k0) (enumD k0 0 ds) := by
  refine ⟨_, _, (by rw [enumD_len, ← h.len]; exact walk_enumX), hs, fun i F1 H x H' hi e1 e2 y => ?_⟩
  obtain ⟨T, u, w, rfl, hT, rfl, hu, hw⟩ := y
  cases hu
  obtain ⟨d, hd, hdt⟩ := h.at_v hw
  have n := new1 (o := .tup [.int (k0 + (i : Nat)), w]) e2 hT
  refine ⟨.tup [.int (k0 + (i : Nat)), d], _, by rw [enumD_at k0 ds 0 i d hd, Nat.zero_add], n, T, _, rfl, upd_same, .int (k0 + (i : Nat)), [w], rfl, rfl, w, [], rfl, Dt.mono (e1.trans n.f) _ _ hdt, rfl⟩
end
section
variable {c : Ct} {W : WX} {X : Cx} {e : Expr} {p pos tpos : Pos} {elts : List Expr} {kk : Nat} {l : Mx (List D)}
theorem t_enum {k0 : Int} {σ : L2.St} {H : Hp} {R : It → Hp → Prop} (hK : X.K = c.K) (h : IX c W (mEnum k0 l) σ H R) : iEnum2 X.K k0 (TL c W l) σ H R := by
  obtain ⟨yy, F, env, μ, as, r, q⟩ := h
  refine (aft_bind (P := PL c) r q).imp fun vs H1 ⟨ds, F1, μ1, as1, x1, y1, p1, R1, a1⟩ => ?_
  rw [hK]
  cases e : gEnum k0 ds with
  | none => rw [e] at a1; exact a1.elim
  | some zs =>
    rw [e] at a1
    have key : ∀ (d : D) (tp : Bool) (a : Addr) (xs : List D) (ws : List V), zs = enumD k0 0 xs → vs = [.ref a] → SqX c.K tp F1 a ws → Dts c.K F1 xs ws → (∀ H, Ex F1 H → SqX c.K tp H a ws) → ∃ a tp xs, vs = [V.ref a] ∧ SqX c.K tp H1 a xs ∧ R (Itc2 c.K tp a k0) H1 := fun d tp a xs ws ez ev hs hd hx => by
      subst ez
      exact ⟨a, tp, ws, ev, hx H1 R1.ex, a1 _ F1 H1 as1 (Evl.Ex.refl _) (AsLe.refl _) R1 (good_enum hd hx)⟩
    match ds, e, p1 with
    | [.lst xs], e, p1 =>
      cases e
      obtain ⟨v, rfl, a, ws, rfl, h1, h2⟩ := Dts.one_inv p1
      exact key (.lst xs) false a xs ws rfl rfl (SqL.of h1) h2 fun H x => SqL.of (x _ _ h1)
    | [.tup xs], e, p1 =>
      cases e
      obtain ⟨v, rfl, a, ws, rfl, h1, h2⟩ := Dts.one_inv p1
      exact key (.tup xs) true a xs ws rfl rfl (SqT.of h1) h2 fun H x => SqT.of (x _ _ h1)
theorem di_enum1 (hK : X.K = c.K) (hg : Gl X "enumerate") (hm : X.mg "enumerate" = none) (hA : PA X [e] (TL c W l)) (hs : starEach [e] X.env = [(false, eval e X.env)] := by rfl) :
    PI X (.Tuple elts kk tpos) (.Call (.Name "enumerate" p) [e] [] pos) (IX c W (mEnum 0 l)) := impI (pi_enum1 hg hm hA hs) fun _ _ _ h => t_enum hK h
theorem di_enumK {k : Int} {j : Nat} {kp p3 : Pos} (hK : X.K = c.K) (hg : Gl X "enumerate") (hm : X.mg "enumerate" = none) (hA : PA X [e] (TL c W l)) (hk : (decide (-(2 ^ 63) ≤ k) && decide (k < 2 ^ 63)) = true := by decide)
    (he : backTo pos (starEach [e] X.env) = (false, eval e X.env) :: backTo pos (starEach [] X.env) := by rfl) (hpl : (backTo pos (starEach [e] X.env)).any (·.1) = false := by rfl) :
    PI X (.Tuple elts kk tpos) (.Call (.Name "enumerate" p) [e] [⟨some "start", .Constant (.int k) j p3, kp⟩] pos) (IX c W (mEnum k l)) :=
  impI (pi_enumK hg hm hA (of_decide_eq_true (Bool.and_eq_true_iff.mp hk).1) (of_decide_eq_true (Bool.and_eq_true_iff.mp hk).2) he hpl) fun _ _ _ h => t_enum hK h
end
end Sh
namespace Hk
open PySem PySem.Spec PyProof.Rows L2
abbrev Fg := PySem.W.Frag
/-- a def and the way to its object -/
structure Fp where
  way : Fg → Addr
  nm : Str
  ql : Str
  pa : Arguments
  bd : List Stmt
  sc : Scope
  dv : Fg → List V
abbrev Seen := Option (Str × Str × Arguments × FuncBody × Scope × Addr × List (Str × Addr) × Addr)
def seenAt (K : Fg) (a : Addr) : Seen := match K.lookup a with
  | some ⟨_, _, .func z, _⟩ => some (z.name, z.qualname, z.params, z.body, z.scope, z.globals, z.closure, z.builtins)
  | _ => none
def Fp.seen (d : Fp) : Seen := some (d.nm, d.ql, d.pa, .stmts d.bd, d.sc, mainGlobals, [], builtinsNs)
def Fp.fit (K : Fg) (d : Fp) : Bool := (match K.lookup (d.way K) with
  | some ⟨_, _, .func z, _⟩ => PySem.W.codeIn K z.code d.ql && (He.dflB K z.defaults (d.dv K) && He.kwdB K z.kwdefaults [])
  | _ => false) && PySem.W.keepIn K (.ref (d.way K))
theorem Fp.fun_ {K : Fg} {d : Fp} (e : seenAt K (d.way K) = d.seen) (c : d.fit K = true) : ∃ z, FunD K d.nm d.ql d.pa d.bd d.sc (d.dv K) [] (d.way K) z := by
  obtain ⟨c2, kp⟩ := Bool.and_eq_true_iff.mp c
  unfold seenAt at e
  cases q : K.lookup (d.way K) with
  | none => rw [q] at c2; cases c2
  | some o =>
    obtain ⟨o1, o2, o3, o4⟩ := o
    rw [q] at c2 e
    cases o3 with
    | func z =>
      obtain ⟨z1, z2, z3, z4, z5, z6, z7, z8, z9, z10, z11, z12, z13, z14, z15⟩ := z
      have e2 : (some (z1, z2, z3, z4, z5, z6, z7, z15) : Seen) = some (d.nm, d.ql, d.pa, .stmts d.bd, d.sc, mainGlobals, [], builtinsNs) := e
      injection e2 with e3
      simp only [Prod.mk.injEq] at e3
      obtain ⟨rfl, rfl, rfl, rfl, rfl, rfl, rfl, rfl⟩ := e3
      obtain ⟨k1, k2⟩ := Bool.and_eq_true_iff.mp (show (PySem.W.codeIn K z13 d.ql && (He.dflB K z8 (d.dv K) && He.kwdB K z9 [])) = true from c2)
      obtain ⟨k3, k4⟩ := Bool.and_eq_true_iff.mp k2
      exact ⟨_, ⟨o1, o2, z8, z9, z10, z11, z12, z13, z14, o4, rfl, q, k1, He.dflB_ok k3, He.kwdB_ok k4⟩, kp⟩
    | _ => cases c2
abbrev Tell := Bool × List Seen
def tell (ex : Fg → Bool) (fn : List Fp) (K : Fg) : Tell := (ex K && fn.all (Fp.fit K), fn.map fun d => seenAt K (d.way K))
def told (fn : List Fp) : Tell := (true, fn.map Fp.seen)
def Says (ex : Fg → Bool) (fn : List Fp) (K : Fg) : Prop := tell ex fn K = told fn
def tellG (n : Nat) (ex : Fg → Bool) (fn : List Fp) (g : Addr → Option Obj) : Tell := tell ex fn (He.frG g (He.asD g n))
def hook (n : Nat) (ex : Fg → Bool) (fn : List Fp) : PySem.W.Hook where
  α := Tell
  obs := fun s => tellG n ex fn s.heap.get?
  val := fun _ => told fn
  says := fun _ h => ∃ K : Fg, K.In h ∧ Says ex fn K
  of := fun _ _ e => ⟨_, He.frG_in, e⟩
  keeps := fun _ _ _ ⟨K, a, b⟩ k => ⟨K, PySem.W.Frag.In.keeps a k, b⟩
theorem tellG_eq {n : Nat} {ex : Fg → Bool} {fn : List Fp} {g : Addr → Option Obj} {s : Shared} (h : ∀ a, g a = s.heap.get? a) : tellG n ex fn g = (hook n ex fn).obs s := congrArg (tellG n ex fn) (funext h)
section
variable {ex : Fg → Bool} {fn : List Fp} {K : Fg}
theorem Says.more (c : Says ex fn K) : ex K = true := (Bool.and_eq_true_iff.mp (show (ex K && fn.all (Fp.fit K)) = true from congrArg Prod.fst c)).1
theorem Says.def_ (c : Says ex fn K) (i : Nat) {d : Fp} (h : fn[i]? = some d := by rfl) : ∃ z, FunD K d.nm d.ql d.pa d.bd d.sc (d.dv K) [] (d.way K) z := by
  have c2 := (Bool.and_eq_true_iff.mp (show (ex K && fn.all (Fp.fit K)) = true from congrArg Prod.fst c)).2
  have e : (fn.map fun d => seenAt K (d.way K))[i]? = (fn.map Fp.seen)[i]? := congrArg (fun z : Tell => z.2[i]?) c
  rw [List.getElem?_map, List.getElem?_map, h] at e
  exact Fp.fun_ (Option.some.inj e) (List.all_eq_true.mp c2 d (List.mem_of_getElem? h))
end
/-- all of them, by place -/
def allB (fs : List He.Fa) (K : Fg) : Bool := fs.all fun f => f.ok K
theorem allB_at {fs : List He.Fa} {K : Fg} (h : allB fs K = true) (i : Nat) {f : He.Fa} (e : fs[i]? = some f := by rfl) : f.ok K = true := List.all_eq_true.mp h f (List.mem_of_getElem? e)
/-! ### properties -/
/-- the getter of the property f of the class c -/
def getAt (c f : Str) (K : Fg) : Addr := match PySem.W.recIn K (He.ma K (He.ga K c) f) "property" with
  | some (.ref g :: _) => g
  | _ => 0
def propB (c f : Str) (K : Fg) : Bool := He.eqO (PySem.W.findIn K (.ref (He.ga K c)) f) (some (some (.ref (He.ma K (He.ga K c) f)))) &&
  (He.eqO (PySem.W.specialIn K (.ref (He.ma K (He.ga K c) f)) "__get__") (some (some (.builtin "property.__get__"))) && (decide (PySem.W.takesIn K (.ref (He.ma K (He.ga K c) f)) = some true) &&
  (match PySem.W.recIn K (He.ma K (He.ga K c) f) "property" with
  | some (.ref _ :: _) => true
  | _ => false)))
theorem propB_ok {c f : Str} {K : Fg} (h : propB c f K = true) : PropOf K (He.ga K c) f (He.ma K (He.ga K c) f) (getAt c f K) := by
  obtain ⟨h1, h⟩ := Bool.and_eq_true_iff.mp h
  obtain ⟨h2, h⟩ := Bool.and_eq_true_iff.mp h
  obtain ⟨h3, h4⟩ := Bool.and_eq_true_iff.mp h
  refine ⟨He.eqO_ok h1, He.eqO_ok h2, of_decide_eq_true h3, ?_⟩
  unfold getAt
  split at h4
  · rename_i g r e
    rw [e]
    exact ⟨r, rfl⟩
  · cases h4
end Hk
namespace Sh
open PySem PySem.Spec PyProof.Rows L2
variable [Wd]
/-! ### instances of one's own classes -/
def putD (f : Str) (d : D) : List (Str × D) → List (Str × D)
  | [] => [(f, d)]
  | (g, x) :: r => if g = f then (g, d) :: r else (g, x) :: putD f d r
section
variable {K : PySem.W.Frag} {F : Hp}
theorem Dtf.put : ∀ {fs : List (Str × D)} {vs : List (Str × V)} {f : Str} {d : D} {v : V}, Dtf K F fs vs → Dt K F d v → Dtf K F (putD f d fs) (putF f v vs)
  | [], _, f, d, v, h, g => by
    rw [show _ = ([] : List (Str × V)) from h]
    exact ⟨v, [], rfl, g, rfl⟩
  | (k, d0) :: r, _, f, d, v, ⟨x, t, e, h1, h2⟩, g => by
    subst e
    unfold putD putF
    by_cases q : k = f
    · rw [if_pos q, if_pos q]; exact ⟨v, t, rfl, g, h2⟩
    · rw [if_neg q, if_neg q]; exact ⟨x, _, rfl, h1, Dtf.put h2 g⟩
theorem Dtf.len : ∀ {fs : List (Str × D)} {vs : List (Str × V)}, Dtf K F fs vs → vs.length = fs.length
  | [], _, h => by rw [show _ = ([] : List (Str × V)) from h]; rfl
  | (k, d0) :: r, _, ⟨x, t, e, h1, h2⟩ => by subst e; rw [List.length_cons, List.length_cons, Dtf.len h2]
theorem Dtf.look : ∀ {fs : List (Str × D)} {vs : List (Str × V)} {f : Str} {d : D}, Dtf K F fs vs → fs.lookup f = some d → ∃ v, vs.lookup f = some v ∧ Dt K F d v
  | [], _, _, _, _, e => by cases e
  | (k, d0) :: r, _, f, d, ⟨x, t, e, h1, h2⟩, g => by
    subst e
    unfold List.lookup at g ⊢
    cases q : f == k with
    | true => rw [q] at g; cases g; exact ⟨x, rfl, h1⟩
    | false => rw [q] at g; exact Dtf.look h2 g
theorem noMf_put : ∀ {fs : List (Str × D)} {f : Str} {d : D}, noMf fs = true → noM d = true → noMf (putD f d fs) = true
  | [], f, d, _, g => Bool.and_eq_true_iff.mpr ⟨g, rfl⟩
  | (k, d0) :: r, f, d, h, g => by
    obtain ⟨h1, h2⟩ := Bool.and_eq_true_iff.mp (show (noM d0 && noMf r) = true from h)
    unfold putD
    by_cases q : k = f
    · rw [if_pos q]; exact Bool.and_eq_true_iff.mpr ⟨g, h2⟩
    · rw [if_neg q]; exact Bool.and_eq_true_iff.mpr ⟨h1, noMf_put h2 g⟩
end
/-- the class x has plain attributes; f is none of its own names -/
structure ClsF (K : PySem.W.Frag) (x f : Str) : Prop where
  cls : Cls K (He.ga K x)
  no : NoAttr K (He.ga K x) f
section
variable {c : Ct} {W : WX} {X : Cx} {k k2 i np : Nat} {pos p pos' : Pos} {st : Stmt} {e : Expr} {es : List Expr} {x f : Str} {g : Sg} {fm : Fm} {l : Mx (List D)} {em : Em}
def obI (x : Str) : Option Ob → Option (List (Str × D))
  | some (.ins c fs) => if c = x then some fs else none
  | _ => none
theorem obI_eq {x : Str} {o : Option Ob} {fs : List (Str × D)} (h : obI x o = some fs) : o = some (.ins x fs) := by
  unfold obI at h
  split at h
  · split at h
    · rename_i e; cases h; rw [e]
    · cases h
  · cases h
/-- o.f = e, o one's own -/
def sFldS (x : Str) (k : Nat) (f : Str) (em : Em) : Sm := sBnd em fun d env μ => match obI x μ[k]? with
  | none => none
  | some fs => if (noM d && decide (fs.length < 1000)) = true then some (.nx env (μ.set k (.ins x (putD f d fs)))) else none
theorem ds_fld (hK : X.K = c.K) (hsl : c.sl[k]? = some (some i)) (C : ClsF X.K x f) (h : PS X st (sFld X.K (tVar i) (T c W em) f)) : PS X st (SX c W (sFldS x k f em)) := impS h fun De σ H ⟨yy, F, env, μ, as, R, q⟩ => by
  refine (saft_bind (P := PD c) R q).imp fun v H1 ⟨d, F1, μ1, as1, x1, y1, p1, R1, a1⟩ => ?_
  cases e1 : obI x μ1[k]? with
  | none => simp only [e1] at a1; exact a1.elim
  | some fs =>
    simp only [e1] at a1
    by_cases hc : (noM d && decide (fs.length < 1000)) = true
    · rw [if_pos hc] at a1
      obtain ⟨c1, c2⟩ := Bool.and_eq_true_iff.mp hc
      obtain ⟨a, g1, ⟨n, dx, fvs, g2, g3⟩, g4⟩ := R1.own k _ (obI_eq e1) trivial
      rw [hK] at C ⊢
      refine ⟨.ref a, g4 i hsl, a, _, dx, fvs, rfl, g2, C.cls, C.no, by rw [g3.len]; exact of_decide_eq_true c2, ?_⟩
      exact a1 σ F1 _ as1 (Evl.Ex.refl _) (R1.write g1 (obI_eq e1) trivial ⟨by simp, by intro xs h; cases h⟩ ⟨noMf_put n c1, dx, _, upd_same, g3.put p1⟩)
    · rw [if_neg hc] at a1; exact a1.elim
/-- e.f, an attribute | a property that reads one -/
def fldD (x f : Str) : D → Option D
  | .ins c fs => if c = x then fs.lookup f else none
  | _ => none
theorem fldD_eq {x f : Str} {d z : D} (h : fldD x f d = some z) : ∃ fs, d = .ins x fs ∧ fs.lookup f = some z := by
  cases d with
  | ins c fs =>
    have h : (if c = x then fs.lookup f else none) = some z := h
    split at h
    · rename_i e; exact ⟨fs, by rw [e], h⟩
    · cases h
  | _ => cases h
def mFld (x f : Str) (em : Em) : Em := bnd em fun d => lift (fldD x f d)
theorem t_fld {σ : L2.St} {H : Hp} {Q : VK} (h : T c W (mFld x f em) σ H Q) : T c W em σ H (fun v H1 => ∃ a dx fvs w, v = .ref a ∧ H1 a = some (.ins (He.ga c.K x) dx fvs) ∧ fvs.lookup f = some w ∧ Q w H1) := by
  obtain ⟨yy, F, env, μ, as, R, q⟩ := h
  refine (aft_bind (P := PD c) R q).imp fun v H1 ⟨d, F1, μ1, as1, x1, y1, p1, R1, a1⟩ => ?_
  obtain ⟨z, ez, kk⟩ := aft_lift R1 a1
  obtain ⟨fs, rfl, hl⟩ := fldD_eq ez
  obtain ⟨a, dx, fvs, rfl, h1, h2⟩ := p1
  obtain ⟨w, hw, hd⟩ := h2.look hl
  exact ⟨a, dx, fvs, w, rfl, R1.ex _ _ h1, hw, kk w F1 H1 (New.refl R1.ex) hd⟩
theorem TX.map {α β : Type} {P : Pr α β} {m : Mx α} {σ : L2.St} {H : Hp} {Q Q' : β → Hp → Prop} (h : TX P c W m σ H Q) (q : ∀ v H, Q v H → Q' v H) : TX P c W m σ H Q' := h.imp q
theorem de_fld (hK : X.K = c.K) (C : ClsF X.K x f) (ha : PE X e (T c W em)) (hb : attributeBase e f X.env (eval e X.env) = eval e X.env := by rfl) : PE X (.Attribute e f pos) (T c W (mFld x f em)) :=
  impE (pe_fld ha hb) fun σ H Q h => (t_fld h).imp fun v H1 ⟨a, dx, fvs, w, h1, h2, h3, h4⟩ => ⟨a, _, dx, fvs, w, h1, by rw [h2], by rw [← hK]; exact C.cls, by rw [← hK]; exact C.no, h3, h4⟩
/-- the property y of the class x reads f -/
def PropD (P : Program) (w : World) (K : PySem.W.Frag) (mg : Str → Option Value) (base : Heap) (x y f : Str) : Prop :=
  Cls K (He.ga K x) ∧ ∃ p g fd, PropOf K (He.ga K x) y p g ∧ FnOk P w K mg base CX0 1 g fd ["self"] (getSp (He.ga K x) f) ∧ Binds K fd ["self"] []
theorem de_prop {y : Str} (B : Bd X c k) (D : PropD X.prog X.w X.K X.mg X.base x y f) (hk : 2 ≤ k) (ha : PE X e (T c W em)) (hab : attributeBase e y X.env (eval e X.env) = eval e X.env := by rfl) : PE X (.Attribute e y pos) (T c W (mFld x f em)) := by
  obtain ⟨C, p, g, fd, h1, h2, h3⟩ := D
  exact impE (pe_prop (E := fun _ _ _ => False) ha C h1 h2 (B.room.mono hk) h3 .nil (fun _ _ _ _ _ _ _ h => h.elim) hab) fun σ H Q h => (t_fld h).imp fun v H1 ⟨a, dx, fvs, w, q1, q2, q3, q4⟩ => ⟨a, dx, fvs, q1, by rw [q2, B.K], a, dx, fvs, w, rfl, by rw [q2, B.K], q3, q4⟩
/-- a getter's text: return self.f -/
theorem prop_of {P : Program} {w : World} {K : PySem.W.Frag} {mg : Str → Option Value} {base : Heap} {y nm qual : Str} {pa : Arguments} {bd : List Stmt} {sc : Scope} {pr gt : Addr} {fd : FuncData} {N : List Str} {p1 p2 p3 : Pos} (C : ClsF K x f) (hp : PropOf K (He.ga K x) y pr gt)
    (F : FunD K nm qual pa bd sc [] [] gt fd) (S : FnScope N ["self"] sc) (hN : N[0]? = some ("self" : Str)) (hb : bd = [.Return (some (.Attribute (.Name "self" p1) f p2)) p3]) (hbn : Binds K fd ["self"] []) : PropD P w K mg base x y f := by
  obtain ⟨oc, od, dV, kV, doc, pm, an, cdv, ct, osl, efd, lk, hcd, _, _⟩ := F.ex
  subst efd
  exact ⟨C.cls, pr, gt, _, hp, fn_getter lk hcd S hN hb C.cls C.no, hbn⟩
/-! ### making one -/
def gIni (G : List (Addr × List V)) : Sg := ⟨[none, some 0], [1], G⟩
/-- the class x is made by fm, which sets the attributes -/
def MkD (P : Program) (w : World) (K : PySem.W.Frag) (mg : Str → Option Value) (base : Heap) (x : Str) (k np : Nat) (G : List (Addr × List V)) (fm : Fm) : Prop :=
  ∃ f fd ps, mg x = some (.ref (He.ga K x)) ∧ Mk K (He.ga K x) f ∧ Binds K fd ps [] ∧ FnOk P w K mg base CX0 k f fd ps (FSp0 K (gIni G) fm np)
def made (x : Str) : Option (Res D) → Option D
  | some (.ok .non [_, .ins c fs]) => if c = x then some (.ins x fs) else none
  | _ => none
theorem made_eq {x : Str} {r : Option (Res D)} {d : D} (h : made x r = some d) : ∃ o fs, r = some (.ok .non [o, .ins x fs]) ∧ d = .ins x fs := by
  unfold made at h
  split at h
  · split at h
    · rename_i e; cases h; exact ⟨_, _, by rw [e], rfl⟩
    · cases h
  · cases h
def mMake (x : Str) (np : Nat) (fm : Fm) (l : Mx (List D)) : Em := bnd l fun ds => lift (if (decide (ds.length + 1 = np)) = true then made x (fm (none :: ds.map some) [.hid, .ins x []]) else none)
theorem de_make (B : Bd X c k) (M : MkD X.prog X.w X.K X.mg X.base x k2 np c.G fm) (hk : k2 + 1 ≤ k) (hg : Gl X x) (ha : PA X (e :: es) (TL c W l)) (hdb : (x == ("__debug__" : Str)) = false := by decide) (he : starEach (e :: es) X.env = (false, eval e X.env) :: starEach es X.env := by rfl)
    (hpl : (backTo pos (starEach es X.env)).any (·.1) = false := by rfl) : PE X (.Call (.Name x p) (e :: es) [] pos) (T c W (mMake x np fm l)) := by
  obtain ⟨f, fd, ps, h1, h2, h3, h4⟩ := M
  refine impE (pe_make (E := fun _ _ _ => False) h2 h4 (B.room.mono hk) hg h1 h3 .nil (fun _ _ _ _ _ _ _ h => h.elim) ha hdb he hpl) fun σ H Q ⟨yy, F, env, μ, as, R, q⟩ => ?_
  refine (aft_bind (P := PL c) R q).imp fun vs H1 ⟨ds, F1, μ1, as1, x1, y1, p1, R1, a1⟩ => ?_
  obtain ⟨z, ez, kk⟩ := aft_lift R1 a1
  by_cases hl : (decide (ds.length + 1 = np)) = true
  · rw [if_pos hl] at ez
    obtain ⟨o, fs, er, rfl⟩ := made_eq ez
    intro a dx ha hdx hne
    rw [List.append_nil]
    have fa : F1 a = none := by
      cases q : F1 a with
      | none => rfl
      | some u => rw [R1.ex a u q] at ha; cases ha
    have fdx : F1 dx = none := by
      cases q : F1 dx with
      | none => rfl
      | some u => rw [R1.ex dx u q] at hdx; cases hdx
    have e2 : Ex H1 (upd (upd H1 dx (.own a)) a (.ins (He.ga X.K x) dx [])) := fun b u h => by
      rw [upd_ne (fun z => by rw [z, ha] at h; cases h), upd_ne (fun z => by rw [z, hdx] at h; cases h)]; exact h
    refine ⟨by rw [List.length_cons, p1.len]; exact of_decide_eq_true hl, F1, none :: ds.map some, [.hid, .ins x []], [none, some a], ?_, ?_⟩
    · refine ⟨R1.ex.trans e2, by rw [List.length_cons, List.length_cons, List.length_map, p1.len], fun i d h => ?_, rfl, fun j l b g1 g2 => ?_, fun j b g1 => ?_, fun j o h n => ?_, fun j b g1 => ?_, fun p hp => ?_⟩
      · cases i with
        | zero => cases h
        | succ i =>
          rw [List.getElem?_cons_succ] at h
          rw [List.getElem?_map] at h
          obtain ⟨d', hd, e⟩ := Option.map_eq_some_iff.mp h
          cases e
          obtain ⟨v, hv, hdt⟩ := p1.at hd
          exact ⟨v, by rw [List.getElem?_cons_succ]; exact hv, by rw [B.K]; exact hdt⟩
      · match j, l, g1, g2 with
        | 1, 1, _, _ => rfl
      · match j, g1 with
        | 1, g1 => cases g1; exact ⟨fa, by rw [upd_same]; exact ⟨by simp, by intro xs h; cases h⟩⟩
      · match j, h with
        | 0, h => cases h; exact n.elim
        | 1, h =>
          cases h
          exact ⟨a, rfl, ⟨rfl, dx, [], upd_same, rfl⟩, fun i hi => by cases hi; rfl⟩
      · match j, g1 with
        | 1, g1 => exact List.mem_singleton.mpr rfl
      · exact R1.gl p hp
    · rw [er]
      intro v F' H' r hv
      refine ⟨hv, ?_⟩
      obtain ⟨b, g1, g2⟩ := r.own 1 _ (List.mem_singleton.mpr rfl) rfl trivial
      cases g1
      obtain ⟨n, dx', fvs, g3, g4⟩ := g2
      obtain ⟨fa', _⟩ := r.out 1 a rfl
      have ef : Ex F' (upd F' a (.ins (He.ga X.K x) dx' fvs)) := Evl.Ex.new fa'
      refine kk _ (upd F' a (.ins (He.ga X.K x) dx' fvs)) H' ⟨r.f.trans ef, fun b u h => ?_, fun b u h => ?_, fun b h => ?_⟩ ⟨a, dx', fvs, rfl, by rw [← B.K]; exact upd_same, Dtf.mono ef _ _ (by rw [← B.K]; exact g4)⟩
      · refine r.fr b u (e2 b u h) fun hm => ?_
        have hb : b = a := by
          rcases List.mem_cons.mp hm with z | z
          · cases z
          · have := List.mem_singleton.mp z
            exact Option.some.inj this
        rw [hb, ha] at h; cases h
      · by_cases hb : b = a
        · subst hb; rw [upd_same] at h; cases h; exact g3
        · rw [upd_ne hb] at h; exact r.ex b u h
      · by_cases hb : b = a
        · subst hb; exact .inr (.inl ha)
        · rw [upd_ne hb] at h
          rcases r.nw b h with z | z | ⟨xs, z⟩
          · exact .inl z
          · refine .inr (.inl ?_)
            cases q : H1 b with
            | none => rfl
            | some u => rw [e2 b u q] at z; cases z
          · rw [upd_ne hb] at z
            by_cases hb2 : b = dx
            · subst hb2; rw [upd_same] at z; cases z
            · rw [upd_ne hb2] at z; exact .inr (.inr ⟨xs, z⟩)
  · rw [if_neg hl] at ez; cases ez
end
section
variable {P : Program} {w : World} {K : PySem.W.Frag} {mg : Str → Option Value} {base : Heap} {x qual nm : Str} {pa : Arguments} {bd : List Stmt} {sc : Scope} {f : Addr} {fd : FuncData} {N ps : List Str} {k : Nat} {G : List (Addr × List V)} {body : Sm}
theorem fn_MkD (hm : mg x = some (.ref (He.ga K x))) (M : Mk K (He.ga K x) f) (F : FunD K nm qual pa bd sc [] [] f fd) (S : FnScope N ps sc) (hb : Binds K fd ps []) (hN : ps.length ≤ N.length)
    (hw : w = Wd.w)
    (hbd : ∀ (cdv : Value) (A : Around) (outer : List PySem.Env) (s : Shared) (H : Hp) (E : XK), Bd (XD P w K mg base N qual sc f cdv A outer s H E) ((gIni G).c K) k → PSs (XD P w K mg base N qual sc f cdv A outer s H E) bd (SX ((gIni G).c K) W0 body)) :
    MkD P w K mg base x (k + 1) ps.length G (fnG (gIni G) N.length body) :=
  ⟨f, fd, ps, hm, M, hb, F.ok S (fun vs H Q E h => h.1) fun cdv A outer s H vs Q E hr h => ⟨_, PSs.nox (hbd cdv A outer s H E ⟨rfl, hr, rfl, hw⟩), fsp_body (X := XD P w K mg base N qual sc f cdv A outer s H E) (E := fun _ _ _ => False) rfl hN rfl (fun _ _ _ _ z => z) h.1 h.2⟩⟩
end
end Sh
namespace Sh
open PySem PySem.Spec PyProof.Rows L2
variable [Wd]
/-! ### comprehensions of two fors -/
/-- one turn -/
def lcT (A : Am) (p : Mx Bool) (f : Em) (env : Env) (d : D) (acc : List D) (μ : Mu) : Option (List D × Mu) := match A d env with
  | none => none
  | some env' => match p env' μ with
    | some (.ok true μ1) => (match f env' μ1 with
      | some (.ok x μ2) => if decide (acc.length < 100000) = true then some (acc ++ [x], μ2) else none
      | _ => none)
    | some (.ok false μ1) => some (acc, μ1)
    | _ => none
theorem lcS_cons (A : Am) (p : Mx Bool) (f : Em) (env : Env) (d : D) (r acc : List D) (μ : Mu) : lcS A p f env (d :: r) acc μ = (lcT A p f env d acc μ).bind fun q => lcS A p f env r q.1 q.2 := by
  unfold lcT
  show (match A d env with | none => none | some env' => _) = _
  cases A d env with
  | none => rfl
  | some env' =>
    simp only
    cases p env' μ with
    | none => rfl
    | some z =>
      cases z with
      | err _ _ _ => rfl
      | ok b m =>
        cases b with
        | false => rfl
        | true =>
          simp only
          cases f env' m with
          | none => rfl
          | some z =>
            cases z with
            | err _ _ _ => rfl
            | ok x m2 =>
              simp only
              by_cases h : decide (acc.length < 100000) = true
              · rw [if_pos h, if_pos h]; rfl
              · rw [if_neg h, if_neg h]; rfl
section
variable {c : Ct} {F F1 F3 H H1 : Hp} {σ : L2.St} {env : Env} {μ μ1 μ2 : Mu} {as as1 as2 : List (Option Addr)} {yy : Dy} {A : Am} {p : Mx Bool} {f : Em} {ss vs : List Nat} {Dl : Addr}
/-- the list on its way, the slots as ahead of the turn -/
def LSt (c : Ct) (yy : Dy) (σ : L2.St) (env : Env) (vs : List Nat) (Dl : Addr) (F H : Hp) (μ : Mu) (as : List (Option Addr)) (acc : List D) : Prop :=
  ∃ ws, Rel (c.w yy) F H (L2.wipe σ vs) (wipeE env vs) μ as ∧ Free F as yy Dl ∧ H Dl = some (.lst ws) ∧ Dts c.K F acc ws
theorem LSt.new {F' H' : Hp} {acc : List D} (s : LSt c yy σ env vs Dl F H μ as acc) (n : New F H F' H') : LSt c yy σ env vs Dl F' H' μ as acc := by
  obtain ⟨ws, R, fr, hD, ha⟩ := s
  refine ⟨ws, R.new n, ⟨?_, fr.2⟩, n.h _ _ hD, Dts.mono n.f _ _ ha⟩
  cases q : F' Dl with
  | none => rfl
  | some u =>
    rcases n.nw Dl (by rw [q]; simp) with z | z | ⟨xs, z⟩
    · exact (z fr.1).elim
    · rw [hD] at z; cases z
    · rw [hD] at z; cases z
theorem lc_turn {acc acc' : List D} {μ' : Mu} {d : D} {x : V} {Pv : Hp → Prop} (hv : ∀ v ∈ vs, noSlot c.sl v) (hss : ∀ j ∈ ss, j ∈ vs) (R1 : Rel (c.w yy) F1 H1 σ env μ1 as1) (e1 : Ex F1 F3)
    (s : LSt c yy σ env vs Dl F3 H μ2 as2 acc) (hdt : Dt c.K F3 d x) (ht : lcT A p f (wipeE env vs) d acc μ2 = some (acc', μ')) (q : ∀ F' H' as', Ex F3 F' → AsLe as2 as' → LSt c yy σ env vs Dl F' H' μ' as' acc' → Pv H') :
    AX c A ss x (L2.wipe σ vs) H fun σ2 H2 => L2.wipe σ2 vs = L2.wipe σ vs ∧ TB c W0 p σ2 H2 fun b H3 =>
      if b = true then T c W0 f σ2 H3 fun y H4 => ∃ acc, H4 Dl = some (.lst acc) ∧ acc.length < sizeLine ∧ Pv (upd H4 Dl (.lst (acc ++ [y]))) else Pv H3 := by
  obtain ⟨ws, R3, f3, hD3, hacc⟩ := s
  have R4 := R3.guard f3 hD3
  unfold lcT at ht
  cases e0 : A d (wipeE env vs) with
  | none => rw [e0] at ht; cases ht
  | some env3 =>
    simp only [e0] at ht
    refine ⟨_, F3, wipeE env vs, μ2, as2, d, env3, R4, hdt, e0, fun σ2 sl R5 => ⟨wipe_eq sl hss, ?_⟩⟩
    refine ⟨_, F3, env3, μ2, as2, R5, ?_⟩
    cases e4 : p env3 μ2 with
    | none => simp only [e4] at ht; cases ht
    | some z =>
      simp only [e4] at ht
      cases z with
      | err y fs m => cases ht
      | ok b m =>
        intro b' F5 H5 as5 x5 y5 R6 eb
        subst eb
        have back : ∀ {F6 H6 : Hp} {m6 : Mu} {as6 : List (Option Addr)}, Ex F3 F6 → Rel (c.w (yy.gd F3 Dl (.lst ws))) F6 H6 σ2 env3 m6 as6 → H6 Dl = some (.lst ws) ∧ Free F6 as6 yy Dl ∧ Rel (c.w yy) F6 H6 (L2.wipe σ vs) (wipeE env vs) m6 as6 := fun {F6 H6 m6 as6} e6 R => by
          obtain ⟨g1, g2, g3⟩ := R3.unguard f3 (fun xs z => by cases z) R e6
          refine ⟨g1, g2, R3.unwipe (vs := vs) (env2 := wipeE env3 vs) e6 ?_⟩
          have e := wipe_eq sl hss
          have := g3.wipe (vs := vs) hv
          rw [e] at this
          have w2 : L2.wipe (L2.wipe σ vs) vs = L2.wipe σ vs := wipe_eq ⟨rfl, fun _ _ => rfl⟩ hss
          rw [w2]
          exact this
        cases b' with
        | false =>
          rw [if_neg Bool.false_ne_true]
          cases ht
          obtain ⟨g1, g2, g3⟩ := back x5 R6
          exact q F5 H5 as5 x5 y5 ⟨ws, g3, g2, g1, Dts.mono x5 _ _ hacc⟩
        | true =>
          rw [if_pos rfl]
          simp only at ht
          refine ⟨_, F5, env3, m, as5, R6, ?_⟩
          cases e6 : f env3 m with
          | none => simp only [e6] at ht; cases ht
          | some z =>
            simp only [e6] at ht
            cases z with
            | err y fs m => cases ht
            | ok xd m2 =>
              intro v F7 H7 as7 x7 y7 R8 pv
              simp only at ht
              by_cases hc : decide (acc.length < 100000) = true
              · rw [if_pos hc] at ht
                cases ht
                obtain ⟨g1, g2, g3⟩ := back (x5.trans x7) R8
                refine ⟨ws, g1, by rw [hacc.len]; exact Evl.sz_lt (of_decide_eq_true hc), ?_⟩
                exact q F7 _ as7 (x5.trans x7) (y5.trans y7) ⟨ws ++ [v], g3.lay g2 (.inr (by rw [g1]; exact ⟨by simp, by intro xs h; cases h⟩)), g2, upd_same, Dts.app (Dts.mono (x5.trans x7) _ _ hacc) (Dts.one pv)⟩
              · rw [if_neg hc] at ht; cases ht
/-- the made list is data -/
theorem LSt.done {acc : List D} (R1 : Rel (c.w yy) F1 H1 σ env μ1 as1) (e2 : Ex F1 F) (s : LSt c yy σ env vs Dl F H μ as acc) : ∃ F', Ex F F' ∧ Rel (c.w yy) F' H σ env μ as ∧ Dt c.K F' (.lst acc) (.ref Dl) := by
  obtain ⟨ws, R2, f2, hD2, hacc⟩ := s
  have R3 := R1.unwipe (vs := vs) e2 R2
  have hf : Ex F (upd F Dl (.lst ws)) := Evl.Ex.new f2.1
  refine ⟨upd F Dl (.lst ws), hf, ?_, Dl, ws, rfl, upd_same, Dts.mono hf _ _ hacc⟩
  refine ⟨fun b u h => ?_, R3.sz, fun i d h => ?_, R3.la, R3.inj, fun k a h => ?_, fun k o h nh => ?_, R3.base, R3.par, R3.pin, fun b h => ?_, fun p hp => hf _ _ (R3.gl p hp)⟩
  · by_cases hb : b = Dl
    · subst hb; rw [upd_same] at h; cases h; exact hD2
    · rw [upd_ne hb] at h; exact R3.ex b u h
  · obtain ⟨v, h1, h2⟩ := R3.rd i d h
    exact ⟨v, h1, Dt.mono hf _ _ h2⟩
  · obtain ⟨h1, h2, h3⟩ := R3.out k a h
    have hb : a ≠ Dl := fun z => f2.2.1 k (by rw [← z]; exact h)
    exact ⟨by rw [upd_ne hb]; exact h1, h2, h3⟩
  · obtain ⟨a, h1, h2, h3⟩ := R3.own k o h nh
    exact ⟨a, h1, h2.grow hf (Evl.Ex.refl _), h3⟩
  · by_cases hb : b = Dl
    · subst hb; exact .inr (.inl f2.2.2)
    · rw [upd_ne hb] at h; exact R3.nw b h
end
/-- a walk within a walk -/
theorem lc_in {J : It} {n : Nat} {G : Hp → Prop} {Y : Nat → Hp → V → Hp → Prop} (w : Walk J n G Y) {g : TG} {tt : TT} {te : TE} {vs : List Nat} {σ : L2.St} {H1 : Hp} {Dl : Addr} {Nx : Hp → Prop} (Pv : Nat → Hp → Prop) (h0 : Pv 0 H1) (hG : ∀ i H, i ≤ n → Pv i H → G H)
    (hs : ∀ i x H H', i < n → Pv i H → Y i H x H' → g x (L2.wipe σ vs) H' fun σ2 H2 => L2.wipe σ2 vs = L2.wipe σ vs ∧ tt σ2 H2 fun b H3 =>
      if b = true then te σ2 H3 fun y H4 => ∃ acc, H4 Dl = some (.lst acc) ∧ acc.length < sizeLine ∧ Pv (i + 1) (upd H4 Dl (.lst (acc ++ [y]))) else Pv (i + 1) H3) (hd : ∀ H, Pv n H → Nx H) :
    ∃ W1 : Nat → Nat → Hp → Prop, (∃ m, W1 0 m H1) ∧ ∀ j k H, W1 j k H → (J.stop j H ∧ Nx H) ∨ (J.go j H ∧ ∃ Nx1 : Hp → Prop, (∀ H', Nx1 H' → ∃ k', k' < k ∧ W1 (j + 1) k' H') ∧ ∀ x H', J.yld j H x H' → g x (L2.wipe σ vs) H' fun σ3 H5 => L2.wipe σ3 vs = L2.wipe σ vs ∧ tt σ3 H5 fun b H6 =>
      if b = true then te σ3 H6 fun y H7 => ∃ acc, H7 Dl = some (.lst acc) ∧ acc.length < sizeLine ∧ Nx1 (upd H7 Dl (.lst (acc ++ [y]))) else Nx1 H6) := by
  refine ⟨fun i m H => m = n - i ∧ i ≤ n ∧ Pv i H, ⟨n, by simp, Nat.zero_le _, h0⟩, ?_⟩
  rintro i m H ⟨rfl, hi, p⟩
  have q := hG i H hi p
  by_cases hlt : i < n
  · exact .inr ⟨w.goes i H hlt q, Pv (i + 1), fun H' p' => ⟨n - (i + 1), by omega, rfl, hlt, p'⟩, fun x H' y => hs i x H H' hlt p (w.yields i H x H' hlt q y)⟩
  · obtain rfl : i = n := by omega
    exact .inl ⟨w.stops H q, hd H p⟩
/-- the turns of the outer walk -/
def lc2S (A : Am) (p : Mx Bool) (it1 : Mx (List D)) (vs1 : List Nat) (A1 : Am) (p1 : Mx Bool) (f : Em) (env : Env) : List D → List D → Mu → Option (List D × Mu)
  | [], acc, μ => some (acc, μ)
  | d :: r, acc, μ => match A d env with
    | none => none
    | some env' => match p env' μ with
      | some (.ok true μ1) => (match it1 env' μ1 with
        | some (.ok ds1 μ2) => (lcS A1 p1 f (wipeE env' vs1) ds1 acc μ2).bind fun q => lc2S A p it1 vs1 A1 p1 f env r q.1 q.2
        | _ => none)
      | some (.ok false μ1) => lc2S A p it1 vs1 A1 p1 f env r acc μ1
      | _ => none
def mLc2 (vs : List Nat) (it : Mx (List D)) (A : Am) (p : Mx Bool) (it1 : Mx (List D)) (vs1 : List Nat) (A1 : Am) (p1 : Mx Bool) (f : Em) : Em := bnd it fun ds env μ => match lc2S A p it1 vs1 A1 p1 f (wipeE env vs) ds [] μ with
  | none => none
  | some (acc, μ') => some (.ok (.lst acc) μ')
section
variable {c : Ct} {W : WX} {σ : L2.St} {H : Hp} {it it1 : Mx (List D)} {A A1 : Am} {p p1 : Mx Bool} {f : Em} {ss ss1 vs vs1 : List Nat} {X : Cx} {pos : Pos} {tg iter elt tg1 iter1 : Expr} {ifs ifs1 : List Expr}
theorem t_lc2 {Q : VK} (hv : ∀ v ∈ vs, noSlot c.sl v) (hss : ∀ j ∈ ss, j ∈ vs) (hv1 : ∀ v ∈ vs1, noSlot c.sl v) (hss1 : ∀ j ∈ ss1, j ∈ vs1) (h11 : ∀ v ∈ vs1, v ∈ vs) (h : T c W (mLc2 vs it A p it1 vs1 A1 p1 f) σ H Q) :
    tLc2 (IX c W it) (AX c A ss) (TB c W0 p) (IX c W0 it1) (AX c A1 ss1) (TB c W0 p1) (T c W0 f) vs vs1 σ H Q := by
  obtain ⟨yy, F, env, μ, as, R, q⟩ := h
  refine (aft_bind (P := PI' c) R q).imp fun J H1 ⟨ds, F1, μ1, as1, x1, y1, pJ, R1, a1⟩ => ?_
  intro Dl hD
  obtain ⟨G, Y, w, hG, hY⟩ := pJ
  have fr := R1.fresh hD
  -- the state between the turns
  let Pv : Nat → Hp → Prop := fun i H => ∃ F2 μ2 as2 acc, Ex F1 F2 ∧ AsLe as1 as2 ∧ LSt c yy σ env vs Dl F2 H μ2 as2 acc ∧
      Aft (PD c) (c.w yy) W F1 σ env as1 (match lc2S A p it1 vs1 A1 p1 f (wipeE env vs) (ds.drop i) acc μ2 with
        | none => none
        | some (acc, μ') => some (.ok (.lst acc) μ')) Q
  have start : Pv 0 (upd H1 Dl (.lst [])) := ⟨F1, μ1, as1, [], Evl.Ex.refl _, AsLe.refl _, ⟨[], (R1.wipe (vs := vs) hv).lay (ho := .lst []) fr (.inl hD), fr, upd_same, rfl⟩, a1⟩
  refine ⟨fun i m H => m = ds.length - i ∧ i ≤ ds.length ∧ Pv i H, ⟨ds.length, by simp, Nat.zero_le _, start⟩, ?_⟩
  rintro i m H ⟨rfl, hi, F2, μ2, as2, acc, e2, l2, s2, a2⟩
  obtain ⟨ws, R2, f2, hD2, hacc⟩ := id s2
  have gH := hG H (e2.trans R2.ex)
  by_cases hlt : i < ds.length
  · refine .inr ⟨w.goes i H hlt gH, Pv (i + 1), fun H' p' => ⟨ds.length - (i + 1), by omega, rfl, hlt, p'⟩, fun x H' y => ?_⟩
    obtain ⟨d, F3, hd, n, hdt⟩ := hY i F2 H x H' hlt e2 R2.ex (w.yields i H x H' hlt gH y)
    have dr : ds.drop i = d :: ds.drop (i + 1) := by
      obtain ⟨hi', e⟩ := List.getElem?_eq_some_iff.mp hd
      rw [List.drop_eq_getElem_cons hi', e]
    rw [dr] at a2
    obtain ⟨ws3, R3, f3, hD3, hacc3⟩ := s2.new n
    have R4 := R3.guard f3 hD3
    unfold lc2S at a2
    cases e0 : A d (wipeE env vs) with
    | none => simp only [e0] at a2; exact a2.elim
    | some env3 =>
      simp only [e0] at a2
      refine ⟨_, F3, wipeE env vs, μ2, as2, d, env3, R4, hdt, e0, fun σ2 sl R5 => ⟨wipe_eq sl hss, ?_⟩⟩
      refine ⟨_, F3, env3, μ2, as2, R5, ?_⟩
      have e13 : Ex F1 F3 := e2.trans n.f
      have ungd : ∀ {F6 H6 : Hp} {m6 : Mu} {as6 : List (Option Addr)}, Ex F3 F6 → Rel (c.w (yy.gd F3 Dl (.lst ws3))) F6 H6 σ2 env3 m6 as6 → H6 Dl = some (.lst ws3) ∧ Free F6 as6 yy Dl ∧ Rel (c.w yy) F6 H6 σ2 env3 m6 as6 := fun {F6 H6 m6 as6} e6 R => R3.unguard f3 (fun xs z => by cases z) R e6
      have outer : ∀ {F6 H6 : Hp} {m6 : Mu} {as6 : List (Option Addr)} {σ6 : L2.St} {env6 : Env}, Ex F3 F6 → L2.wipe σ6 vs = L2.wipe σ vs → Rel (c.w yy) F6 H6 σ6 env6 m6 as6 → Rel (c.w yy) F6 H6 (L2.wipe σ vs) (wipeE env vs) m6 as6 := fun {F6 H6 m6 as6 σ6 env6} e6 ew R => by
        refine R3.unwipe (vs := vs) (env2 := wipeE env6 vs) e6 ?_
        have := R.wipe (vs := vs) hv
        rw [ew] at this
        have w2 : L2.wipe (L2.wipe σ vs) vs = L2.wipe σ vs := wipe_eq ⟨rfl, fun _ _ => rfl⟩ hss
        rw [w2]
        exact this
      cases e4 : p env3 μ2 with
      | none => simp only [e4] at a2; exact a2.elim
      | some z =>
        simp only [e4] at a2
        cases z with
        | err y fs m => exact a2.elim
        | ok b m =>
          intro b' F5 H5 as5 x5 y5 R6 eb
          subst eb
          cases b' with
          | false =>
            rw [if_neg Bool.false_ne_true]
            obtain ⟨g1, g2, g3⟩ := ungd x5 R6
            exact ⟨F5, m, as5, acc, e13.trans x5, l2.trans y5, ⟨ws3, outer x5 (wipe_eq sl hss) g3, g2, g1, Dts.mono x5 _ _ hacc3⟩, a2⟩
          | true =>
            rw [if_pos rfl]
            simp only at a2
            refine ⟨_, F5, env3, m, as5, R6, ?_⟩
            cases e6 : it1 env3 m with
            | none => simp only [e6] at a2; exact a2.elim
            | some z =>
              simp only [e6] at a2
              cases z with
              | err y fs m => exact a2.elim
              | ok ds1 m2 =>
                intro J1 F7 H7 as7 x7 y7 R8 pJ1
                obtain ⟨G1, Y1, w1, hG1, hY1⟩ := pJ1
                simp only at a2
                obtain ⟨g1, g2, g3⟩ := ungd (x5.trans x7) R8
                have e37 : Ex F3 F7 := x5.trans x7
                refine lc_in w1 (fun j H => ∃ F9 μ9 as9 acc9, Ex F7 F9 ∧ AsLe as7 as9 ∧ LSt c yy σ2 env3 vs1 Dl F9 H μ9 as9 acc9 ∧
                    Aft (PD c) (c.w yy) W F1 σ env as1 (match (lcS A1 p1 f (wipeE env3 vs1) (ds1.drop j) acc9 μ9).bind fun q => lc2S A p it1 vs1 A1 p1 f (wipeE env vs) (ds.drop (i + 1)) q.1 q.2 with
                      | none => none
                      | some (acc, μ') => some (.ok (.lst acc) μ')) Q) ?_ ?_ ?_ ?_
                · exact ⟨F7, m2, as7, acc, Evl.Ex.refl _, AsLe.refl _, ⟨ws3, g3.wipe hv1, g2, g1, Dts.mono e37 _ _ hacc3⟩, a2⟩
                · rintro j H hj ⟨F9, μ9, as9, acc9, e9, l9, ⟨_, R9, _⟩, _⟩
                  exact hG1 H (e9.trans R9.ex)
                · rintro j x H H' hj ⟨F9, μ9, as9, acc9, e9, l9, s9, a9⟩ hy
                  obtain ⟨ws9, R9, _⟩ := id s9
                  obtain ⟨d1, F10, hd1, n1, hdt1⟩ := hY1 j F9 H x H' hj e9 R9.ex hy
                  have dr1 : ds1.drop j = d1 :: ds1.drop (j + 1) := by
                    obtain ⟨hj', e⟩ := List.getElem?_eq_some_iff.mp hd1
                    rw [List.drop_eq_getElem_cons hj', e]
                  rw [dr1, lcS_cons] at a9
                  cases et : lcT A1 p1 f (wipeE env3 vs1) d1 acc9 μ9 with
                  | none => rw [et] at a9; exact a9.elim
                  | some r =>
                    rw [et] at a9
                    exact lc_turn hv1 hss1 g3 (e9.trans n1.f) (s9.new n1) hdt1 et fun F' H' as' x y s' => ⟨F', _, as', _, (e9.trans n1.f).trans x, l9.trans y, s', a9⟩
                · rintro H ⟨F9, μ9, as9, acc9, e9, l9, ⟨ws9, R9, f9, hD9, hacc9⟩, a9⟩
                  rw [List.drop_length] at a9
                  have ew : L2.wipe (L2.wipe σ2 vs1) vs = L2.wipe σ vs := by
                    rw [← wipe_eq sl hss]
                    apply List.ext_getElem?
                    intro j
                    rw [wipe_get, wipe_get, wipe_length, wipe_get]
                    by_cases q : j ∈ vs ∧ j < σ2.length
                    · rw [if_pos q, if_pos q]
                    · rw [if_neg q, if_neg q, if_neg (fun z => q ⟨h11 j z.1, z.2⟩)]
                  exact ⟨F9, μ9, as9, acc9, (e13.trans e37).trans e9, ((l2.trans y5).trans y7).trans l9, ⟨ws9, outer (e37.trans e9) ew R9, f9, hD9, hacc9⟩, a9⟩
  · obtain rfl : i = ds.length := by omega
    refine .inl ⟨w.stops H gH, ?_⟩
    rw [List.drop_length] at a2
    obtain ⟨F', x', R', d'⟩ := s2.done R1 e2
    exact a2 (.ref Dl) F' H as2 (e2.trans x') l2 R' d'
theorem de_lc2 {scope : Scope} {own : List (Str × Nat)} (h : PE X (.ListComp elt [⟨tg, iter, ifs, 0⟩, ⟨tg1, iter1, ifs1, 0⟩] scope pos) (tLc2 (IX c W it) (AX c A ss) (TB c W0 p) (IX c W0 it1) (AX c A1 ss1) (TB c W0 p1) (T c W0 f) (own.map (·.2)) vs1)) (hv : ∀ v ∈ own.map (·.2), noSlot c.sl v) (hss : ∀ j ∈ ss, j ∈ own.map (·.2))
    (hv1 : ∀ v ∈ vs1, noSlot c.sl v) (hss1 : ∀ j ∈ ss1, j ∈ vs1) (h11 : ∀ v ∈ vs1, v ∈ own.map (·.2)) :
    PE X (.ListComp elt [⟨tg, iter, ifs, 0⟩, ⟨tg1, iter1, ifs1, 0⟩] scope pos) (T c W (mLc2 (own.map (·.2)) it A p it1 vs1 A1 p1 f)) := impE h fun _ _ _ hw => t_lc2 hv hss hv1 hss1 h11 hw
theorem ds_setLc2 {i : Nat} {st : Stmt} (h : PS X st (tAsg (tLc2 (IX c W it) (AX c A ss) (TB c W0 p) (IX c W0 it1) (AX c A1 ss1) (TB c W0 p1) (T c W0 f) vs vs1) (gName i))) (hi : noSlot c.sl i) (hv : ∀ v ∈ vs, noSlot c.sl v) (hss : ∀ j ∈ ss, j ∈ vs)
    (hv1 : ∀ v ∈ vs1, noSlot c.sl v) (hss1 : ∀ j ∈ ss1, j ∈ vs1) (h11 : ∀ v ∈ vs1, v ∈ vs) : PS X st (SX c W (sAsg (mLc2 vs it A p it1 vs1 A1 p1 f) (aName i))) := impS h fun De σ H hw => by
  refine t_lc2 hv hss hv1 hss1 h11 ((t_asg (ss := [i]) hw).imp fun v H1 hg => ?_)
  obtain ⟨yy, F, env, μ, as, d, env', R, hd, e, k⟩ := hg
  cases e
  exact k _ sle_set (R.set hd hi)
end
end Sh
namespace Sh
open PySem PySem.Spec PyProof.Rows L2
variable [Wd]
/-! ### dict comprehensions: one loop for every clause
A clause is told apart from what it does (act): the last one stores, one ahead of it runs the next one's loop. -/
structure Cl where
  pl : Pos
  tg : Expr
  ifs : List Expr
  act : Sem PySem.Fin → Sem PySem.Fin
/-- a turn of the clause, k behind it -/
def Cl.turn (q : Cl) (env : PySem.Env) (itv : Value) (k : Sem PySem.Fin) : Sem PySem.Fin := do
  standAt q.pl
  match ← pyNext itv with
  | none => pure (.done .next)
  | some v =>
    letOwnedTupleGo q.tg itv v
    assign q.tg env v
    let mut ok := true
    for c in q.ifs do
      if ok then ok ← isTrue c env (eval c env)
    if ok then
      q.act k
    else k
abbrev Ta := L2.St → Hp → (Hp → Prop) → Prop
/-- what an act asks: ta; it forgets no slot but those of vs -/
def ActOk (Y : Cx) (vs : List Nat) (act : Sem PySem.Fin → Sem PySem.Fin) (ta : Ta) : Prop :=
  ∀ (ps : List (Addr × Obj)) (s : Shared) (σ : L2.St) (H : Hp) (N : Hp → Prop) (k : Sem PySem.Fin) (Q : PySem.Fin → Shared → Prop) (E : Value → Shared → Prop), Inv Y ps σ H s → ta σ H N →
    (∀ σ' H' s', σ'.length = σ.length → (∀ (j : Nat) v, j ∉ vs → σ[j]? = some (some v) → σ'[j]? = some (some v)) → Inv Y ps σ' H' s' → N H' → wpAny (model Y.prog Y.w) Y.A k Q E s') →
    wpAny (model Y.prog Y.w) Y.A (act k) Q E s
/-- a clause's loop, from H0; N behind it -/
def Lp (J : It) (g : TG) (tt : TT) (ta : Ta) (vs : List Nat) (σ : L2.St) (H0 : Hp) (N : Hp → Prop) : Prop :=
  ∃ W : Nat → Nat → Hp → Prop, (∃ m, W 0 m H0) ∧ ∀ i m H, W i m H →
    (J.stop i H ∧ N H) ∨ (J.go i H ∧ ∃ Nx : Hp → Prop, (∀ H', Nx H' → ∃ m', m' < m ∧ W (i + 1) m' H') ∧ ∀ x H', J.yld i H x H' →
      g x (L2.wipe σ vs) H' fun σ2 H2 => L2.wipe σ2 vs = L2.wipe σ vs ∧ tt σ2 H2 fun b H3 => if b = true then ta σ2 H3 Nx else Nx H3)
section
variable {Y : Cx} {kx vx : Expr} {gens : List Comprehension} {scope : Scope} {pos : Pos} {d : Nat} {it D : Addr}
/-- the code of a clause's loop -/
abbrev lpC (kx vx : Expr) (gens : List Comprehension) (scope : Scope) (pos : Pos) (d : Nat) (it D : Addr) (env : PySem.Env) : Code := .compLoop (.DictComp kx vx gens scope pos) d (.ref it) (.ref D) env
theorem clause_loop {q : Cl} {J : It} {fp : List Addr} {tn : Nat → Heap → Prop} {g : TG} {tt : TT} {ta : Ta} {vs : List Nat} {σ : L2.St} {R : Result → Shared → Prop} {ps : List (Addr × Obj)} {N : Hp → Prop} {s : Shared} {H : Hp}
    (hc : Y.calm = true) (hx : Y.xe = fun _ _ => False)
    (shape : compTurn (.DictComp kx vx gens scope pos) d (.ref it) (.ref D) Y.env = q.turn Y.env (.ref it) (again (lpC kx vx gens scope pos d it D Y.env)))
    (T : Turn Y.prog Y.w Y.K q.tg J fp it tn) (pg : PG Y q.tg g) (pt : PTs Y q.ifs tt) (pa : ActOk Y vs q.act ta)
    (mine : ∀ H' : Hp, (∀ b ∈ fp, H' b = none) → ∀ b ∈ fp, FpOk Y ps H' b)
    (last : ∀ H' s', Inv Y ps (L2.wipe σ vs) H' s' → N H' → R (.ok .next) s')
    (I : Inv Y ps (L2.wipe σ vs) H s) (st : tn 0 s.heap) (fr : ∀ b ∈ fp, H b = none) (h : Lp J g tt ta vs σ H N) :
    codeAny (model Y.prog Y.w) Y.A (lpC kx vx gens scope pos d it D Y.env) R s := by
  obtain ⟨W, ⟨m0, w0⟩, step⟩ := h
  let S : Nat → Shared → Prop := fun n s' => ∃ i H', (Inv Y ps (L2.wipe σ vs) H' s' ∧ tn i s'.heap) ∧ (∀ b ∈ fp, H' b = none) ∧ W i n H'
  refine codeAny_loop rfl S (fun n s' hs => ?_) m0 ⟨0, H, ⟨I, st⟩, fr, w0⟩
  obtain ⟨i, H', ⟨I', st'⟩, fr', w'⟩ := hs
  refine wpAny_noted (m := compTurn (.DictComp kx vx gens scope pos) d (.ref it) (.ref D) Y.env) ?_
  rw [shape]
  unfold Cl.turn
  refine wpAny_bind (wpAny_standAt (wpAny_bind ?_))
  rcases step i n H' w' with ⟨stp, nx⟩ | ⟨gos, Nx, dn, on⟩
  · refine thnF (T.done Y rfl rfl rfl hc i ps s' _ H' _ I' (mine H' fr') st' stp) ?_
    rintro r s2 ⟨rfl, I2⟩
    exact wpAny_pure (last H' s2 I2 nx)
  refine thnF (T.item Y rfl rfl rfl hc i ps s' _ H' _ I' (mine H' fr') st' gos) ?_
  rintro r s2 ⟨u, rfl, h2⟩
  refine wpAny_bind (thnF h2 ?_)
  rintro _ s3 ⟨x, H3, I3, r3, y3, st3, fr3⟩
  have Ip := I3.pinned (mine H3 fr3) (T.obj _ _ st3)
  -- back to the state between two turns
  have home : ∀ σ' H4 s4, σ'.length = (L2.wipe σ vs).length → (∀ (j : Nat) v, (L2.wipe σ vs)[j]? = some (some v) → σ'[j]? = some (some v)) → Inv Y (ps ++ pinsAt fp s3.heap) σ' H4 s4 → Nx H4 → ∃ m, m < n ∧ S m s4 := by
    intro σ' H4 s4 hl hk I4 nx
    obtain ⟨m', lt, w4⟩ := dn H4 nx
    have held : ∀ b ∈ fp, ∀ o, s3.heap.get? b = some o → s4.heap.get? b = some o ∧ H4 b = none := by
      intro b hb o e
      have z := I4.pin (b, o) (List.mem_append_right _ (List.mem_append_right _ (mem_pinsAt hb e)))
      exact ⟨z.1, z.2.1⟩
    refine ⟨m', lt, i + 1, H4, ⟨I4.unpinned.weak hl.symm hk, T.keep _ _ _ st3 fun b hb o e => (held b hb o e).1⟩, ?_, w4⟩
    intro b hb
    obtain ⟨o, e, _⟩ := T.obj _ _ st3 b hb
    exact (held b hb o e).2
  have a1 := pg.run _ s3 _ H3 x u _ Ip r3 (on x H3 y3)
  rw [hx] at a1
  refine wpAny_bind (thnF a1 ?_)
  rintro _ s4 ⟨σ4, H4, I4, w4, q4⟩
  have l4 : σ4.length = (L2.wipe σ vs).length := by rw [← w4, wipe_length]
  have k4 : ∀ (j : Nat) v, (L2.wipe σ vs)[j]? = some (some v) → σ4[j]? = some (some v) ∧ j ∉ vs := fun j v e => wipe_some (by rw [w4]; exact e)
  have a2 := pt.run _ s4 σ4 H4 _ I4 q4
  rw [hx] at a2
  refine wpAny_bind (thnF a2 ?_)
  rintro b s5 ⟨H5, I5, q5⟩
  cases b with
  | false => exact wpAny_pure ⟨rfl, home σ4 H5 s5 l4 (fun j v e => (k4 j v e).1) I5 q5⟩
  | true =>
    refine pa _ s5 σ4 H5 Nx _ _ _ I5 q5 fun σ6 H6 s6 l6 k6 I6 n6 => wpAny_pure ⟨rfl, ?_⟩
    exact home σ6 H6 s6 (l6.trans l4) (fun j v e => k6 j v (k4 j v e).2 (k4 j v e).1) I6 n6
/-! #### the last clause: it stores -/
def emitA (kx vx : Expr) (D : Addr) (env : PySem.Env) : Sem PySem.Fin → Sem PySem.Fin := fun k => (do
  let kv ← eval kx env
  let vv ← holding [kv] (eval vx env)
  standAt { kx.pos with endLine := vx.pos.endLine, endCol := vx.pos.endCol }
  holding [kv, vv] (dictSet D kv vv)) >>= fun _ => k
/-- the new dict at D takes a key that is a tuple -/
theorem dict_take {ps : List (Addr × Obj)} {σ : L2.St} {H : Hp} {s : Shared} {E : Value → Shared → Prop} {kvs : List (List Key × V)} {ky : List Key} {bk : Addr} {v : V} {u : Value} {Q : Unit → Shared → Prop}
    (hu : Y.A.units < cLine) (I : Inv Y ps σ H s) (hD : H D = some (.dT kvs)) (hb : H bk = some (.tup (ky.map kV))) (hz : kvs.length < sizeLine) (rv : RelV v u)
    (h : ∀ s', Inv Y ps σ (upd H D (.dT (putK kvs ky v))) s' → Q () s') : wpAny (model Y.prog Y.w) Y.A (dictSet D (.ref bk) u) Q E s := by
  obtain ⟨_, nsys, xs, rel, dd⟩ := dt_of I.hok hD
  have e1 : kvs.length = xs.length := Paired.length rel
  have e2 := length_putK kvs ky v
  refine wpAny_dictSet_heap (knd := tupleKind (mixKind Y.prog Y.w)) (hsz := by omega) hu (key_of I.hok hb) dd ?_
  rintro h' ⟨o, es, ep, ho, k1, k2, k3, _, k5⟩ same
  have rel' := (rel.put ky hb rv).keeps (H' := upd H D (.dT (putK kvs ky v))) fun c ys ec => by
    rw [upd_ne (ne_of ec hD (by intro z; cases z))]; exact ec
  exact h _ (d_write I (by rw [hD]; trivial) same ⟨o, ho⟩ ⟨by omega, nsys, _, rel', o, es, ep, ho, k1, k2, k3, k5⟩)
abbrev putT (D : Addr) (tk tv : TE) : Ta := fun σ H N => tk σ H fun y H4 => tv σ H4 fun z H5 =>
  ∃ kvs ky bk, y = .ref bk ∧ H5 D = some (.dT kvs) ∧ H5 bk = some (.tup (ky.map kV)) ∧ kvs.length < sizeLine ∧ N (upd H5 D (.dT (putK kvs ky z)))
theorem emit_ok {vs : List Nat} {tk tv : TE} (hx : Y.xe = fun _ _ => False) (hu : Y.A.units < cLine) (pk : PE Y kx tk) (pv : PE Y vx tv) : ActOk Y vs (emitA kx vx D Y.env) (putT D tk tv) := by
  intro ps s σ H N k Q E I h fin
  have a1 := pk.run ps s σ H _ I h
  rw [hx] at a1
  unfold emitA
  refine wpAny_bind (wpAny_bind (thnF a1 ?_))
  rintro u s1 ⟨y, H1, I1, r1, q1⟩
  have a2 := pv.run ps s1 σ H1 _ I1 q1
  rw [hx] at a2
  refine wpAny_bind (wpAny_holding (thnF a2 ?_))
  rintro z s2 ⟨yv, H2, I2, r2, kvs, ky, bk, ey, hD, hb, hz, n⟩
  subst ey
  cases (show u = Value.ref bk from r1)
  exact wpAny_bind (wpAny_standAt (wpAny_holding (dict_take hu I2 hD hb hz r2 fun s3 I3 => fin σ _ s3 rfl (fun _ _ _ z => z) I3 n)))
/-! #### a clause ahead: the next one's loop -/
def nestA (i1 : Expr) (e : Expr) (d : Nat) (acc : Value) (env : PySem.Env) : Sem PySem.Fin → Sem PySem.Fin := fun k => do
  let x ← eval i1 env
  standAt i1.pos
  let x ← foldedSetIterable i1 env x
  let _ ← runOwn (.compStart e d (← holding [x] (pyIter x)) acc env) env
  k
/-- a loop begins: the iterator that has come is asked for an iterator once more -/
theorem start_ok {P : Program} {w : World} {A : Around} {env : PySem.Env} {itv acc : Value} {R : Result → Shared → Prop} {s : Shared}
    (h0 : codeAny (model P w) A (.compLoop (.DictComp kx vx gens scope pos) d itv acc env) R s)
    (h1 : wpAny (model P w) A (pyIter itv) (fun it' s' => codeAny (model P w) A (.compLoop (.DictComp kx vx gens scope pos) d it' acc env) R s') (notedBy (model P w) A env fun x s' => R (.error x) s') s) :
    codeAny (model P w) A (.compStart (.DictComp kx vx gens scope pos) d itv acc env) R s := by
  refine codeAny_of_tree (wpAny_notedAt (m := compStart (.DictComp kx vx gens scope pos) d itv acc env) (pos := theWindowsPlace) ?_)
  unfold compStart
  show wpAny _ A _ _ (notedBy _ A env _) s
  refine wpAny_ite ?_
  split
  · exact wpAny_pure ⟨rfl, h0⟩
  refine wpAny_bind (wpAny_askSetting (wpAny_ite ?_))
  split
  · exact wpAny_pure ⟨rfl, h0⟩
  have tail := wpAny_bind (thn h1 fun it' s' h => wpAny_pure (M := model P w) (A := A) (E := notedBy (model P w) A env fun x s' => R (.error x) s') (a := PySem.Fin.again (.compLoop (.DictComp kx vx gens scope pos) d it' acc env))
    (Q := fun fin s' => match fin with | .done f => R (.ok f) s' | .again c' => c'.quiet = true ∧ codeAny (model P w) A c' R s') ⟨rfl, h⟩)
  refine wpAny_bind (wpAny_rule ?_)
  split
  · exact wpAny_bind (wpAny_standAt tail)
  · exact tail
/-- what a clause of the block is known by -/
def ClOk (Y : Cx) (kx vx : Expr) (gens : List Comprehension) (scope : Scope) (pos : Pos) (d : Nat) (D : Addr) (tg : Expr) (g : TG) (tt : TT) (ta : Ta) (vs : List Nat) : Prop :=
  ∃ pl ifs act, (∀ it, compTurn (.DictComp kx vx gens scope pos) d (.ref it) (.ref D) Y.env = Cl.turn ⟨pl, tg, ifs, act⟩ Y.env (.ref it) (again (lpC kx vx gens scope pos d it D Y.env))) ∧
    PG Y tg g ∧ PTs Y ifs tt ∧ ActOk Y vs act ta
theorem nest_ok {tg1 iter1 : Expr} {wi1 : TI} {g1 : TG} {tt1 : TT} {ta1 : Ta} {vs vs1 : List Nat} (hc : Y.calm = true) (hx : Y.xe = fun _ _ => False) (hi : PI Y tg1 iter1 wi1) (hf : ∀ x, foldedSetIterable iter1 Y.env x = pure x)
    (c1 : ClOk Y kx vx gens scope pos d D tg1 g1 tt1 ta1 vs1) (sub : ∀ i ∈ vs1, i ∈ vs) :
    ActOk Y vs (nestA iter1 (.DictComp kx vx gens scope pos) d (.ref D) Y.env) (fun σ H N => wi1 σ H fun J1 H1 => Lp J1 g1 tt1 ta1 vs1 σ H1 N) := by
  obtain ⟨pl, ifs, act, shape, pg, pt, pa⟩ := c1
  intro ps s σ H N k Q E I h fin
  have a1 := hi.run ps s σ H _ I h
  rw [hx] at a1
  unfold nestA
  refine wpAny_bind (thnF a1 ?_)
  intro xv s1 h1
  refine wpAny_bind (wpAny_standAt (wpAny_bind (wpAny_of_eq (hf xv) (wpAny_bind (wpAny_holding (thnF h1 ?_))))))
  rintro itv s2 ⟨it, fp, tn, J, H2, rfl, I2, T, st2, f2, lp⟩
  refine wpAny_bind (wpAny_runOwn ?_)
  rw [Around.mark_none]
  have loop := clause_loop (q := ⟨pl, tg1, ifs, act⟩) (ps := ps) (R := fun r s' => match r with | .ok _ => wpAny (model Y.prog Y.w) Y.A k Q E s' | .error e => cameBackBy (model Y.prog Y.w) Y.A Y.env E e s') hc hx (shape it) T pg pt pa
    (fun H' n b hb => ⟨n b hb, (f2 b hb).2⟩)
    (fun H' s' I' n => fin (L2.wipe σ vs1) H' s' (wipe_length σ vs1) (fun j v hj e => by rw [wipe_out fun z => hj (sub j z)]; exact e) I' n)
    (I2.weak (wipe_length σ vs1) fun j v e => (wipe_some e).1) st2 (fun b hb => (f2 b hb).1) lp
  exact start_ok loop (T.self Y.A 0 s2 _ _ st2 loop)
end
section
variable {X : Cx} {kx vx tg iter tg1 iter1 : Expr} {ifs ifs1 : List Expr} {rest : List Comprehension} {scope : Scope} {own : List (Str × Nat)} {pos : Pos} {wi wi1 : TI} {g g1 : TG} {tt tt1 : TT} {tk tv : TE} {vs1 : List Nat}
/-- the block of X that starts at s -/
abbrev blkA (X : Cx) (scope : Scope) (s : Shared) (H : Hp) (C : Addr) (cl : List (Str × Addr)) (fp : List Addr) : Cx := X.blk s H scope (compEnvC scope cl C X.env) fp
def tDcA (wi : TI) (g : TG) (tt : TT) (ta : Addr → Ta) (vs : List Nat) : TE := fun σ H Q => wi σ H fun J H1 => ∀ D, H1 D = none → Lp J g tt (ta D) vs σ (upd H1 D (.dT [])) (Q (.ref D))
theorem pe_dcA {ta : Addr → Ta} (hc : X.calm = true) (hN : X.N.Nodup) (hi : PI X tg iter wi) (ok : BlkOk X.N X.env.scope scope own) (hs : ∀ x, foldedSetIterable iter X.env x = pure x)
    (cls : ∀ s H C cl fp D, ClOk (blkA X scope s H C cl fp) kx vx (⟨tg, iter, ifs, 0⟩ :: rest) scope pos 0 D tg g tt (ta D) (own.map (·.2))) :
    PE X (.DictComp kx vx (⟨tg, iter, ifs, 0⟩ :: rest) scope pos) (tDcA wi g tt ta (own.map (·.2))) := by
  refine ⟨fun ps s σ H Q I h => ?_⟩
  have hfree : ∀ y ∈ scope.names, y.2 = .free → ∃ c, X.env.cells.lookup y.1 = some c := fun y hy e => I.ok.has _ ((ok.free y hy e).imp id id)
  rw [arm_eval_DictComp]
  refine wpAny_comprehension_free (use := none) rfl hs (closure_ok hfree) ok.kind (fun y hy e => (ok.uniq y hy).trans (congrArg some e)) ?_
  refine thn (hi.run ps s σ H _ I h) fun xv s1 h1 => thn h1 ?_
  rintro itv s2 ⟨it, fp, tn, J, H2, rfl, I2, T, st2, f2, lp⟩
  refine wpAny_newObj_type (newEnv_comp ?_)
  -- the dict is made: it stands at the heap's end
  have nD : H2 s2.heap.objs.size = none := I2.hok.fresh (Nat.le_refl _)
  have I3 : Inv X ps σ (upd H2 s2.heap.objs.size (.dT [])) { s2 with heap := s2.heap.push { cls := .type "dict", data := .dict #[] } } :=
    I2.laid (t' := s2.toks) (fun b o e => Heap.get?_push_of_some _ e) (Nat.le_refl _) (dt_empty s2.heap I2.big)
  have st3 : tn 0 (s2.heap.push { cls := .type "dict", data := .dict #[] }) := T.keep _ _ _ st2 fun b _ o e => Heap.get?_push_of_some _ e
  have f3 : ∀ b ∈ fp, FpOk X ps (upd H2 s2.heap.objs.size (.dT [])) b ∧ b < (s2.heap.push { cls := .type "dict", data := .dict #[] }).objs.size := by
    intro b hb
    obtain ⟨o, e, _⟩ := T.obj _ _ st2 b hb
    have lt := Heap.lt_size e
    have f := f2 b hb
    exact ⟨⟨by rw [upd_ne (Nat.ne_of_lt lt)]; exact f.1, f.2⟩, by rw [Heap.size_push]; exact Nat.lt_succ_of_lt lt⟩
  have lp3 := lp s2.heap.objs.size nD
  generalize s2.heap.objs.size = D at *
  generalize hs3 : ({ s2 with heap := s2.heap.push { cls := .type "dict", data := .dict #[] } } : Shared) = s3 at *
  have e3 : s3.heap = s2.heap.push { cls := .type "dict", data := .dict #[] } := by rw [← hs3]
  rw [← e3] at st3 f3
  generalize upd H2 D (.dT []) = H3 at *
  have I4 := block_start I3 ok hN f3
  have st4 : tn 0 (pushCells (s3.heap.push { cls := .type "dict", data := .dict #[] }) scope.names) := T.keep _ _ _ st3 fun b _ o e => pushCells_keeps _ _ _ _ (Heap.get?_push_of_some _ e)
  obtain ⟨pl, ifs', act, shape, pg, pt, pa⟩ := cls s3 H3 s3.heap.objs.size (cellsFrom (s3.heap.objs.size + 1) scope.names (cloFrom X.env.cells scope.names [])) fp D
  have loop := clause_loop (Y := blkA X scope s3 H3 s3.heap.objs.size (cellsFrom (s3.heap.objs.size + 1) scope.names (cloFrom X.env.cells scope.names [])) fp) (q := ⟨pl, tg, ifs', act⟩) (ps := []) (R := compPost (model X.prog X.w) X.A X.xe none (EP X ps σ Q) (.ref D) s3.heap.objs.size) hc rfl (shape it) T pg pt pa
    (fun H' n b hb => ⟨n b hb, (I4.ok.exf b hb).1, I4.ok.exfs b hb, .inl hb, fun x c e => (I4.ok.exf b hb).2 x c e, fun p hp => by simp at hp⟩)
    (fun H' s' I' q => by
      have I7 : Inv X ps σ H' s' := I3.call' (ch := fp) I'.os I'.base I'.hok I'.bare fun b hb => ⟨(f3 b hb).1.2.2.2.1, (f3 b hb).1.2.1, (f3 b hb).1.2.2.2.2.1, (f3 b hb).1.2.2.2.2.2⟩
      have nC : H' s3.heap.objs.size = none := I'.free
      obtain ⟨f0, f1, f2, f3, f4, f5⟩ := I3.fpOk (Nat.le_refl _) nC
      obtain ⟨m, hn, _⟩ := I'.loc
      exact ⟨m, hn, fun h' sb => ⟨.ref D, H', I7.turned (t' := s'.toks) (fun b o hb e => (sb.2 b hb).trans e) f0 f1 f3 f4 f5, rfl, q⟩⟩)
    I4 st4 (fun b hb => (f3 b hb).1.1) lp3
  exact start_ok loop (T.self X.A 0 _ _ _ st4 loop)
/-- {k: v for tg in iter if ..}, the keys tuples -/
theorem pe_dc1 (hu : X.A.units < cLine) (hc : X.calm = true) (hN : X.N.Nodup) (hi : PI X tg iter wi) (ok : BlkOk X.N X.env.scope scope own)
    (hg : ∀ s H C cl fp, PG (blkA X scope s H C cl fp) tg g) (ht : ∀ s H C cl fp, PTs (blkA X scope s H C cl fp) ifs tt) (hk : ∀ s H C cl fp, PE (blkA X scope s H C cl fp) kx tk) (hv : ∀ s H C cl fp, PE (blkA X scope s H C cl fp) vx tv)
    (hs : ∀ x, foldedSetIterable iter X.env x = pure x := by intro _; rfl) :
    PE X (.DictComp kx vx [⟨tg, iter, ifs, 0⟩] scope pos) (tDcA wi g tt (fun D => putT D tk tv) (own.map (·.2))) :=
  pe_dcA hc hN hi ok hs fun s H C cl fp D => ⟨iter.pos, ifs, emitA kx vx D _, fun it => rfl, hg s H C cl fp, ht s H C cl fp, emit_ok rfl hu (hk s H C cl fp) (hv s H C cl fp)⟩
/-- {k: v for tg in iter if .. for tg1 in iter1 if ..} -/
theorem pe_dc2 (hu : X.A.units < cLine) (hc : X.calm = true) (hN : X.N.Nodup) (hi : PI X tg iter wi) (ok : BlkOk X.N X.env.scope scope own) (sub : ∀ i ∈ vs1, i ∈ own.map (·.2))
    (hg : ∀ s H C cl fp, PG (blkA X scope s H C cl fp) tg g) (ht : ∀ s H C cl fp, PTs (blkA X scope s H C cl fp) ifs tt) (hi1 : ∀ s H C cl fp, PI (blkA X scope s H C cl fp) tg1 iter1 wi1)
    (hg1 : ∀ s H C cl fp, PG (blkA X scope s H C cl fp) tg1 g1) (ht1 : ∀ s H C cl fp, PTs (blkA X scope s H C cl fp) ifs1 tt1) (hk : ∀ s H C cl fp, PE (blkA X scope s H C cl fp) kx tk) (hv : ∀ s H C cl fp, PE (blkA X scope s H C cl fp) vx tv)
    (hs : ∀ x, foldedSetIterable iter X.env x = pure x := by intro _; rfl) (hs1 : ∀ env x, foldedSetIterable iter1 env x = pure x := by intro _ _; rfl) :
    PE X (.DictComp kx vx [⟨tg, iter, ifs, 0⟩, ⟨tg1, iter1, ifs1, 0⟩] scope pos) (tDcA wi g tt (fun D σ H N => wi1 σ H fun J1 H1 => Lp J1 g1 tt1 (putT D tk tv) vs1 σ H1 N) (own.map (·.2))) :=
  pe_dcA hc hN hi ok hs fun s H C cl fp D => ⟨iter.pos, ifs, nestA iter1 _ 1 (.ref D) _, fun it => rfl, hg s H C cl fp, ht s H C cl fp,
    nest_ok hc rfl (hi1 s H C cl fp) (hs1 _) ⟨iter1.pos, ifs1, emitA kx vx D _, fun it => rfl, hg1 s H C cl fp, ht1 s H C cl fp, emit_ok rfl hu (hk s H C cl fp) (hv s H C cl fp)⟩ sub⟩
/-- a new dict is locked for good: nothing writes it any more -/
def tFz (t : TE) : TE := fun σ H Q => t σ H fun v H1 => ∃ d u, v = .ref d ∧ H1 d = some u ∧ Mut (some u) ∧ ∀ od, Q v (upd H1 d (.frz od u))
theorem pe_fz {e : Expr} {t : TE} (h : PE X e t) : PE X e (tFz t) := by
  refine ⟨fun ps s σ H Q I hw => thn (h.run ps s σ H _ I hw) ?_⟩
  rintro v s1 ⟨x, H1, I1, r, d, u, ex, hd, mu, q⟩
  obtain ⟨od, I2⟩ := I1.lock hd mu
  exact ⟨x, _, I2, r, q od⟩
end
end Sh
namespace Sh
open PySem PySem.Spec PyProof.Rows L2
variable [Wd]
/-! ### .. as data -/
abbrev Kvs := List (List Key × D)
/-- one turn of the inner walk -/
def dcT (A : Am) (p : Mx Bool) (fk fv : Em) (env : Env) (d : D) (acc : Kvs) (μ : Mu) : Option (Kvs × Mu) := match A d env with
  | none => none
  | some env' => match p env' μ with
    | some (.ok true μ1) => (match fk env' μ1 with
      | some (.ok kd μ2) => (match fv env' μ2, tupKey kd with
        | some (.ok x μ3), some key => if decide (acc.length < 100000) = true then some (dput acc key x, μ3) else none
        | _, _ => none)
      | _ => none)
    | some (.ok false μ1) => some (acc, μ1)
    | _ => none
def dcS (A : Am) (p : Mx Bool) (fk fv : Em) (env : Env) : List D → Kvs → Mu → Option (Kvs × Mu)
  | [], acc, μ => some (acc, μ)
  | d :: r, acc, μ => (dcT A p fk fv env d acc μ).bind fun q => dcS A p fk fv env r q.1 q.2
def dc2S (A : Am) (p : Mx Bool) (it1 : Mx (List D)) (vs1 : List Nat) (A1 : Am) (p1 : Mx Bool) (fk fv : Em) (env : Env) : List D → Kvs → Mu → Option (Kvs × Mu)
  | [], acc, μ => some (acc, μ)
  | d :: r, acc, μ => match A d env with
    | none => none
    | some env' => match p env' μ with
      | some (.ok true μ1) => (match it1 env' μ1 with
        | some (.ok ds1 μ2) => (dcS A1 p1 fk fv (wipeE env' vs1) ds1 acc μ2).bind fun q => dc2S A p it1 vs1 A1 p1 fk fv env r q.1 q.2
        | _ => none)
      | some (.ok false μ1) => dc2S A p it1 vs1 A1 p1 fk fv env r acc μ1
      | _ => none
def mDc2 (vs : List Nat) (it : Mx (List D)) (A : Am) (p : Mx Bool) (it1 : Mx (List D)) (vs1 : List Nat) (A1 : Am) (p1 : Mx Bool) (fk fv : Em) : Em := bnd it fun ds env μ => match dc2S A p it1 vs1 A1 p1 fk fv (wipeE env vs) ds [] μ with
  | none => none
  | some (acc, μ') => some (.ok (.dct true acc) μ')
theorem tupKey_eq {d : D} {key : List Key} (h : tupKey d = some key) : d = .tup (key.map keyD) := by
  cases d with
  | tup ks => rw [keyOf_eq (show keyOf ks = some key from h)]
  | _ => cases h
section
variable {c : Ct} {F F1 F3 H H1 : Hp} {σ : L2.St} {env : Env} {μ μ1 μ2 : Mu} {as as1 as2 : List (Option Addr)} {yy : Dy} {A : Am} {p : Mx Bool} {fk fv : Em} {ss vs : List Nat} {Dl : Addr}
abbrev tDc1 (wi : TI) (g : TG) (tt : TT) (tk tv : TE) (vs : List Nat) : TE := tDcA wi g tt (fun D => putT D tk tv) vs
abbrev tDc2 (wi : TI) (g : TG) (tt : TT) (wi1 : TI) (g1 : TG) (tt1 : TT) (tk tv : TE) (vs vs1 : List Nat) : TE := tDcA wi g tt (fun D σ H N => wi1 σ H fun J1 H1 => Lp J1 g1 tt1 (putT D tk tv) vs1 σ H1 N) vs
def KSt (c : Ct) (yy : Dy) (σ : L2.St) (env : Env) (vs : List Nat) (Dl : Addr) (F H : Hp) (μ : Mu) (as : List (Option Addr)) (acc : Kvs) : Prop :=
  ∃ ws, Rel (c.w yy) F H (L2.wipe σ vs) (wipeE env vs) μ as ∧ Free F as yy Dl ∧ H Dl = some (.dT ws) ∧ Dtk c.K F acc ws ∧ (acc.map (·.1)).Nodup
theorem KSt.new {F' H' : Hp} {acc : Kvs} (s : KSt c yy σ env vs Dl F H μ as acc) (n : New F H F' H') : KSt c yy σ env vs Dl F' H' μ as acc := by
  obtain ⟨ws, R, fr, hD, ha, nd⟩ := s
  refine ⟨ws, R.new n, ⟨?_, fr.2⟩, n.h _ _ hD, Dtk.mono n.f _ _ ha, nd⟩
  cases q : F' Dl with
  | none => rfl
  | some u =>
    rcases n.nw Dl (by rw [q]; simp) with z | z | ⟨xs, z⟩
    · exact (z fr.1).elim
    · rw [hD] at z; cases z
    · rw [hD] at z; cases z
theorem dc_turn {acc acc' : Kvs} {μ' : Mu} {d : D} {x : V} {Pv : Hp → Prop} (hv : ∀ v ∈ vs, noSlot c.sl v) (hss : ∀ j ∈ ss, j ∈ vs)
    (s : KSt c yy σ env vs Dl F3 H μ2 as2 acc) (hdt : Dt c.K F3 d x) (ht : dcT A p fk fv (wipeE env vs) d acc μ2 = some (acc', μ')) (q : ∀ F' H' as', Ex F3 F' → AsLe as2 as' → KSt c yy σ env vs Dl F' H' μ' as' acc' → Pv H') :
    AX c A ss x (L2.wipe σ vs) H fun σ2 H2 => L2.wipe σ2 vs = L2.wipe σ vs ∧ TB c W0 p σ2 H2 fun b H3 =>
      if b = true then T c W0 fk σ2 H3 fun y H4 => T c W0 fv σ2 H4 fun z H5 => ∃ kvs ky bk, y = .ref bk ∧ H5 Dl = some (.dT kvs) ∧ H5 bk = some (.tup (ky.map kV)) ∧ kvs.length < sizeLine ∧ Pv (upd H5 Dl (.dT (putK kvs ky z))) else Pv H3 := by
  obtain ⟨ws, R3, f3, hD3, hacc, nd⟩ := s
  have R4 := R3.guard f3 hD3
  unfold dcT at ht
  cases e0 : A d (wipeE env vs) with
  | none => rw [e0] at ht; cases ht
  | some env3 =>
    simp only [e0] at ht
    refine ⟨_, F3, wipeE env vs, μ2, as2, d, env3, R4, hdt, e0, fun σ2 sl R5 => ⟨wipe_eq sl hss, ?_⟩⟩
    refine ⟨_, F3, env3, μ2, as2, R5, ?_⟩
    cases e4 : p env3 μ2 with
    | none => simp only [e4] at ht; cases ht
    | some z =>
      simp only [e4] at ht
      cases z with
      | err y fs m => cases ht
      | ok b m =>
        intro b' F5 H5 as5 x5 y5 R6 eb
        subst eb
        have back : ∀ {F6 H6 : Hp} {m6 : Mu} {as6 : List (Option Addr)}, Ex F3 F6 → Rel (c.w (yy.gd F3 Dl (.dT ws))) F6 H6 σ2 env3 m6 as6 → H6 Dl = some (.dT ws) ∧ Free F6 as6 yy Dl ∧ Rel (c.w yy) F6 H6 (L2.wipe σ vs) (wipeE env vs) m6 as6 := fun {F6 H6 m6 as6} e6 R => by
          obtain ⟨g1, g2, g3⟩ := R3.unguard f3 (fun xs z => by cases z) R e6
          refine ⟨g1, g2, R3.unwipe (vs := vs) (env2 := wipeE env3 vs) e6 ?_⟩
          have e := wipe_eq sl hss
          have := g3.wipe (vs := vs) hv
          rw [e] at this
          have w2 : L2.wipe (L2.wipe σ vs) vs = L2.wipe σ vs := wipe_eq ⟨rfl, fun _ _ => rfl⟩ hss
          rw [w2]
          exact this
        cases b' with
        | false =>
          rw [if_neg Bool.false_ne_true]
          cases ht
          obtain ⟨g1, g2, g3⟩ := back x5 R6
          exact q F5 H5 as5 x5 y5 ⟨ws, g3, g2, g1, Dtk.mono x5 _ _ hacc, nd⟩
        | true =>
          rw [if_pos rfl]
          simp only at ht
          refine ⟨_, F5, env3, m, as5, R6, ?_⟩
          cases e6 : fk env3 m with
          | none => simp only [e6] at ht; cases ht
          | some z =>
            simp only [e6] at ht
            cases z with
            | err y fs m => cases ht
            | ok kd m2 =>
              intro vk F7 H7 as7 x7 y7 R8 pk
              simp only at ht
              refine ⟨_, F7, env3, m2, as7, R8, ?_⟩
              cases e8 : fv env3 m2 with
              | none => simp only [e8] at ht; cases ht
              | some z =>
                cases z with
                | err y fs m => simp only [e8] at ht; cases ht
                | ok xd m3 =>
                  simp only [e8] at ht
                  intro v F9 H9 as9 x9 y9 R9 pv
                  cases ek : tupKey kd with
                  | none => rw [ek] at ht; cases ht
                  | some key =>
                    simp only [ek] at ht
                    by_cases hc : decide (acc.length < 100000) = true
                    · rw [if_pos hc] at ht
                      cases ht
                      have e39 : Ex F3 F9 := (x5.trans x7).trans x9
                      obtain ⟨g1, g2, g3⟩ := back e39 R9
                      rw [tupKey_eq ek] at pk
                      obtain ⟨bk, bs, rfl, q1, q2⟩ := pk
                      rw [q2.key] at q1
                      have nt : Free F9 as9 yy Dl := g2
                      refine ⟨ws, key, bk, rfl, g1, R9.ex _ _ (x9 _ _ q1), by rw [← List.length_map (f := (·.1)), (Dtk.keys hacc), List.length_map]; exact Evl.sz_lt (of_decide_eq_true hc), ?_⟩
                      exact q F9 _ as9 e39 ((y5.trans y7).trans y9) ⟨putK ws key v, g3.lay g2 (.inr (by rw [g1]; exact ⟨by simp, by intro xs h; cases h⟩)), g2, upd_same, Dtk.put (Dtk.mono e39 _ _ hacc) pv nd, (dput_keys acc key xd nd).1⟩
                    · rw [if_neg hc] at ht; cases ht
/-- the made dict is data, locked -/
theorem KSt.done {acc : Kvs} (R1 : Rel (c.w yy) F1 H1 σ env μ1 as1) (e2 : Ex F1 F) (s : KSt c yy σ env vs Dl F H μ as acc) :
    ∃ ws, H Dl = some (.dT ws) ∧ ∀ od, ∃ F', Ex F F' ∧ Rel (c.w yy) F' (upd H Dl (.frz od (.dT ws))) σ env μ as ∧ Dt c.K F' (.dct true acc) (.ref Dl) := by
  obtain ⟨ws, R2, f2, hD2, hacc, nd⟩ := s
  refine ⟨ws, hD2, fun od => ?_⟩
  have R3 := (R1.unwipe (vs := vs) e2 R2).lay (ho := .frz od (.dT ws)) f2 (.inr (by rw [hD2]; exact ⟨by simp, by intro xs h; cases h⟩))
  have hf : Ex F (upd F Dl (.frz od (.dT ws))) := Evl.Ex.new f2.1
  refine ⟨_, hf, ?_, Dl, ws, rfl, ⟨od, upd_same⟩, Dtk.mono hf _ _ hacc⟩
  refine ⟨fun b u h => ?_, R3.sz, fun i d h => ?_, R3.la, R3.inj, fun k a h => ?_, fun k o h nh => ?_, R3.base, R3.par, R3.pin, fun b h => ?_, fun p hp => hf _ _ (R3.gl p hp)⟩
  · by_cases hb : b = Dl
    · subst hb; rw [upd_same] at h ⊢; exact h
    · rw [upd_ne hb] at h; exact R3.ex b u h
  · obtain ⟨v, h1, h2⟩ := R3.rd i d h
    exact ⟨v, h1, Dt.mono hf _ _ h2⟩
  · obtain ⟨h1, h2, h3⟩ := R3.out k a h
    have hb : a ≠ Dl := fun z => f2.2.1 k (by rw [← z]; exact h)
    exact ⟨by rw [upd_ne hb]; exact h1, h2, h3⟩
  · obtain ⟨a, h1, h2, h3⟩ := R3.own k o h nh
    exact ⟨a, h1, h2.grow hf (Evl.Ex.refl _), h3⟩
  · by_cases hb : b = Dl
    · subst hb; exact .inr (.inl f2.2.2)
    · rw [upd_ne hb] at h; exact R3.nw b h
end
/-- a walk within a walk -/
theorem dc_in {J : It} {n : Nat} {G : Hp → Prop} {Y : Nat → Hp → V → Hp → Prop} (w : Walk J n G Y) {g : TG} {tt : TT} {tk tv : TE} {vs : List Nat} {σ : L2.St} {H1 : Hp} {Dl : Addr} {Nx : Hp → Prop} (Pv : Nat → Hp → Prop) (h0 : Pv 0 H1) (hG : ∀ i H, i ≤ n → Pv i H → G H)
    (hs : ∀ i x H H', i < n → Pv i H → Y i H x H' → g x (L2.wipe σ vs) H' fun σ2 H2 => L2.wipe σ2 vs = L2.wipe σ vs ∧ tt σ2 H2 fun b H3 =>
      if b = true then tk σ2 H3 fun y H4 => tv σ2 H4 fun z H5 => ∃ kvs ky bk, y = .ref bk ∧ H5 Dl = some (.dT kvs) ∧ H5 bk = some (.tup (ky.map kV)) ∧ kvs.length < sizeLine ∧ Pv (i + 1) (upd H5 Dl (.dT (putK kvs ky z))) else Pv (i + 1) H3) (hd : ∀ H, Pv n H → Nx H) :
    ∃ W1 : Nat → Nat → Hp → Prop, (∃ m, W1 0 m H1) ∧ ∀ j k H, W1 j k H → (J.stop j H ∧ Nx H) ∨ (J.go j H ∧ ∃ Nx1 : Hp → Prop, (∀ H', Nx1 H' → ∃ k', k' < k ∧ W1 (j + 1) k' H') ∧ ∀ x H', J.yld j H x H' → g x (L2.wipe σ vs) H' fun σ3 H5 => L2.wipe σ3 vs = L2.wipe σ vs ∧ tt σ3 H5 fun b H6 =>
      if b = true then tk σ3 H6 fun y H7 => tv σ3 H7 fun z H8 => ∃ kvs ky bk, y = .ref bk ∧ H8 Dl = some (.dT kvs) ∧ H8 bk = some (.tup (ky.map kV)) ∧ kvs.length < sizeLine ∧ Nx1 (upd H8 Dl (.dT (putK kvs ky z))) else Nx1 H6) := by
  refine ⟨fun i m H => m = n - i ∧ i ≤ n ∧ Pv i H, ⟨n, by simp, Nat.zero_le _, h0⟩, ?_⟩
  rintro i m H ⟨rfl, hi, p⟩
  have q := hG i H hi p
  by_cases hlt : i < n
  · exact .inr ⟨w.goes i H hlt q, Pv (i + 1), fun H' p' => ⟨n - (i + 1), by omega, rfl, hlt, p'⟩, fun x H' y => hs i x H H' hlt p (w.yields i H x H' hlt q y)⟩
  · obtain rfl : i = n := by omega
    exact .inl ⟨w.stops H q, hd H p⟩
section
variable {c : Ct} {W : WX} {σ : L2.St} {H : Hp} {it it1 : Mx (List D)} {A A1 : Am} {p p1 : Mx Bool} {fk fv : Em} {ss ss1 vs vs1 : List Nat} {X : Cx} {pos : Pos} {tg iter kx vx tg1 iter1 : Expr} {ifs ifs1 : List Expr}
theorem t_dc2 {Q : VK} (hv : ∀ v ∈ vs, noSlot c.sl v) (hss : ∀ j ∈ ss, j ∈ vs) (hv1 : ∀ v ∈ vs1, noSlot c.sl v) (hss1 : ∀ j ∈ ss1, j ∈ vs1) (h11 : ∀ v ∈ vs1, v ∈ vs) (h : T c W (mDc2 vs it A p it1 vs1 A1 p1 fk fv) σ H Q) :
    tFz (tDc2 (IX c W it) (AX c A ss) (TB c W0 p) (IX c W0 it1) (AX c A1 ss1) (TB c W0 p1) (T c W0 fk) (T c W0 fv) vs vs1) σ H Q := by
  obtain ⟨yy, F, env, μ, as, R, q⟩ := h
  refine (aft_bind (P := PI' c) R q).imp fun J H1 ⟨ds, F1, μ1, as1, x1, y1, pJ, R1, a1⟩ => ?_
  intro Dl hD
  obtain ⟨G, Y, w, hG, hY⟩ := pJ
  have fr := R1.fresh hD
  let Pv : Nat → Hp → Prop := fun i H => ∃ F2 μ2 as2 acc, Ex F1 F2 ∧ AsLe as1 as2 ∧ KSt c yy σ env vs Dl F2 H μ2 as2 acc ∧
      Aft (PD c) (c.w yy) W F1 σ env as1 (match dc2S A p it1 vs1 A1 p1 fk fv (wipeE env vs) (ds.drop i) acc μ2 with
        | none => none
        | some (acc, μ') => some (.ok (.dct true acc) μ')) Q
  have start : Pv 0 (upd H1 Dl (.dT [])) := ⟨F1, μ1, as1, [], Evl.Ex.refl _, AsLe.refl _, ⟨[], (R1.wipe (vs := vs) hv).lay (ho := .dT []) fr (.inl hD), fr, upd_same, rfl, List.nodup_nil⟩, a1⟩
  refine ⟨fun i m H => m = ds.length - i ∧ i ≤ ds.length ∧ Pv i H, ⟨ds.length, by simp, Nat.zero_le _, start⟩, ?_⟩
  rintro i m H ⟨rfl, hi, F2, μ2, as2, acc, e2, l2, s2, a2⟩
  obtain ⟨ws, R2, f2, hD2, hacc, nd⟩ := id s2
  have gH := hG H (e2.trans R2.ex)
  by_cases hlt : i < ds.length
  · refine .inr ⟨w.goes i H hlt gH, Pv (i + 1), fun H' p' => ⟨ds.length - (i + 1), by omega, rfl, hlt, p'⟩, fun x H' y => ?_⟩
    obtain ⟨d, F3, hd, n, hdt⟩ := hY i F2 H x H' hlt e2 R2.ex (w.yields i H x H' hlt gH y)
    have dr : ds.drop i = d :: ds.drop (i + 1) := by
      obtain ⟨hi', e⟩ := List.getElem?_eq_some_iff.mp hd
      rw [List.drop_eq_getElem_cons hi', e]
    rw [dr] at a2
    obtain ⟨ws3, R3, f3, hD3, hacc3, nd3⟩ := s2.new n
    have R4 := R3.guard f3 hD3
    unfold dc2S at a2
    cases e0 : A d (wipeE env vs) with
    | none => simp only [e0] at a2; exact a2.elim
    | some env3 =>
      simp only [e0] at a2
      refine ⟨_, F3, wipeE env vs, μ2, as2, d, env3, R4, hdt, e0, fun σ2 sl R5 => ⟨wipe_eq sl hss, ?_⟩⟩
      refine ⟨_, F3, env3, μ2, as2, R5, ?_⟩
      have e13 : Ex F1 F3 := e2.trans n.f
      have ungd : ∀ {F6 H6 : Hp} {m6 : Mu} {as6 : List (Option Addr)}, Ex F3 F6 → Rel (c.w (yy.gd F3 Dl (.dT ws3))) F6 H6 σ2 env3 m6 as6 → H6 Dl = some (.dT ws3) ∧ Free F6 as6 yy Dl ∧ Rel (c.w yy) F6 H6 σ2 env3 m6 as6 := fun {F6 H6 m6 as6} e6 R => R3.unguard f3 (fun xs z => by cases z) R e6
      have outer : ∀ {F6 H6 : Hp} {m6 : Mu} {as6 : List (Option Addr)} {σ6 : L2.St} {env6 : Env}, Ex F3 F6 → L2.wipe σ6 vs = L2.wipe σ vs → Rel (c.w yy) F6 H6 σ6 env6 m6 as6 → Rel (c.w yy) F6 H6 (L2.wipe σ vs) (wipeE env vs) m6 as6 := fun {F6 H6 m6 as6 σ6 env6} e6 ew R => by
        refine R3.unwipe (vs := vs) (env2 := wipeE env6 vs) e6 ?_
        have := R.wipe (vs := vs) hv
        rw [ew] at this
        have w2 : L2.wipe (L2.wipe σ vs) vs = L2.wipe σ vs := wipe_eq ⟨rfl, fun _ _ => rfl⟩ hss
        rw [w2]
        exact this
      cases e4 : p env3 μ2 with
      | none => simp only [e4] at a2; exact a2.elim
      | some z =>
        simp only [e4] at a2
        cases z with
        | err y fs m => exact a2.elim
        | ok b m =>
          intro b' F5 H5 as5 x5 y5 R6 eb
          subst eb
          cases b' with
          | false =>
            rw [if_neg Bool.false_ne_true]
            obtain ⟨g1, g2, g3⟩ := ungd x5 R6
            exact ⟨F5, m, as5, acc, e13.trans x5, l2.trans y5, ⟨ws3, outer x5 (wipe_eq sl hss) g3, g2, g1, Dtk.mono x5 _ _ hacc3, nd3⟩, a2⟩
          | true =>
            rw [if_pos rfl]
            simp only at a2
            refine ⟨_, F5, env3, m, as5, R6, ?_⟩
            cases e6 : it1 env3 m with
            | none => simp only [e6] at a2; exact a2.elim
            | some z =>
              simp only [e6] at a2
              cases z with
              | err y fs m => exact a2.elim
              | ok ds1 m2 =>
                intro J1 F7 H7 as7 x7 y7 R8 pJ1
                obtain ⟨G1, Y1, w1, hG1, hY1⟩ := pJ1
                simp only at a2
                obtain ⟨g1, g2, g3⟩ := ungd (x5.trans x7) R8
                have e37 : Ex F3 F7 := x5.trans x7
                refine dc_in w1 (fun j H => ∃ F9 μ9 as9 acc9, Ex F7 F9 ∧ AsLe as7 as9 ∧ KSt c yy σ2 env3 vs1 Dl F9 H μ9 as9 acc9 ∧
                    Aft (PD c) (c.w yy) W F1 σ env as1 (match (dcS A1 p1 fk fv (wipeE env3 vs1) (ds1.drop j) acc9 μ9).bind fun q => dc2S A p it1 vs1 A1 p1 fk fv (wipeE env vs) (ds.drop (i + 1)) q.1 q.2 with
                      | none => none
                      | some (acc, μ') => some (.ok (.dct true acc) μ')) Q) ?_ ?_ ?_ ?_
                · exact ⟨F7, m2, as7, acc, Evl.Ex.refl _, AsLe.refl _, ⟨ws3, g3.wipe hv1, g2, g1, Dtk.mono e37 _ _ hacc3, nd3⟩, a2⟩
                · rintro j H hj ⟨F9, μ9, as9, acc9, e9, l9, ⟨_, R9, _⟩, _⟩
                  exact hG1 H (e9.trans R9.ex)
                · rintro j x H H' hj ⟨F9, μ9, as9, acc9, e9, l9, s9, a9⟩ hy
                  obtain ⟨ws9, R9, _⟩ := id s9
                  obtain ⟨d1, F10, hd1, n1, hdt1⟩ := hY1 j F9 H x H' hj e9 R9.ex hy
                  have dr1 : ds1.drop j = d1 :: ds1.drop (j + 1) := by
                    obtain ⟨hj', e⟩ := List.getElem?_eq_some_iff.mp hd1
                    rw [List.drop_eq_getElem_cons hj', e]
                  rw [dr1] at a9
                  unfold dcS at a9
                  cases et : dcT A1 p1 fk fv (wipeE env3 vs1) d1 acc9 μ9 with
                  | none => rw [et] at a9; exact a9.elim
                  | some r =>
                    rw [et] at a9
                    exact dc_turn hv1 hss1 (s9.new n1) hdt1 et fun F' H' as' x y s' => ⟨F', _, as', _, (e9.trans n1.f).trans x, l9.trans y, s', a9⟩
                · rintro H ⟨F9, μ9, as9, acc9, e9, l9, ⟨ws9, R9, f9, hD9, hacc9, nd9⟩, a9⟩
                  rw [List.drop_length] at a9
                  have ew : L2.wipe (L2.wipe σ2 vs1) vs = L2.wipe σ vs := by
                    rw [← wipe_eq sl hss]
                    apply List.ext_getElem?
                    intro j
                    rw [wipe_get, wipe_get, wipe_length, wipe_get]
                    by_cases q : j ∈ vs ∧ j < σ2.length
                    · rw [if_pos q, if_pos q]
                    · rw [if_neg q, if_neg q, if_neg (fun z => q ⟨h11 j z.1, z.2⟩)]
                  exact ⟨F9, μ9, as9, acc9, (e13.trans e37).trans e9, ((l2.trans y5).trans y7).trans l9, ⟨ws9, outer (e37.trans e9) ew R9, f9, hD9, hacc9, nd9⟩, a9⟩
  · obtain rfl : i = ds.length := by omega
    refine .inl ⟨w.stops H gH, ?_⟩
    rw [List.drop_length] at a2
    obtain ⟨us, hu, z⟩ := s2.done R1 e2
    refine ⟨Dl, _, rfl, hu, trivial, fun od => ?_⟩
    obtain ⟨F', x', R', d'⟩ := z od
    exact a2 (.ref Dl) F' _ as2 (e2.trans x') l2 R' d'
def mDc1 (vs : List Nat) (it : Mx (List D)) (A : Am) (p : Mx Bool) (fk fv : Em) : Em := bnd it fun ds env μ => match dcS A p fk fv (wipeE env vs) ds [] μ with
  | none => none
  | some (acc, μ') => some (.ok (.dct true acc) μ')
theorem t_dc1 {Q : VK} (hv : ∀ v ∈ vs, noSlot c.sl v) (hss : ∀ j ∈ ss, j ∈ vs) (h : T c W (mDc1 vs it A p fk fv) σ H Q) :
    tFz (tDc1 (IX c W it) (AX c A ss) (TB c W0 p) (T c W0 fk) (T c W0 fv) vs) σ H Q := by
  obtain ⟨yy, F, env, μ, as, R, q⟩ := h
  refine (aft_bind (P := PI' c) R q).imp fun J H1 ⟨ds, F1, μ1, as1, x1, y1, pJ, R1, a1⟩ => ?_
  intro Dl hD
  obtain ⟨G, Y, w, hG, hY⟩ := pJ
  have fr := R1.fresh hD
  refine dc_in w (fun i H => ∃ F2 μ2 as2 acc, Ex F1 F2 ∧ AsLe as1 as2 ∧ KSt c yy σ env vs Dl F2 H μ2 as2 acc ∧
      Aft (PD c) (c.w yy) W F1 σ env as1 (match dcS A p fk fv (wipeE env vs) (ds.drop i) acc μ2 with
        | none => none
        | some (acc, μ') => some (.ok (.dct true acc) μ')) Q) ?_ ?_ ?_ ?_
  · exact ⟨F1, μ1, as1, [], Evl.Ex.refl _, AsLe.refl _, ⟨[], (R1.wipe (vs := vs) hv).lay (ho := .dT []) fr (.inl hD), fr, upd_same, rfl, List.nodup_nil⟩, a1⟩
  · rintro i H hi ⟨F2, μ2, as2, acc, e2, l2, ⟨_, R2, _⟩, _⟩
    exact hG H (e2.trans R2.ex)
  · rintro i x H H' hi ⟨F2, μ2, as2, acc, e2, l2, s2, a2⟩ hy
    obtain ⟨_, R2, _⟩ := id s2
    obtain ⟨d, F3, hd, n, hdt⟩ := hY i F2 H x H' hi e2 R2.ex hy
    have dr : ds.drop i = d :: ds.drop (i + 1) := by
      obtain ⟨hi', e⟩ := List.getElem?_eq_some_iff.mp hd
      rw [List.drop_eq_getElem_cons hi', e]
    rw [dr] at a2
    unfold dcS at a2
    cases et : dcT A p fk fv (wipeE env vs) d acc μ2 with
    | none => rw [et] at a2; exact a2.elim
    | some r =>
      rw [et] at a2
      exact dc_turn hv hss (s2.new n) hdt et fun F' H' as' x y s' => ⟨F', _, as', _, (e2.trans n.f).trans x, l2.trans y, s', a2⟩
  · rintro H ⟨F2, μ2, as2, acc, e2, l2, s2, a2⟩
    rw [List.drop_length] at a2
    obtain ⟨us, hu, z⟩ := s2.done R1 e2
    refine ⟨Dl, _, rfl, hu, trivial, fun od => ?_⟩
    obtain ⟨F', x', R', d'⟩ := z od
    exact a2 (.ref Dl) F' _ as2 (e2.trans x') l2 R' d'
theorem de_dc1 {scope : Scope} {own : List (Str × Nat)} (h : PE X (.DictComp kx vx [⟨tg, iter, ifs, 0⟩] scope pos) (tDc1 (IX c W it) (AX c A ss) (TB c W0 p) (T c W0 fk) (T c W0 fv) (own.map (·.2)))) (hv : ∀ v ∈ own.map (·.2), noSlot c.sl v) (hss : ∀ j ∈ ss, j ∈ own.map (·.2)) :
    PE X (.DictComp kx vx [⟨tg, iter, ifs, 0⟩] scope pos) (T c W (mDc1 (own.map (·.2)) it A p fk fv)) := impE (pe_fz h) fun _ _ _ hw => t_dc1 hv hss hw
theorem de_dc2 {scope : Scope} {own : List (Str × Nat)} (h : PE X (.DictComp kx vx [⟨tg, iter, ifs, 0⟩, ⟨tg1, iter1, ifs1, 0⟩] scope pos) (tDc2 (IX c W it) (AX c A ss) (TB c W0 p) (IX c W0 it1) (AX c A1 ss1) (TB c W0 p1) (T c W0 fk) (T c W0 fv) (own.map (·.2)) vs1)) (hv : ∀ v ∈ own.map (·.2), noSlot c.sl v) (hss : ∀ j ∈ ss, j ∈ own.map (·.2))
    (hv1 : ∀ v ∈ vs1, noSlot c.sl v) (hss1 : ∀ j ∈ ss1, j ∈ vs1) (h11 : ∀ v ∈ vs1, v ∈ own.map (·.2)) :
    PE X (.DictComp kx vx [⟨tg, iter, ifs, 0⟩, ⟨tg1, iter1, ifs1, 0⟩] scope pos) (T c W (mDc2 (own.map (·.2)) it A p it1 vs1 A1 p1 fk fv)) := impE (pe_fz h) fun _ _ _ hw => t_dc2 hv hss hv1 hss1 h11 hw
end
end Sh
namespace Sh
open PySem PySem.Spec PyProof.Rows L2
variable [Wd]
/-! ### sorted -/
section
variable {α : Type} {key : α → Int}
def insK (key : α → Int) (x : α) : List α → List α
  | [] => [x]
  | y :: r => if key x ≤ key y then x :: y :: r else y :: insK key x r
def sortK (key : α → Int) : List α → List α
  | [] => []
  | x :: r => insK key x (sortK key r)
theorem insK_perm (x : α) : ∀ l : List α, (insK key x l).Perm (x :: l)
  | [] => List.Perm.refl _
  | y :: r => by
    unfold insK
    split
    · exact List.Perm.refl _
    · exact ((insK_perm x r).cons y).trans (List.Perm.swap x y r)
theorem sortK_perm : ∀ l : List α, (sortK key l).Perm l
  | [] => List.Perm.refl _
  | x :: r => (insK_perm x _).trans ((sortK_perm r).cons x)
theorem insK_sorted (x : α) : ∀ l : List α, l.Pairwise (fun a b => key a ≤ key b) → (insK key x l).Pairwise (fun a b => key a ≤ key b)
  | [], _ => List.pairwise_singleton _ _
  | y :: r, h => by
    unfold insK
    obtain ⟨h1, h2⟩ := List.pairwise_cons.mp h
    by_cases q : key x ≤ key y
    · rw [if_pos q]
      refine List.pairwise_cons.mpr ⟨fun z hz => ?_, h⟩
      rcases List.mem_cons.mp hz with e | e
      · rw [e]; exact q
      · have := h1 z e; omega
    · rw [if_neg q]
      refine List.pairwise_cons.mpr ⟨fun z hz => ?_, insK_sorted x r h2⟩
      rcases List.mem_cons.mp ((insK_perm x r).mem_iff.mp hz) with e | e
      · rw [e]; omega
      · exact h1 z e
theorem sortK_sorted : ∀ l : List α, (sortK key l).Pairwise (fun a b => key a ≤ key b)
  | [] => List.Pairwise.nil
  | x :: r => insK_sorted x _ (sortK_sorted r)
theorem sorted_uniq : ∀ {l m : List α}, l.Perm m → (∀ a ∈ l, ∀ b ∈ l, key a = key b → a = b) → l.Pairwise (fun a b => key a ≤ key b) → m.Pairwise (fun a b => key a ≤ key b) → l = m
  | [], m, p, _, _, _ => (List.Perm.eq_nil p.symm).symm
  | a :: l, [], p, _, _, _ => by have := p.length_eq; simp at this
  | a :: l, b :: m, p, hi, h1, h2 => by
    obtain ⟨g1, g2⟩ := List.pairwise_cons.mp h1
    obtain ⟨g3, g4⟩ := List.pairwise_cons.mp h2
    have hb : b ∈ a :: l := p.mem_iff.mpr List.mem_cons_self
    have ha : a ∈ b :: m := p.mem_iff.mp List.mem_cons_self
    have e1 : key a ≤ key b := by
      rcases List.mem_cons.mp hb with e | e
      · rw [e]; exact Int.le_refl _
      · exact g1 b e
    have e2 : key b ≤ key a := by
      rcases List.mem_cons.mp ha with e | e
      · rw [e]; exact Int.le_refl _
      · exact g3 a e
    have e : a = b := hi a List.mem_cons_self b hb (by omega)
    subst e
    rw [sorted_uniq (List.Perm.cons_inv p) (fun x hx y hy => hi x (List.mem_cons_of_mem _ hx) y (List.mem_cons_of_mem _ hy)) g2 g4]
end
abbrev cB : Int := 1099511627776
theorem code_inj {B : Int} : ∀ {n m : List Int}, n.length = m.length → TS.Bd B n → TS.Bd B m → TS.code B n = TS.code B m → n = m
  | [], [], _, _, _, _ => rfl
  | [], _ :: _, h, _, _, _ => by cases h
  | _ :: _, [], h, _, _, _ => by cases h
  | a :: n, b :: m, h, h1, h2, e => by
    have hl : n.length = m.length := by simpa using h
    have hab : a = b := by
      rcases Int.lt_trichotomy a b with z | z | z
      · have := TS.code_lt hl h1.tail h2.tail z; omega
      · exact z
      · have := TS.code_lt hl.symm h2.tail h1.tail z; omega
    subst hab
    have e' : TS.code B n = TS.code B m := by
      have z : a * B ^ n.length + TS.code B n = a * B ^ m.length + TS.code B m := e
      rw [hl] at z; omega
    rw [code_inj hl h1.tail h2.tail e']
/-- tuples of ints -/
def dTups : List D → Option (List (List Int))
  | [] => some []
  | .tup xs :: r => (dInts xs).bind fun n => (dTups r).map fun m => n :: m
  | _ :: _ => none
def tupI (ns : List Int) : D := .tup (ns.map D.int)
theorem dTups_eq : ∀ {ds : List D} {n : List (List Int)}, dTups ds = some n → ds = n.map tupI
  | [], n, h => by cases h; rfl
  | d :: r, n, h => by
    cases d with
    | tup xs =>
      obtain ⟨k, h1, h2⟩ := Option.bind_eq_some_iff.mp (show (dInts xs).bind _ = some n from h)
      obtain ⟨m, h3, rfl⟩ := Option.map_eq_some_iff.mp h2
      rw [dTups_eq h3, dInts_eq h1]
      rfl
    | _ => cases h
def okT (d : Nat) (n : List Int) : Bool := decide (n.length = d) && n.all fun m => decide (0 ≤ m) && decide (m < cB)
theorem okT_ok {d : Nat} {n : List Int} (h : okT d n = true) : n.length = d ∧ TS.Bd cB n := by
  obtain ⟨h1, h2⟩ := Bool.and_eq_true_iff.mp h
  refine ⟨of_decide_eq_true h1, fun m hm => ?_⟩
  obtain ⟨h3, h4⟩ := Bool.and_eq_true_iff.mp (List.all_eq_true.mp h2 m hm)
  exact ⟨of_decide_eq_true h3, of_decide_eq_true h4⟩
def gSort : List D → Option D
  | [.lst xs] => match dInts xs with
    | some ns => some (.lst ((sortK id ns).map D.int))
    | none => match dTups xs with
      | some [] => none
      | some (n :: ns) => if (decide (1 ≤ n.length) && (n :: ns).all (okT n.length) && decide ((n :: ns).length < 64)) = true then some (.lst ((sortK (TS.code cB) (n :: ns)).map tupI)) else none
      | none => none
  | _ => none
def rSort2 (K : PySem.W.Frag) : RC := fun vs H Q => rSortedI K vs H Q ∨ ∃ d, 1 ≤ d ∧ rSortU K d cB vs H Q
section
variable {K : PySem.W.Frag} {X : Cx}
theorem call_sort2 : CallR X (.builtin "sorted") (rSort2 X.K) := by
  intro pins s σ H xs us Q I rx h
  rcases h with h | ⟨d, hd, h⟩
  · exact cr_sortedI pins s σ H xs us Q I rx h
  · exact cr_sortT hd pins s σ H xs us Q I rx h
theorem Dts.perm {F : Hp} {ys xs : List V} (p : ys.Perm xs) : ∀ {ds : List D}, Dts K F ds xs → ∃ ds', ds'.Perm ds ∧ Dts K F ds' ys := by
  induction p with
  | nil => exact fun {ds} h => ⟨ds, List.Perm.refl _, h⟩
  | @cons x l m _ ih =>
    intro ds h
    cases ds with
    | nil => cases (show x :: m = [] from h)
    | cons d ds =>
      obtain ⟨y, r, e, h1, h2⟩ := h
      cases e
      obtain ⟨ds', p', h3⟩ := ih h2
      exact ⟨d :: ds', p'.cons d, x, l, rfl, h1, h3⟩
  | swap x y l =>
    intro ds h
    cases ds with
    | nil => cases (show x :: y :: l = [] from h)
    | cons d ds =>
      obtain ⟨a, r, e, h1, h2⟩ := h
      cases e
      cases ds with
      | nil => cases (show y :: l = [] from h2)
      | cons d2 ds =>
        obtain ⟨a, r, e, h3, h4⟩ := h2
        cases e
        exact ⟨d2 :: d :: ds, List.Perm.swap d d2 ds, y, _, rfl, h3, x, _, rfl, h1, h4⟩
  | trans _ _ ih1 ih2 =>
    intro ds h
    obtain ⟨d1, p1, h1⟩ := ih2 h
    obtain ⟨d2, p2, h2⟩ := ih1 h1
    exact ⟨d2, p2.trans p1, h2⟩
theorem perm_map {α : Type} {f : α → D} : ∀ {l : List α} {m : List D}, m.Perm (l.map f) → ∃ l' : List α, l'.Perm l ∧ m = l'.map f := by
  intro l m p
  have : ∀ {a b : List D}, a.Perm b → ∀ l : List α, b = l.map f → ∃ l' : List α, l'.Perm l ∧ a = l'.map f := by
    intro a b p
    induction p with
    | nil => intro l e; exact ⟨l, List.Perm.refl _, e⟩
    | @cons x a b _ ih =>
      intro l e
      cases l with
      | nil => cases e
      | cons y l =>
        injection e with e1 e2
        obtain ⟨l', p', e'⟩ := ih l e2
        exact ⟨y :: l', p'.cons y, by rw [e1, e']; rfl⟩
    | swap x y a =>
      intro l e
      match l, e with
      | u :: v :: l, e =>
        injection e with e1 e2
        injection e2 with e2 e3
        exact ⟨v :: u :: l, List.Perm.swap u v l, by rw [e1, e2, e3]; rfl⟩
    | trans _ _ ih1 ih2 =>
      intro l e
      obtain ⟨l1, p1, e1⟩ := ih2 l e
      obtain ⟨l2, p2, e2⟩ := ih1 l1 e1
      exact ⟨l2, p2.trans p1, e2⟩
  exact this p l rfl
theorem Dts.tupI {F H : Hp} (e : Ex F H) : ∀ {ns : List (List Int)} {vs : List V}, Dts K F (ns.map tupI) vs → ∀ {i : Nat} {v : V} {n : List Int}, vs[i]? = some v → ns[i]? = some n → TupI K H v n := by
  intro ns vs h i v n hv hn
  obtain ⟨w, hw, a, ws, ea, h1, h2⟩ := h.at (i := i) (d := Sh.tupI n) (by rw [List.getElem?_map, hn]; rfl)
  rw [hv] at hw
  cases hw
  rw [Dts.ints.mp h2] at h1
  exact ⟨a, ea, SqT.of (e _ _ h1)⟩
theorem sem_sort : CSem K (rSort2 K) gSort := by
  intro F H vs ds d Q eF hd e k
  match ds, e with
  | [.lst xs], e =>
    obtain ⟨v, rfl, a, ws, rfl, h1, h2⟩ := hd.one_inv
    have e : (match dInts xs with
      | some ns => some (D.lst ((sortK id ns).map D.int))
      | none => match dTups xs with
        | some [] => none
        | some (n :: ns) => if (decide (1 ≤ n.length) && (n :: ns).all (okT n.length) && decide ((n :: ns).length < 64)) = true then some (D.lst ((sortK (TS.code cB) (n :: ns)).map tupI)) else none
        | none => none) = some d := e
    cases ei : dInts xs with
    | some ns =>
      rw [ei] at e
      cases e
      rw [dInts_eq ei] at h2
      rw [Dts.ints.mp h2] at h1
      refine .inl ⟨a, ns, rfl, SqL.of (eF _ _ h1), fun ns' p pm hs hp => ?_⟩
      have eq : ns' = sortK id ns := sorted_uniq (key := id) (pm.trans (sortK_perm (key := id) ns).symm) (fun _ _ _ _ z => z) hs (sortK_sorted ns)
      have n := new1 (o := .lst (ns'.map V.int)) eF hp
      refine k _ _ _ n ⟨p, _, rfl, upd_same, ?_⟩
      rw [← eq]
      exact Dts.ints.mpr rfl
    | none =>
      rw [ei] at e
      cases et : dTups xs with
      | none => simp only [et] at e; cases e
      | some nn =>
        cases nn with
        | nil => simp only [et] at e; cases e
        | cons n0 ns0 =>
          simp only [et] at e
          by_cases hc : (decide (1 ≤ n0.length) && (n0 :: ns0).all (okT n0.length) && decide ((n0 :: ns0).length < 64)) = true
          · rw [if_pos hc] at e
            cases e
            obtain ⟨hc1, hc3⟩ := Bool.and_eq_true_iff.mp hc
            obtain ⟨hc1, hc2⟩ := Bool.and_eq_true_iff.mp hc1
            rw [dTups_eq et] at h2
            have ok : ∀ n ∈ n0 :: ns0, n.length = n0.length ∧ TS.Bd cB n := fun n hn => okT_ok (List.all_eq_true.mp hc2 n hn)
            refine .inr ⟨n0.length, of_decide_eq_true hc1, a, ws, rfl, SqL.of (eF _ _ h1), by rw [h2.len, List.length_map]; exact of_decide_eq_true hc3, fun x hx => ?_, fun ys p pm hs hp => ?_⟩
            · obtain ⟨i, hi, ex⟩ := List.mem_iff_getElem.mp hx
              have hi' : i < (n0 :: ns0).length := by rw [h2.len, List.length_map] at hi; exact hi
              refine ⟨(n0 :: ns0)[i], h2.tupI eF (i := i) (by rw [List.getElem?_eq_getElem hi, ex]) (List.getElem?_eq_getElem hi'), ok _ (List.getElem_mem hi')⟩
            · obtain ⟨ds', pd, hys⟩ := h2.perm pm
              obtain ⟨nn, pn, rfl⟩ := perm_map pd
              have srt : nn.Pairwise (fun a b => TS.code cB a ≤ TS.code cB b) := by
                rw [List.pairwise_iff_getElem]
                intro i j hi hj hij
                have li : i < ys.length := by rw [hys.len, List.length_map]; exact hi
                have lj : j < ys.length := by rw [hys.len, List.length_map]; exact hj
                exact (List.pairwise_iff_getElem.mp hs) i j li lj hij nn[i] nn[j] (hys.tupI eF (i := i) (List.getElem?_eq_getElem li) (List.getElem?_eq_getElem hi)) (hys.tupI eF (i := j) (List.getElem?_eq_getElem lj) (List.getElem?_eq_getElem hj))
              have eq : nn = sortK (TS.code cB) (n0 :: ns0) := sorted_uniq (pn.trans (sortK_perm (key := TS.code cB) (n0 :: ns0)).symm) (fun x hx y hy z => by
                obtain ⟨l1, b1⟩ := ok x (pn.mem_iff.mp hx)
                obtain ⟨l2, b2⟩ := ok y (pn.mem_iff.mp hy)
                exact code_inj (l1.trans l2.symm) b1 b2 z) srt (sortK_sorted _)
              have n := new1 (o := .lst ys) eF hp
              rw [← eq] at k
              exact k _ _ _ n ⟨p, ys, rfl, upd_same, Dts.mono n.f _ _ hys⟩
          · rw [if_neg hc] at e; cases e
variable {c : Ct} {W : WX} {k : Nat} {pos p : Pos} {e : Expr} {es : List Expr} {l : Mx (List D)}
theorem de_sorted (B : Bd X c k) (hg : Gl X "sorted") (hm : X.mg "sorted" = none) (ha : PA X (e :: es) (TL c W l)) (he : starEach (e :: es) X.env = (false, eval e X.env) :: starEach es X.env := by rfl) (hpl : (backTo pos (starEach es X.env)).any (·.1) = false := by rfl) : PE X (.Call (.Name "sorted" p) (e :: es) [] pos) (T c W (mCall gSort l)) :=
  de_callB call_sort2 (by rw [B.K]; exact sem_sort) hg hm (by decide +kernel) ha (by decide) (by decide) he hpl
end
end Sh
namespace Sh
open PySem PySem.Spec PyProof.Rows L2
variable [Wd]
/-! ### own dicts whose keys are ints and texts -/
abbrev Kds := List (Key × D)
def klook : Kds → Key → Option D
  | [], _ => none
  | (j, d) :: r, k => if j = k then some d else klook r k
def kput : Kds → Key → D → Kds
  | [], k, d => [(k, d)]
  | (j, e) :: r, k, d => if j = k then (j, d) :: r else (j, e) :: kput r k d
section
variable {K : PySem.W.Frag} {F : Hp}
theorem Dtd.len : ∀ {ds : Kds} {vs : List (Key × V)}, Dtd K F ds vs → vs.length = ds.length
  | [], _, h => by rw [show _ = ([] : List (Key × V)) from h]; rfl
  | (k, d) :: r, _, ⟨x, t, e, h1, h2⟩ => by subst e; rw [List.length_cons, List.length_cons, Dtd.len h2]
theorem Dtd.look : ∀ {ks : Kds} {kvs : List (Key × V)} {k : Key} {d : D}, Dtd K F ks kvs → klook ks k = some d → ∃ v, valV kvs k = some v ∧ Dt K F d v
  | [], _, _, _, _, e => by cases e
  | (j, d0) :: r, _, k, d, ⟨x, t, e, h1, h2⟩, g => by
    subst e
    unfold klook at g
    by_cases q : j = k
    · rw [if_pos q] at g; cases g; exact ⟨x, valV_pos (p := (j, x)) q, h1⟩
    · rw [if_neg q] at g
      obtain ⟨v, hv, hd⟩ := Dtd.look h2 g
      exact ⟨v, by rw [valV_neg (p := (j, x)) q]; exact hv, hd⟩
theorem Dtd.keys : ∀ {ks : Kds} {kvs : List (Key × V)}, Dtd K F ks kvs → kvs.map (·.1) = ks.map (·.1)
  | [], _, h => by rw [show _ = ([] : List (Key × V)) from h]; rfl
  | (k, d) :: r, _, ⟨x, t, e, h1, h2⟩ => by subst e; rw [List.map_cons, List.map_cons, Dtd.keys h2]
theorem kmap_same : ∀ {r : List (Key × V)} {k : Key} {v : V}, ¬ k ∈ r.map (·.1) → r.map (fun kv => if kv.1 = k then (kv.1, v) else kv) = r
  | [], _, _, _ => rfl
  | p :: r, k, v, h => by
    have h1 : ¬ p.1 = k := fun e => h (by rw [List.map_cons, e]; exact List.mem_cons_self)
    have h2 : ¬ k ∈ r.map (·.1) := fun m => h (by rw [List.map_cons]; exact List.mem_cons_of_mem _ m)
    rw [List.map_cons, if_neg h1, kmap_same h2]
theorem kput_ne {p : Key × V} {r : List (Key × V)} {k : Key} {v : V} (e : ¬ p.1 = k) : putK (p :: r) k v = p :: putK r k v := by
  unfold putK
  have h : ((p :: r).any fun kv => decide (kv.1 = k)) = (r.any fun kv => decide (kv.1 = k)) := by rw [List.any_cons, decide_eq_false e, Bool.false_or]
  rw [h]
  by_cases q : (r.any fun kv => decide (kv.1 = k)) = true
  · rw [if_pos q, if_pos q, List.map_cons, if_neg e]
  · rw [if_neg q, if_neg q]; rfl
theorem kput_eq {p : Key × V} {r : List (Key × V)} {k : Key} {v : V} (e : p.1 = k) (hn : ¬ k ∈ r.map (·.1)) : putK (p :: r) k v = (p.1, v) :: r := by
  unfold putK
  rw [if_pos (by rw [List.any_cons, decide_eq_true e, Bool.true_or]), List.map_cons, if_pos e, kmap_same hn]
theorem Dtd.put : ∀ {ks : Kds} {kvs : List (Key × V)} {k : Key} {d : D} {v : V}, Dtd K F ks kvs → Dt K F d v → (ks.map (·.1)).Nodup → Dtd K F (kput ks k d) (putK kvs k v)
  | [], _, k, d, v, h, g, _ => by
    rw [show _ = ([] : List (Key × V)) from h]
    exact ⟨v, [], rfl, g, rfl⟩
  | (j, d0) :: r, _, k, d, v, ⟨x, t, e, h1, h2⟩, g, n => by
    subst e
    obtain ⟨n1, n2⟩ := List.nodup_cons.mp (show (j :: r.map (·.1)).Nodup from n)
    unfold kput
    by_cases q : j = k
    · rw [if_pos q, kput_eq (p := (j, x)) q (by rw [Dtd.keys h2]; rw [q] at n1; exact n1)]
      exact ⟨v, t, rfl, g, h2⟩
    · rw [if_neg q, kput_ne (p := (j, x)) q]
      exact ⟨x, _, rfl, h1, Dtd.put h2 g n2⟩
theorem kput_keys : ∀ (ks : Kds) (k : Key) (d : D), (ks.map (·.1)).Nodup → ((kput ks k d).map (·.1)).Nodup ∧ ∀ j, j ∈ (kput ks k d).map (·.1) → j = k ∨ j ∈ ks.map (·.1)
  | [], k, d, _ => ⟨by unfold kput; simp, fun j h => .inl (by unfold kput at h; simpa using h)⟩
  | (j0, e) :: r, k, d, n => by
    obtain ⟨n1, n2⟩ := List.nodup_cons.mp (show (j0 :: r.map (·.1)).Nodup from n)
    unfold kput
    by_cases q : j0 = k
    · rw [if_pos q]
      exact ⟨List.nodup_cons.mpr ⟨n1, n2⟩, fun j h => .inr h⟩
    · rw [if_neg q]
      obtain ⟨g1, g2⟩ := kput_keys r k d n2
      refine ⟨List.nodup_cons.mpr ⟨fun m => ?_, g1⟩, fun j h => ?_⟩
      · rcases g2 j0 m with z | z
        · exact q z
        · exact n1 z
      · rcases List.mem_cons.mp (show j ∈ j0 :: (kput r k d).map (·.1) from h) with z | z
        · exact .inr (by rw [z]; exact List.mem_cons_self)
        · rcases g2 j z with z | z
          · exact .inl z
          · exact .inr (List.mem_cons_of_mem _ z)
theorem noMd_put : ∀ {kvs : Kds} {k : Key} {d : D}, noMd kvs = true → noM d = true → noMd (kput kvs k d) = true
  | [], k, d, _, g => by unfold noMd kput; rw [List.all_cons, List.all_nil, g]; rfl
  | (j, e) :: r, k, d, h, g => by
    have h' : (noM e && noMd r) = true := by unfold noMd at h ⊢; rw [List.all_cons] at h; exact h
    obtain ⟨h1, h2⟩ := Bool.and_eq_true_iff.mp h'
    unfold kput
    by_cases q : j = k
    · rw [if_pos q]; exact (show (noM d && noMd r) = true from Bool.and_eq_true_iff.mpr ⟨g, h2⟩)
    · rw [if_neg q]; exact (show (noM e && noMd (kput r k d)) = true from Bool.and_eq_true_iff.mpr ⟨h1, noMd_put h2 g⟩)
end
/-- a key -/
def keyI : D → Option Key
  | .int i => some (.inl i)
  | .str x => some (.inr x)
  | _ => none
theorem keyI_eq {d : D} {k : Key} {K : PySem.W.Frag} {F : Hp} {v : V} (h : keyI d = some k) (hd : Dt K F d v) : v = kV k := by
  cases d with
  | int i => cases h; exact hd
  | str x => cases h; exact hd
  | _ => cases h
def obD' : Option Ob → Option Kds
  | some (.dk kvs) => some kvs
  | _ => none
theorem obD'_eq {o : Option Ob} {ds : Kds} (h : obD' o = some ds) : o = some (.dk ds) := by
  unfold obD' at h
  split at h
  · cases h; rfl
  · cases h
section
variable {c : Ct} {W : WX} {X : Cx} {i k : Nat} {pos : Pos} {st : Stmt} {e : Expr} {fk fv : Em}
/-- x = {} -/
def sOwnK (k i : Nat) : Sm := fun env μ => if (decide (k < μ.length) && decide (i < env.length)) = true then some (.nx (env.set i none) (μ.set k (.dk []))) else none
theorem ds_ownK (b : Bnd c k i) (h : PS X st (tAsg tDNewK (gName i))) : PS X st (SX c W (sOwnK k i)) := impS h fun De σ H ⟨yy, F, env, μ, as, R, q⟩ => by
  unfold sOwnK at q
  by_cases hc : (decide (k < μ.length) && decide (i < env.length)) = true
  · rw [if_pos hc] at q
    simp only [Bool.and_eq_true, decide_eq_true_eq] at hc
    intro p hp
    exact q _ F _ _ (Evl.Ex.refl _) (R.own' b hp ⟨by simp, by intro xs h; cases h⟩ trivial hc.1 (by rw [R.sz]; exact hc.2) ⟨⟨rfl, List.nodup_nil⟩, [], upd_same, rfl⟩)
  · rw [if_neg hc] at q; exact q.elim
/-- x[e1] = e2 -/
def sPutK (k : Nat) (fk fv : Em) : Sm := sBnd fv fun v => fun env μ => match obD' μ[k]? with
  | none => none
  | some _ => sBnd fk (fun kd env μ => match obD' μ[k]?, keyI kd with
    | some kvs, some key => if (noM v && decide (kvs.length < 100000)) = true then some (.nx env (μ.set k (.dk (kput kvs key v)))) else none
    | _, _ => none) env μ
theorem ds_putK (hsl : c.sl[k]? = some (some i)) (h : PS X st (sDPut (tVar i) (T c W fk) (T c W fv))) : PS X st (SX c W (sPutK k fk fv)) := impS h fun De σ H ⟨yy, F, env, μ, as, R, q⟩ => by
  refine (saft_bind (P := PD c) R q).imp fun v H1 ⟨d, F1, μ1, as1, x1, y1, p1, R1, a1⟩ => ?_
  cases e1 : obD' μ1[k]? with
  | none => simp only [e1] at a1; exact a1.elim
  | some kv0 =>
    simp only [e1] at a1
    obtain ⟨a, g1, ⟨_, vs0, g2, _⟩, g3⟩ := R1.own k _ (obD'_eq e1) trivial
    refine ⟨.ref a, g3 i hsl, ?_⟩
    refine (saft_bind (P := PD c) R1 a1).imp fun vk H2 ⟨kd, F2, μ2, as2, x2, y2, p2, R2, a2⟩ => ?_
    cases e2 : obD' μ2[k]? with
    | none => simp only [e2] at a2; exact a2.elim
    | some kvs =>
      cases e3 : keyI kd with
      | none => simp only [e2, e3] at a2; exact a2.elim
      | some key =>
        simp only [e2, e3] at a2
        by_cases hc : (noM d && decide (kvs.length < 100000)) = true
        · rw [if_pos hc] at a2
          simp only [Bool.and_eq_true, decide_eq_true_eq] at hc
          obtain ⟨a', h1, ⟨n1, ws, h2, h3⟩, h4⟩ := R2.own k _ (obD'_eq e2) trivial
          have z := y2 k a g1
          rw [h1] at z; cases z
          rw [keyI_eq e3 p2]
          refine ⟨a, _, rfl, DPut.k h2 (by rw [h3.len]; exact Evl.sz_lt hc.2), ?_⟩
          exact a2 σ F2 _ as2 (Evl.Ex.refl _) (R2.write h1 (obD'_eq e2) trivial ⟨by simp, by intro xs h; cases h⟩ ⟨⟨noMd_put n1.1 hc.1, (kput_keys kvs key d n1.2).1⟩, _, upd_same, h3.put (Dt.mono x2 _ _ p1) n1.2⟩)
        · rw [if_neg hc] at a2; exact a2.elim
/-- x[e] -/
def mGetK (k : Nat) (fk : Em) : Em := fun env μ => match obD' μ[k]? with
  | none => none
  | some _ => bnd fk (fun kd env μ => (obD' μ[k]?).bind fun kvs => (keyI kd).bind fun key => (klook kvs key).map fun d => .ok d μ) env μ
theorem de_getK {a : Expr} (hw : X.w = Wd.w) (hu : X.A.units + 9 < cLine) (hsl : c.sl[k]? = some (some i)) (hn : PE X a (tVar i)) (hk : PE X e (T c W fk)) (hs : PlainIx e) : PE X (.Subscript a e pos) (T c W (mGetK k fk)) :=
  impE (pe_ix (ix_K hw hu) hn hk hs) fun σ H Q ⟨yy, F, env, μ, as, R, q⟩ => by
    unfold mGetK at q
    cases e1 : obD' μ[k]? with
    | none => simp only [e1] at q; exact q.elim
    | some kv0 =>
      simp only [e1] at q
      obtain ⟨a, g1, ⟨_, vs0, g2, _⟩, g3⟩ := R.own k _ (obD'_eq e1) trivial
      refine ⟨.ref a, g3 i hsl, ?_⟩
      refine (aft_bind (P := PD c) R q).imp fun vk H1 ⟨kd, F1, μ1, as1, x1, y1, p1, R1, a1⟩ => ?_
      cases e2 : obD' μ1[k]? with
      | none => rw [e2] at a1; exact a1.elim
      | some kvs =>
        rw [e2] at a1
        cases e3 : keyI kd with
        | none => rw [e3] at a1; exact a1.elim
        | some key =>
          rw [e3] at a1
          cases e4 : klook kvs key with
          | none =>
            have a1 : Aft (PD c) (c.w yy) W F1 σ env as1 ((klook kvs key).map fun d => Res.ok d μ1) Q := a1
            rw [e4] at a1; exact a1.elim
          | some d =>
            have a1 : Aft (PD c) (c.w yy) W F1 σ env as1 ((klook kvs key).map fun d => Res.ok d μ1) Q := a1
            rw [e4] at a1
            obtain ⟨a', h1, ⟨n1, ws, h2, h3⟩, h4⟩ := R1.own k _ (obD'_eq e2) trivial
            have z := y1 k a g1
            rw [h1] at z; cases z
            rw [keyI_eq e3 p1]
            obtain ⟨v, hv, hd⟩ := h3.look e4
            refine ⟨a, v, rfl, ?_, a1 v F1 H1 as1 (Evl.Ex.refl _) (AsLe.refl _) R1 hd⟩
            rw [← hv]
            exact .inl (DGet.k h2)
end
end Sh
namespace Sh
open PySem PySem.Spec PyProof.Rows L2
variable [Wd]
/-! ### x = [e for ..], x to be changed later -/
def oLc (vs : List Nat) (it : Mx (List D)) (A : Am) (p : Mx Bool) (f : Em) : Mx Ob := bnd it fun ds env μ => match lcS A p f (wipeE env vs) ds [] μ with
  | none => none
  | some (acc, μ') => if noMs acc = true then some (.ok (.lst acc) μ') else none
section
variable {c : Ct} {W : WX} {σ : L2.St} {H : Hp} {it : Mx (List D)} {A : Am} {p : Mx Bool} {f : Em} {ss vs : List Nat} {X : Cx} {pos : Pos} {k i : Nat} {st : Stmt} {g : Mx Ob}
theorem t_lcO {Q : VK} (hv : ∀ v ∈ vs, noSlot c.sl v) (hss : ∀ j ∈ ss, j ∈ vs) (h : FrE c W (oLc vs it A p f) σ H Q) : tLc (IX c W it) (AX c A ss) (TB c W0 p) (T c W0 f) vs σ H Q := by
  obtain ⟨yy, F, env, μ, as, R, q⟩ := h
  refine ⟨yy, F, env, μ, as, R, ?_⟩
  unfold oLc bnd at q
  cases e1 : it env μ with
  | none => simp only [e1] at q
  | some z =>
    simp only [e1] at q
    cases z with
    | err x fs μ' => exact q
    | ok ds μ1 =>
      intro J F1 H1 as1 x1 y1 R1 pJ
      simp only at q
      intro Dl hD
      obtain ⟨G, Y, w, hG, hY⟩ := pJ
      have fr := R1.fresh hD
      let fin : Option (List D × Mu) → Prop := fun r => match r with
        | none => False
        | some (acc, μ') => noMs acc = true ∧ ∀ (F' H' : Hp) (as' : List (Option Addr)) (ws : List V), Ex F1 F' → AsLe as1 as' → Rel (c.w yy) F' H' σ env μ' as' → Free F' as' yy Dl → H' Dl = some (.lst ws) → Dts c.K F' acc ws → Q (.ref Dl) H'
      have q0 : fin (lcS A p f (wipeE env vs) ds [] μ1) := by
        cases er : lcS A p f (wipeE env vs) ds [] μ1 with
        | none => rw [er] at q; exact q
        | some r =>
          obtain ⟨acc, μ'⟩ := r
          rw [er] at q
          simp only at q
          by_cases hn : noMs acc = true
          · rw [if_pos hn] at q
            exact ⟨hn, fun F' H' as' ws x y R' f' hD' ha => q Dl (.lst ws) (.lst acc) F' H' as' (x1.trans x) (y1.trans y) R' f' hD' (.lst hn ha)⟩
          · rw [if_neg hn] at q; exact q.elim
      refine lc_it w (fun i H => ∃ F2 μ2 as2 acc, Ex F1 F2 ∧ AsLe as1 as2 ∧ LSt c yy σ env vs Dl F2 H μ2 as2 acc ∧ fin (lcS A p f (wipeE env vs) (ds.drop i) acc μ2)) ?_ ?_ ?_ ?_
      · exact ⟨F1, μ1, as1, [], Evl.Ex.refl _, AsLe.refl _, ⟨[], (R1.wipe (vs := vs) hv).lay (ho := .lst []) fr (.inl hD), fr, upd_same, rfl⟩, q0⟩
      · rintro i H hi ⟨F2, μ2, as2, acc, e2, l2, ⟨_, R2, _⟩, _⟩
        exact hG H (e2.trans R2.ex)
      · rintro i x H H' hi ⟨F2, μ2, as2, acc, e2, l2, s2, a2⟩ hy
        obtain ⟨_, R2, _⟩ := id s2
        obtain ⟨d, F3, hd, n, hdt⟩ := hY i F2 H x H' hi e2 R2.ex hy
        have dr : ds.drop i = d :: ds.drop (i + 1) := by
          obtain ⟨hi', e⟩ := List.getElem?_eq_some_iff.mp hd
          rw [List.drop_eq_getElem_cons hi', e]
        rw [dr, lcS_cons] at a2
        cases et : lcT A p f (wipeE env vs) d acc μ2 with
        | none => rw [et] at a2; exact a2.elim
        | some r =>
          rw [et] at a2
          exact lc_turn hv hss R1 (e2.trans n.f) (s2.new n) hdt et fun F' H' as' x y s' => ⟨F', _, as', _, (e2.trans n.f).trans x, l2.trans y, s', a2⟩
      · rintro H ⟨F2, μ2, as2, acc, e2, l2, ⟨ws, R2, f2, hD2, hacc⟩, a2⟩
        rw [List.drop_length] at a2
        exact a2.2 F2 H as2 ws e2 l2 (R1.unwipe (vs := vs) e2 R2) f2 hD2 hacc
theorem tAsg_own {t : TE} {De : Ends} (b : Bnd c k i) (himp : ∀ {σ : L2.St} {H : Hp} {Q : VK}, FrE c W g σ H Q → t σ H Q) (hw : SX c W (sOwn k i g) De σ H) : tAsg t (gName i) De σ H := by
  have z := t_mul (Q := fun vs H' => ∃ v, vs = [v] ∧ De.nx (σ.set i (some v)) H') (ts := [(i, some k)]) ⟨b, trivial⟩ hw fun vs H' hl _ q => by
    match vs, hl with
    | [a], _ => exact ⟨a, rfl, q⟩
  refine himp ?_
  obtain ⟨yy, F, env, μ, as, R, q⟩ := z
  refine ⟨yy, F, env, μ, as, R, ?_⟩
  unfold fOwn bnd at q
  cases e1 : g env μ with
  | none => simp only [e1] at q
  | some z =>
    simp only [e1] at q
    cases z with
    | err x fs μ' => exact q
    | ok o μ' =>
      intro p ho dd F1 H1 as1 x1 y1 R2 fr hp sh
      obtain ⟨v, ev, n⟩ := q [.ref p] F1 _ as1 x1 y1 R2 ⟨p, F1, ho, [], dd, rfl, hp, fr, sh, rfl⟩
      cases ev
      exact n
theorem ds_ownLc (b : Bnd c k i) (h : PS X st (tAsg (tLc (IX c W it) (AX c A ss) (TB c W0 p) (T c W0 f) vs) (gName i))) (hv : ∀ v ∈ vs, noSlot c.sl v) (hss : ∀ j ∈ ss, j ∈ vs) : PS X st (SX c W (sOwn k i (oLc vs it A p f))) :=
  impS h fun De σ H hw => tAsg_own b (fun z => t_lcO hv hss z) hw
/-- .. the list made from what x had -/
theorem ds_ownLcV {k2 i2 : Nat} (b : Bnd c k i) (hsl : c.sl[k2]? = some (some i2)) (h1 : k2 ≠ 1) (h : PS X st (tAsg (tLc (IX c W it) (AX c A ss) (TB c W0 p) (T c W0 f) vs) (gName i))) (hv : ∀ v ∈ vs, noSlot c.sl v) (hss : ∀ j ∈ ss, j ∈ vs) : PS X st (SX c W (sOwn k i (oView k2 i2 (oLc vs it A p f)))) :=
  impS h fun De σ H hw => tAsg_own b (fun z => t_lcO hv hss (t_viewO hsl h1 z)) hw
end
/-! ### the law's own def -/
theorem fn_L0 {P : Program} {w : World} {K : PySem.W.Frag} {mg : Str → Option Value} {base : Heap} {x qual : Str} {pa : Arguments} {bd : List Stmt} {sc : Scope} {f : Addr} {fd : FuncData} {N ps : List Str} {k : Nat} {g : Sg} {body : Sm} (F : FunD K x qual pa bd sc [] [] f fd) (S : FnScope N ps sc) (hN : ps.length ≤ N.length) (h1 : oneB g = true)
    (hw : w = Wd.w)
    (hbd : ∀ (cdv : Value) (A : Around) (outer : List PySem.Env) (s : Shared) (H : Hp) (E : XK), Bd (XD P w K mg base N qual sc f cdv A outer s H E) (g.c K) k → PSs (XD P w K mg base N qual sc f cdv A outer s H E) bd (SX (g.c K) W0 body)) :
    FnOk P w K mg base CX0 (k + 1) f fd ps (FSp0 K g (fnG g N.length body) ps.length) :=
  F.ok S (fun vs H Q E h => h.1) fun cdv A outer s H vs Q E hr h => ⟨_, PSs.nox (hbd cdv A outer s H E ⟨rfl, hr, rfl, hw⟩), fsp_body (X := XD P w K mg base N qual sc f cdv A outer s H E) (E := fun _ _ _ => False) rfl hN h1 (fun _ _ _ _ z => z) h.1 h.2⟩
/-! ### a def that calls itself: by levels -/
section
variable {P : Program} {w : World} {K : PySem.W.Frag} {mg : Str → Option Value} {base : Heap} {x qual : Str} {pa : Arguments} {bd : List Stmt} {sc : Scope} {f : Addr} {fd : FuncData} {N ps : List Str} {k : Nat} {g : Sg}
def fRec (g : Sg) (N : Nat) (body : Fm → Sm) : Nat → Fm
  | 0 => fnG g N sNo
  | n + 1 => fnG g N (body (fRec g N body n))
theorem fn_Rec (k0 : Nat) {body : Fm → Sm} (F : FunD K x qual pa bd sc [] [] f fd) (S : FnScope N ps sc) (hm : mg x = some (.ref f)) (hb : Binds K fd ps []) (hN : ps.length ≤ N.length) (h1 : oneB g = true)
    (hw : w = Wd.w)
    (hbd : ∀ (n : Nat) (cdv : Value) (A : Around) (outer : List PySem.Env) (s : Shared) (H : Hp) (E : XK), D0 P w K mg base x (k0 + n + 1) ps.length g (fRec g N.length body n) → Bd (XD P w K mg base N qual sc f cdv A outer s H E) (g.c K) (k0 + n + 1) →
      PSs (XD P w K mg base N qual sc f cdv A outer s H E) bd (SX (g.c K) W0 (body (fRec g N.length body n)))) : ∀ n, D0 P w K mg base x (k0 + n + 1) ps.length g (fRec g N.length body n)
  | 0 => fn_D0 F S hm hb hN h1 hw fun cdv A outer s H E B => impSs pss_never fun De σ H ⟨yy, F, env, μ, as, R, q⟩ => q
  | n + 1 => fn_D0 F S hm hb hN h1 hw fun cdv A outer s H E B => hbd n cdv A outer s H E (fn_Rec k0 F S hm hb hN h1 hw hbd n) B
end
end Sh
namespace Sh
open PySem PySem.Spec PyProof.Rows L2
variable [Wd]
/-! ### a list from its end -/
def gRev : List D → Option (List D)
  | [.lst xs] => some xs.reverse
  | _ => none
def mRev (l : Mx (List D)) : Mx (List D) := bnd l fun ds => lift (gRev ds)
theorem good_rev {K : PySem.W.Frag} {F : Hp} {a : Addr} {vs : List V} {ds : List D} (h : Dts K F ds vs) (hs : ∀ H, Ex F H → SqL K H a vs) : GoodIt K F (Itv K a vs.length) ds.reverse := by
  refine ⟨_, _, (by rw [List.length_reverse, ← h.len]; exact walk_rev), hs, fun i F1 H x H' hi e1 e2 y => ?_⟩
  obtain ⟨rfl, hx⟩ := y
  obtain ⟨d, hd, hdt⟩ := h.at_v hx
  rw [List.length_reverse] at hi
  refine ⟨d, F1, ?_, New.refl e2, Dt.mono e1 _ _ hdt⟩
  rw [List.getElem?_reverse hi, ← h.len]; exact hd
section
variable {c : Ct} {W : WX} {X : Cx} {e tg : Expr} {p pos : Pos} {l : Mx (List D)}
theorem di_rev (hK : X.K = c.K) (hg : Gl X "reversed") (hm : X.mg "reversed" = none) (ha : PA X [e] (TL c W l)) (hs : starEach [e] X.env = [(false, eval e X.env)] := by rfl) : PI X tg (.Call (.Name "reversed" p) [e] [] pos) (IX c W (mRev l)) :=
  impI (pi_reversed hg hm ha hs) fun σ H R ⟨yy, F, env, μ, as, r, q⟩ => by
    refine (aft_bind (P := PL c) r q).imp fun vs H1 ⟨ds, F1, μ1, as1, x1, y1, p1, R1, a1⟩ => ?_
    cases er : gRev ds with
    | none => rw [er] at a1; exact a1.elim
    | some zs =>
      rw [er] at a1
      match ds, er, p1 with
      | [.lst xs], er, p1 =>
        cases er
        obtain ⟨v, rfl, a, ws, rfl, h1, h2⟩ := Dts.one_inv p1
        exact ⟨a, ws, rfl, by rw [hK]; exact SqL.of (R1.ex _ _ h1), by rw [hK]; exact a1 _ F1 H1 as1 (Evl.Ex.refl _) (AsLe.refl _) R1 (good_rev h2 fun H x => SqL.of (x _ _ h1))⟩
end
/-! ### a dict of one's own with one pair, its key a tuple -/
def tD1 (tk tv : TE) : TE := fun σ H Q => ∀ p, H p = none → tk σ (upd H p (.dT [])) fun y H1 => tv σ H1 fun z H2 =>
  ∃ ky bk, y = .ref bk ∧ H2 p = some (.dT []) ∧ H2 bk = some (.tup (ky.map kV)) ∧ Q (.ref p) (upd H2 p (.dT [(ky, z)]))
def d1Q (Q : VK) (p : Addr) : List (V × V) → Hp → Prop
  | [(y, z)], H2 => ∃ ky bk, y = .ref bk ∧ H2 p = some (.dT []) ∧ H2 bk = some (.tup (ky.map kV)) ∧ Q (.ref p) (upd H2 p (.dT [(ky, z)]))
  | _, _ => False
theorem d1Q_inv {Q : VK} {p : Addr} : ∀ {ps : List (V × V)} {H2 : Hp}, d1Q Q p ps H2 → ∃ ky bk z, ps = [(.ref bk, z)] ∧ H2 p = some (.dT []) ∧ H2 bk = some (.tup (ky.map kV)) ∧ Q (.ref p) (upd H2 p (.dT [(ky, z)]))
  | [(y, z)], H2, h => by
    obtain ⟨ky, bk, rfl, h⟩ := h
    exact ⟨ky, bk, z, rfl, h⟩
theorem pe_d1 {X : Cx} {pos : Pos} {k v : Expr} {tk tv : TE} (hu : X.A.units < cLine) (hk : PE X k tk) (hv : PE X v tv) : PE X (.Dict [some k] [v] pos) (tD1 tk tv) := by
  refine ⟨fun pins s σ H Q I q => ?_⟩
  have hn := I.hok.fresh (Nat.le_refl s.heap.objs.size)
  have I1 := I.laid (a := s.heap.objs.size) (o := .dT []) (h' := s.heap.push { cls := .type "dict", data := .dict #[] }) (t' := s.toks) (fun _ _ q => Heap.get?_push_of_some _ q) (Nat.le_refl _) (dt_empty s.heap I.big)
  have q1 := q _ hn
  have all : ([some k] : List (Option Expr)).all (·.isSome) = true := rfl
  have h1 := (pps_cons (pos := pos) hk hv pps_nil).run pins _ σ _ (fun ps H2 => d1Q Q s.heap.objs.size ps H2) I1 q1
  rw [arm_eval_Dict, zip_pairTrees [some k] [v] X.env pos all rfl, dictDisplay_pairs (pairTrees [some k] [v] X.env pos) (by intro z; cases z) (Nat.le_add_left _ _)]
  refine wpAny_bind (wpAny_standAt (wpAny_bind (wpAny_subDictH (knd := tupleKind (mixKind X.prog X.w)) (Q := fun d s' => wpAny (model X.prog X.w) X.A (pure (Value.ref d)) _ _ s') hu (Nat.le_add_left _ _) (thn h1 ?_))))
  rintro us s2 ⟨ps, H2, I2, rel, qd⟩
  obtain ⟨ky, bk, z, rfl, hD, hb, q2⟩ := d1Q_inv qd
  cases rel with
  | cons r rr =>
    cases rr
    obtain ⟨r1, r2⟩ := r
    rename_i pr
    obtain ⟨u, x⟩ := pr
    cases (show u = Value.ref bk from r1)
    obtain ⟨_, nsys, xs, hx, dd⟩ := dt_of I2.hok hD
    cases hx
    refine ⟨[(ky, bk, x)], ⟨rfl, rfl, key_of I2.hok hb, trivial⟩, dd, fun h' tk d' same => wpAny_pure ⟨.ref s.heap.objs.size, _, ?_, rfl, q2⟩⟩
    obtain ⟨o, es, ep, ho, k1, k2, k3, _, k5⟩ := d'
    have nb : bk ≠ s.heap.objs.size := ne_of hb hD (by intro z; cases z)
    exact d_write I2 (by rw [hD]; trivial) same ⟨o, ho⟩ ⟨show 1 ≤ sizeLine by decide, nsys, [(ky, bk, x)], .cons ⟨rfl, by rw [upd_ne nb]; exact hb, r2⟩ .nil, o, es, ep, ho, k1, k2, k3, k5⟩
def oD1 (fk fv : Em) : Mx Ob := bnd fk fun kd => bnd fv fun d => lift ((tupKey kd).bind fun key => gd (noM d) (.dct [(key, d)]))
theorem fe_d1 {c : Ct} {W : WX} {X : Cx} {pos : Pos} {k v : Expr} {fk fv : Em} (hu : X.A.units < cLine) (hk : PE X k (T c W fk)) (hv : PE X v (T c W fv)) : PE X (.Dict [some k] [v] pos) (FrE c W (oD1 fk fv)) := impE (pe_d1 hu hk hv) fun σ H Q ⟨yy, F, env, μ, as, R, q⟩ => by
  intro p hp
  have fr := R.fresh hp
  have R1 := R.lay (ho := .dT []) fr (.inl hp)
  have nt : ∀ xs, HO.dT [] ≠ .tup xs := fun xs h => by cases h
  refine ⟨yy.gd F p (.dT []), F, env, μ, as, R1.guard fr upd_same, ?_⟩
  unfold oD1 bnd at q
  cases e1 : fk env μ with
  | none => simp only [e1] at q
  | some z =>
    simp only [e1] at q
    cases z with
    | err x fs μ' =>
      intro F' H' as' d x y R' xd
      obtain ⟨_, _, R4⟩ := R1.unguard fr nt R' x
      exact q F' H' as' d x y R4 xd
    | ok kd μ1 =>
      intro vk F1 H1 as1 x1 y1 Rg1 p1
      refine ⟨yy.gd F p (.dT []), F1, env, μ1, as1, Rg1, ?_⟩
      simp only at q
      cases e2 : fv env μ1 with
      | none => simp only [e2] at q
      | some z =>
        simp only [e2] at q
        cases z with
        | err x fs μ2 =>
          intro F' H' as' d x y R' xd
          obtain ⟨_, _, R4⟩ := R1.unguard fr nt R' (x1.trans x)
          exact q F' H' as' d (x1.trans x) (y1.trans y) R4 xd
        | ok d μ2 =>
          intro v F2 H2 as2 x2 y2 Rg2 p2
          obtain ⟨hD, fr2, R4⟩ := R1.unguard fr nt Rg2 (x1.trans x2)
          simp only at q
          cases e3 : tupKey kd with
          | none => simp only [e3, Option.bind_none] at q; exact q.elim
          | some key =>
            simp only [e3, Option.bind_some] at q
            cases e4 : gd (noM d) (Ob.dct [(key, d)]) with
            | none => rw [e4] at q; exact q.elim
            | some o =>
              rw [e4] at q
              obtain ⟨hn, rfl⟩ := gd_ok e4
              cases kd with
              | tup ks =>
                obtain ⟨b, bs, rfl, q1, q2⟩ := p1
                rw [keyOf_eq (show keyOf ks = some key from e3)] at q2
                rw [q2.key] at q1
                refine ⟨key, b, rfl, hD, R4.ex _ _ (x2 _ _ q1), ?_⟩
                exact q p _ _ F2 _ as2 (x1.trans x2) (y1.trans y2) (R4.lay fr2 (.inr (by rw [hD]; exact ⟨by simp, by intro xs h; cases h⟩))) fr2 upd_same (.dct ⟨Bool.and_eq_true_iff.mpr ⟨hn, rfl⟩, by simp⟩ ⟨v, [], rfl, p2, rfl⟩)
              | _ => cases e3
/-! ### un, by shapes -/
theorem un1 : un .non = .non := rfl
theorem un2 {b : Bool} : un (.bl b) = .bl b := rfl
theorem un3 {i : Int} : un (.int i) = .int i := rfl
theorem un4 {s : Str} : un (.str s) = .str s := rfl
theorem un5 {xs : List D} : un (.lst xs) = .lst xs := rfl
theorem un6 {xs : List D} : un (.tup xs) = .tup xs := rfl
theorem un7 {b : Bool} {k : Kvs} : un (.dct b k) = .dct b k := rfl
theorem un8 {ns : List Int} : un (.gt ns) = .tup (ns.map D.int) := rfl
end Sh
namespace Sh
open PySem PySem.Spec PyProof.Rows L2
variable [Wd]
/-! ### where a whole number first stands in a list -/
def fstI : List Int → Int → Option Nat
  | [], _ => none
  | n :: r, x => if n = x then some 0 else (fstI r x).map (· + 1)
theorem fstI_spec : ∀ {ns : List Int} {x : Int} {j : Nat}, fstI ns x = some j → ns[j]? = some x ∧ ∀ m, m < j → ∀ n, ns[m]? = some n → n ≠ x
  | n :: r, x, j, h => by
    unfold fstI at h
    by_cases e : n = x
    · rw [if_pos e] at h; cases h
      exact ⟨by rw [e]; rfl, fun m hm => by omega⟩
    · rw [if_neg e] at h
      obtain ⟨k, hk, rfl⟩ := Option.map_eq_some_iff.mp h
      obtain ⟨h1, h2⟩ := fstI_spec hk
      refine ⟨by simpa using h1, fun m hm n' hn' => ?_⟩
      cases m with
      | zero => simp at hn'; rw [← hn']; exact e
      | succ m => exact h2 m (by omega) n' (by simpa using hn')
def gIdx (xs : List D) : List D → Option D
  | [.int x] => (dInts xs).bind fun ns => (fstI ns x).map fun k => .int (k : Nat)
  | _ => none
def mIdx (f : Em) (l : Mx (List D)) : Em := bnd f fun d => match d with
  | .lst xs => bnd l fun ds => lift (gIdx xs ds)
  | _ => fun _ _ => none
section
variable {c : Ct} {W : WX} {X : Cx} {o e : Expr} {apos cpos : Pos} {f : Em} {l : Mx (List D)}
theorem de_index (hK : X.K = c.K) (ho : PE X o (T c W f)) (ha : PA X [e] (TL c W l))
    (hbase : attributeBase o "index" X.env (eval o X.env) = eval o X.env := by rfl)
    (hfew : ((backTo cpos (starEach [e] X.env)).all (fun x => !x.1) && (backToKw cpos (keywordEach [] X.env)).all (fun x => x.1.isSome)
      && decide (([e] : List Expr).length + ([] : List Keyword).length + (if ([] : List Keyword).isEmpty then 0 else 1) < 30)) = true := by rfl)
    (hline : (apos.endLine == cpos.line) = true := by rfl) (hs : starEach [e] X.env = (false, eval e X.env) :: starEach [] X.env := by rfl) (hplain : (backTo cpos (starEach [] X.env)).any (·.1) = false := by rfl) :
    PE X (.Call (.Attribute o "index" apos) [e] [] cpos) (T c W (mIdx f l)) :=
  impE (pe_bm PySem.F.plainAttrs_list PySem.F.slot_list_index PySem.F.type_list_index mt_index ho ha hbase hfew hline hs hplain) fun σ H Q ⟨yy, F, env, μ, as, R, q⟩ => by
    refine (aft_bind (P := PD c) R q).imp fun v H1 ⟨d, F1, μ1, as1, x1, y1, p1, R1, a1⟩ => ?_
    cases d with
    | lst xs =>
      obtain ⟨a, vs, rfl, h1, h2⟩ := p1
      refine ⟨.inl ⟨rfl, vs, by rw [hK]; exact SqL.of (R1.ex _ _ h1)⟩, ?_⟩
      refine (aft_bind (P := PL c) R1 a1).imp fun ws H2 ⟨ds, F2, μ2, as2, x2, y2, p2, R2, a2⟩ => ?_
      obtain ⟨z, ez, k⟩ := aft_lift R2 a2
      match ds, ez, p2 with
      | [.int x], ez, p2 =>
        obtain ⟨w, rfl, hw⟩ := p2.one_inv
        obtain ⟨ns, e1, ez⟩ := Option.bind_eq_some_iff.mp (show (dInts xs).bind (fun ns => (fstI ns x).map fun k => D.int (k : Nat)) = some z from ez)
        obtain ⟨j, e2, rfl⟩ := Option.map_eq_some_iff.mp ez
        have e3 := dInts_eq e1
        subst e3
        have e4 := Dts.ints.mp h2
        subst e4
        obtain ⟨g1, g2⟩ := fstI_spec e2
        refine ⟨a, ns.map V.int, w, j, .int x, rfl, rfl, by rw [hK]; exact SqL.of (R2.ex _ _ (x2 _ _ h1)), by rw [show w = V.int x from hw]; rfl, List.all_eq_true.mpr fun u hu => by
          obtain ⟨n, _, rfl⟩ := List.mem_map.mp hu
          rfl, by rw [List.getElem?_map, g1]; rfl, by rw [show w = V.int x from hw]; exact beq_self_eq_true x, fun m z' hm hz => ?_, k _ F2 H2 (New.refl R2.ex) rfl⟩
        rw [List.getElem?_map] at hz
        obtain ⟨n, hn, rfl⟩ := Option.map_eq_some_iff.mp hz
        rw [show w = V.int x from hw]
        exact beq_eq_false_iff_ne.mpr (g2 m hm n hn)
    | _ => exact a1.elim
end
end Sh
namespace Sh
open PySem PySem.Spec PyProof.Rows L2
variable [Wd]
/-! ### a dict of one's own as its one object: made with one pair, written -/
def x1Q (K : PySem.W.Frag) (Q : VK) (p : Addr) (o0 : Obj) : List (V × V) → Hp → Prop
  | [(y, z)], H2 => ∃ (F : Hp) (ky : NK) (kd : D) (bk : Addr), y = .ref bk ∧ Ex F H2 ∧ H2 p = some (dxo p o0) ∧ Dt K F kd (.ref bk) ∧ kyX kd = some ky ∧ ∀ o' u, DxS o' [(ky, bk, u)] → RelV z u → Q (.ref p) (upd H2 p (dxo p o'))
  | _, _ => False
theorem x1Q_inv {K : PySem.W.Frag} {Q : VK} {p : Addr} {o0 : Obj} : ∀ {ps : List (V × V)} {H2 : Hp}, x1Q K Q p o0 ps H2 → ∃ (F : Hp) (ky : NK) (kd : D) (bk : Addr) (z : V), ps = [(.ref bk, z)] ∧ Ex F H2 ∧ H2 p = some (dxo p o0) ∧ Dt K F kd (.ref bk) ∧ kyX kd = some ky ∧ ∀ o' u, DxS o' [(ky, bk, u)] → RelV z u → Q (.ref p) (upd H2 p (dxo p o'))
  | [(y, z)], H2, h => by
    obtain ⟨F, ky, kd, bk, rfl, h⟩ := h
    exact ⟨F, ky, kd, bk, z, rfl, h⟩
def tX1 (K : PySem.W.Frag) (tk tv : TE) : TE := fun σ H Q => ∀ p o0, H p = none → DxS o0 [] → tk σ (upd H p (dxo p o0)) fun y H1 => tv σ H1 fun z H2 => x1Q K Q p o0 [(y, z)] H2
theorem pe_x1 {X : Cx} {pos : Pos} {k v : Expr} {tk tv : TE} (hw : X.w = Wd.w) (hu : X.A.units + 9 < cLine) (hk : PE X k tk) (hv : PE X v tv) : PE X (.Dict [some k] [v] pos) (tX1 X.K tk tv) := by
  refine ⟨fun pins s σ H Q I q => ?_⟩
  have hn := I.hok.fresh (Nat.le_refl s.heap.objs.size)
  have h0 : DxS ({ cls := .type "dict", data := .dict #[] } : Obj) [] := ⟨⟨rfl, rfl, rfl⟩, List.nodup_nil, Nat.zero_le _, #[], 0, rfl, fun _ => rfl⟩
  have at0 : (s.heap.push { cls := .type "dict", data := .dict #[] }).get? s.heap.objs.size = some ({ cls := .type "dict", data := .dict #[] } : Obj) := Heap.get?_push_size _ rfl
  have I1 := I.laid (a := s.heap.objs.size) (o := dxo s.heap.objs.size { cls := .type "dict", data := .dict #[] }) (h' := s.heap.push { cls := .type "dict", data := .dict #[] }) (t' := s.toks) (fun _ _ q => Heap.get?_push_of_some _ q) (Nat.le_refl _)
    ⟨⟨at0, beq_eq_false_iff_ne.mpr (Ne.symm (Nat.ne_of_lt I.big))⟩, ⟨_, at0⟩, fun _ _ p k => ⟨k _ p.1, p.2⟩⟩
  have all : ([some k] : List (Option Expr)).all (·.isSome) = true := rfl
  have h1 := (pps_cons (pos := pos) hk hv pps_nil).run pins _ σ _ (fun ps H2 => x1Q X.K Q s.heap.objs.size { cls := .type "dict", data := .dict #[] } ps H2) I1 (q _ _ hn h0)
  rw [arm_eval_Dict, zip_pairTrees [some k] [v] X.env pos all rfl, dictDisplay_pairs (pairTrees [some k] [v] X.env pos) (by intro z; cases z) (Nat.le_add_left _ _)]
  refine wpAny_bind (wpAny_standAt (wpAny_bind (wpAny_subDictH (knd := ikd X.prog X.w) (Q := fun d s' => wpAny (model X.prog X.w) X.A (pure (Value.ref d)) _ _ s') (show X.A.units + 8 < cLine by omega) (Nat.le_add_left _ _) (thn h1 ?_))))
  rintro us s2 ⟨ps, H2, I2, rel, qd⟩
  obtain ⟨F, ky, kd, bk, z, rfl, e, hD, hb, hk2, q2⟩ := x1Q_inv qd
  cases rel with
  | cons r rr =>
    cases rr
    obtain ⟨r1, r2⟩ := r
    rename_i pr
    obtain ⟨u, x⟩ := pr
    cases (show u = Value.ref bk from r1)
    obtain ⟨_, dd⟩ := dx_of (kvs := []) hw I2 e hD h0 rfl
    refine ⟨[(ky, bk, x)], ⟨rfl, rfl, keyX_of I2 e hb hk2, trivial⟩, dd, fun h' tk d' same => ?_⟩
    obtain ⟨o', hs', J⟩ := dx_write hw (t' := tk) (ys := [(ky, bk, x)]) I2 hD (show 1 ≤ sizeLine by decide) d' same
    exact wpAny_pure ⟨.ref s.heap.objs.size, _, J, rfl, q2 o' x hs' r2⟩
def oX1 (fk fv : Em) : Mx Ob := bnd fk fun kd => bnd fv fun d => lift ((kyX kd).bind fun _ => gd (noM d) (.dx [(kd, d)]))
theorem fe_x1 {c : Ct} {W : WX} {X : Cx} {pos : Pos} {k v : Expr} {fk fv : Em} (hK : X.K = c.K) (hw : X.w = Wd.w) (hu : X.A.units + 9 < cLine) (hk : PE X k (T c W fk)) (hv : PE X v (T c W fv)) : PE X (.Dict [some k] [v] pos) (FrE c W (oX1 fk fv)) := impE (pe_x1 hw hu hk hv) fun σ H Q ⟨yy, F, env, μ, as, R, q⟩ => by
  intro p o0 hp h0
  have fr := R.fresh hp
  have R1 := R.lay (ho := dxo p o0) fr (.inl hp)
  have nt : ∀ xs, dxo p o0 ≠ .tup xs := fun xs h => by cases h
  refine ⟨yy.gd F p (dxo p o0), F, env, μ, as, R1.guard fr upd_same, ?_⟩
  unfold oX1 bnd at q
  cases e1 : fk env μ with
  | none => simp only [e1] at q
  | some z =>
    simp only [e1] at q
    cases z with
    | err x fs μ' =>
      intro F' H' as' d x y R' xd
      obtain ⟨_, _, R4⟩ := R1.unguard fr nt R' x
      exact q F' H' as' d x y R4 xd
    | ok kd μ1 =>
      intro vk F1 H1 as1 x1 y1 Rg1 p1
      refine ⟨yy.gd F p (dxo p o0), F1, env, μ1, as1, Rg1, ?_⟩
      simp only at q
      cases e2 : fv env μ1 with
      | none => simp only [e2] at q
      | some z =>
        simp only [e2] at q
        cases z with
        | err x fs μ2 =>
          intro F' H' as' d x y R' xd
          obtain ⟨_, _, R4⟩ := R1.unguard fr nt R' (x1.trans x)
          exact q F' H' as' d (x1.trans x) (y1.trans y) R4 xd
        | ok d μ2 =>
          intro v F2 H2 as2 x2 y2 Rg2 p2
          obtain ⟨hD, fr2, R4⟩ := R1.unguard fr nt Rg2 (x1.trans x2)
          simp only at q
          cases e3 : kyX kd with
          | none => simp only [e3, Option.bind_none] at q; exact q.elim
          | some key =>
            simp only [e3, Option.bind_some] at q
            cases e4 : gd (noM d) (Ob.dx [(kd, d)]) with
            | none => rw [e4] at q; exact q.elim
            | some o =>
              rw [e4] at q
              obtain ⟨hn, rfl⟩ := gd_ok e4
              obtain ⟨b, rfl, hb⟩ := kyX_at (Dt.mono x2 _ _ p1) e3
              refine ⟨F2, key, kd, b, rfl, R4.ex, hD, by rw [hK]; exact hb, e3, fun o' u hs' ru => ?_⟩
              exact q p _ _ F2 _ as2 (x1.trans x2) (y1.trans y2) (R4.lay fr2 (.inr (by rw [hD]; exact ⟨by simp, by intro xs h; cases h⟩))) fr2 upd_same (.dx (by rw [noMx_cons, kyX_noM e3, hn]; rfl) hs' ⟨key, b, u, v, [], rfl, e3, hb, ru, p2, rfl⟩)
/-- d[y] = v -/
def sXPut (K : PySem.W.Frag) (td ty tv : TE) : TS := fun D σ H => tv σ H fun v H1 => td σ H1 fun x H2 => ty σ H2 fun y H3 => ∃ (F : Hp) (a b' : Addr) (o : Obj) (xs : List (NK × Addr × Value)) (kvs : Kx) (b : Addr) (k : NK) (kd : Sh.D),
  x = .ref a ∧ y = .ref b ∧ Ex F H3 ∧ H3 a = some (dxo b' o) ∧ DxS o xs ∧ Dtx K F kvs xs ∧ (Dt K F kd (.ref b) ∧ kyX kd = some k) ∧ xs.length < sizeLine ∧ ∀ o' u, RelV v u → DxS o' (sto xs k b u) → D.nx σ (upd H3 a (dxo a o'))
theorem sto_len : ∀ (xs : List (NK × Addr × Value)) (k : NK) (b : Addr) (u : Value), (sto xs k b u).length ≤ xs.length + 1
  | [], _, _, _ => Nat.le_refl _
  | x :: r, k, b, u => by
    unfold sto
    split
    · simp
    · have := sto_len r k b u
      simp only [List.length_cons]; omega
theorem ps_xput {X : Cx} {o i value : Expr} {pos pos' : Pos} {td ty tv : TE} (hw : X.w = Wd.w) (hu : X.A.units + 9 < cLine) (ho : PE X o td) (hi : PE X i ty) (hv : PE X value tv) (hs : swapsWith value (some (.Subscript o i pos')) pos.line X.env = pure false) :
    PS X (.Assign [.Subscript o i pos'] value pos) (sXPut X.K td ty tv) := by
  refine ⟨fun pins s σ H D I h => wpAny_Assign_Subscript (thn (hv.run pins s σ H _ I h) ?_) hs⟩
  rintro r s1 ⟨v, H1, I1, rv, q1⟩
  refine thn (ho.run pins s1 σ H1 _ I1 q1) ?_
  rintro u s2 ⟨x, H2, I2, rx, q2⟩
  refine thn (hi.run pins s2 σ H2 _ I2 q2) ?_
  rintro iv s3 ⟨y, H3, I3, ry, F, a, b', ob, xs, kvs, b, k, kd, rfl, rfl, e, h1, h2, h3, h4, h5, q3⟩
  obtain rfl : u = Value.ref a := rx
  obtain rfl : iv = Value.ref b := ry
  obtain ⟨hsys, dd⟩ := dx_of hw I3 e h1 h2 h3
  refine wpAny_setItem_heap (hsz := by omega) (ikd_room hu) (keyX_of I3 e h4.1 h4.2) dd fun h' dd' same => ?_
  rw [sto_eq h2.2.1] at dd'
  obtain ⟨o', hs', J⟩ := dx_write hw I3 h1 (by have := sto_len xs k b r; omega) dd' same
  exact ⟨σ, _, J, q3 o' r rv hs'⟩
def obX : Option Ob → Option Kx
  | some (.dx kvs) => some kvs
  | _ => none
theorem obX_eq {o : Option Ob} {ds : Kx} (h : obX o = some ds) : o = some (.dx ds) := by
  cases o with
  | none => cases h
  | some o => cases o with
    | dx xs => cases h; rfl
    | _ => cases h
def sPutX (k : Nat) (fk fv : Em) : Sm := sBnd fv fun v => fun env μ => match obX μ[k]? with
  | none => none
  | some _ => sBnd fk (fun kd env μ => match obX μ[k]?, kyX kd with
    | some kvs, some key => if (noM v && decide (kvs.length < 100000)) = true then some (.nx env (μ.set k (.dx (xput kvs kd key v)))) else none
    | _, _ => none) env μ
theorem ds_putX {c : Ct} {W : WX} {X : Cx} {st : Stmt} {i k : Nat} {fk fv : Em} (hK : X.K = c.K) (hsl : c.sl[k]? = some (some i)) (h : PS X st (sXPut X.K (tVar i) (T c W fk) (T c W fv))) : PS X st (SX c W (sPutX k fk fv)) := impS h fun De σ H ⟨yy, F, env, μ, as, R, q⟩ => by
  refine (saft_bind (P := PD c) R q).imp fun v H1 ⟨d, F1, μ1, as1, x1, y1, p1, R1, a1⟩ => ?_
  cases e1 : obX μ1[k]? with
  | none => simp only [e1] at a1; exact a1.elim
  | some kv0 =>
    simp only [e1] at a1
    obtain ⟨a, g1, _, g3⟩ := R1.own k _ (obX_eq e1) trivial
    refine ⟨.ref a, g3 i hsl, ?_⟩
    refine (saft_bind (P := PD c) R1 a1).imp fun vk H2 ⟨kd, F2, μ2, as2, x2, y2, p2, R2, a2⟩ => ?_
    cases e2 : obX μ2[k]? with
    | none => simp only [e2] at a2; exact a2.elim
    | some kvs =>
      cases e3 : kyX kd with
      | none => simp only [e2, e3] at a2; exact a2.elim
      | some key =>
        simp only [e2, e3] at a2
        by_cases hc : (noM d && decide (kvs.length < 100000)) = true
        · rw [if_pos hc] at a2
          simp only [Bool.and_eq_true, decide_eq_true_eq] at hc
          obtain ⟨a', h1, ⟨n1, b', o, xs, h2, hs, h3⟩, h4⟩ := R2.own k _ (obX_eq e2) trivial
          have z := y2 k a g1
          rw [h1] at z; cases z
          obtain ⟨b, rfl, hb⟩ := kyX_at p2 e3
          refine ⟨F2, a, b', o, xs, kvs, b, key, kd, rfl, rfl, R2.ex, h2, hs, by rw [hK]; exact h3, ⟨by rw [hK]; exact hb, e3⟩, by rw [h3.len]; exact Evl.sz_lt hc.2, fun o' u ru hs' => ?_⟩
          exact a2 σ F2 _ as2 (Evl.Ex.refl _) (R2.write h1 (obX_eq e2) trivial ⟨by simp, by intro xs h; cases h⟩ ⟨noMx_put n1 (kyX_noM e3) hc.1, _, _, _, upd_same, hs', h3.put e3 hb ru (Dt.mono x2 _ _ p1)⟩)
        · rw [if_neg hc] at a2; exact a2.elim
end Sh
namespace Sh
open PySem PySem.Spec PyProof.Rows L2
variable [Wd]
/-! ### d.get(k, x) -/
def IsDs (K : PySem.W.Frag) (H : Hp) (a : Addr) : Prop := (∃ kvs, Rd H a (.dT kvs)) ∨ ∃ (F : Hp) (b : Addr) (o : Obj) (xs : List (NK × Addr × Value)) (kvs : Kx), Ex F H ∧ H a = some (dxo b o) ∧ DxS o xs ∧ Dtx K F kvs xs
theorem isDs_at {X : Cx} {pins : List (Addr × Obj)} {σ : L2.St} {H : Hp} {s : Shared} {a : Addr} (hw : X.w = Wd.w) (I : Inv X pins σ H s) (d : IsDs X.K H a) : s.TypeIs (.ref a) "dict" ∧ ∀ b, Value.ref a = .ref b → ∃ ob, s.heap.get? b = some ob ∧ ob.dict = none := by
  rcases d with ⟨kvs, e⟩ | ⟨F, b, o, xs, kvs, e, h1, h2, h3⟩
  · obtain ⟨t1, t2, _⟩ := isD_at I (.inr ⟨kvs, e⟩)
    exact ⟨t1, t2⟩
  · obtain ⟨_, dd⟩ := dx_of hw I e h1 h2 h3
    refine ⟨dd.typeIs, fun b q => ?_⟩
    cases q
    obtain ⟨ob, _, _, g1, g2, _⟩ := dd
    exact ⟨ob, g1, g2.2.1⟩
theorem dgs_get {X : Cx} {pins : List (Addr × Obj)} {σ : L2.St} {H : Hp} {s : Shared} {a : Addr} {y d : V} {u r : Value} {o : Option V} {E : Value → Shared → Prop} {Q : Value → Shared → Prop} (hw : X.w = Wd.w) (hu : X.A.units + 9 < cLine) (I : Inv X pins σ H s) (g : DGs X.K H a y o) (ry : RelV y u) (rd : RelV d r)
    (h : ∀ w' s', Inv X pins σ H s' → RelV (o.getD d) w' → Q w' s') : wpAny (model X.prog X.w) X.A (call (.builtin "dict.get") [.ref a, u, r]) Q E s := by
  rcases g with g | ⟨kvs, k, b, e, rfl, st, l⟩ | g
  · exact d_get2 (by omega) I g ry rd h
  · obtain rfl : u = Value.ref b := ry
    obtain ⟨z, hd, xs, rel, dd⟩ := dt_rd I.hok e
    refine call_meetsIn PySem.F.slot_dict_get dd.typeIs PySem.F.entry_dict_get (PySem.F.args_dict_get_3 _ _ _) (meetsH_dict_get_default _ a b hd r) ⟨tupleKind_room_in1 (by omega), k, xs, st_key I st, dd, h _ _ (I.tok _) ?_⟩
    rw [l]
    exact (rel.val k).getD rd
  · obtain ⟨xs, b, k, rfl, hs, dd, hk, m⟩ := dgx_of hw I g
    obtain rfl : u = Value.ref b := ry
    refine call_meetsIn PySem.F.slot_dict_get dd.typeIs PySem.F.entry_dict_get (PySem.F.args_dict_get_3 _ _ _) (meetsH_dict_get_default _ a b hs r) ⟨ikd_room hu, k, xs, hk, dd, h _ _ (I.tok _) ?_⟩
    cases ep : atKey xs k with
    | none =>
      rw [ep] at m
      simp only at m
      rw [m]
      exact rd
    | some p =>
      rw [ep] at m
      obtain ⟨v, ev, rv⟩ := m
      rw [ev]
      exact rv
def tGetD (K : PySem.W.Frag) (td ty tx : TE) : TE := fun σ H Q => td σ H fun x H1 => ∃ a, x = .ref a ∧ IsDs K H1 a ∧ ty σ H1 fun y H2 => tx σ H2 fun z H3 => ∃ o, DGs K H3 a y o ∧ Q (o.getD z) H3
theorem pe_getD {X : Cx} {o e f : Expr} {apos cpos : Pos} {td ty tx : TE} (hw : X.w = Wd.w) (hu : X.A.units + 9 < cLine) (ho : PE X o td) (he : PE X e ty) (hf : PE X f tx) (m : M2 X o "get" apos e f cpos) : PE X (.Call (.Attribute o "get" apos) [e, f] [] cpos) (tGetD X.K td ty tx) := by
  refine ⟨fun pins s σ H Q I h => wpAny_Call_method m.base m.few m.line PySem.F.plainAttrs_dict PySem.F.slot_dict_get PySem.F.type_dict_get (thn (ho.run pins s σ H _ I h) ?_)⟩
  rintro u s1 ⟨x, H1, I1, rx, a, rfl, d, q1⟩
  obtain rfl : u = Value.ref a := rx
  obtain ⟨t1, t2⟩ := isDs_at hw I1 d
  refine ⟨t1, t2, ?_⟩
  rw [m.trees]
  refine Calls.callWith_builtin rfl (Calls.evalArgs_plain (Calls.spliced_cons (thn (he.run pins s1 σ H1 _ I1 q1) ?_)))
  rintro iv s2 ⟨y, H2, I2, ry, q2⟩
  refine Calls.spliced_cons (thn (hf.run pins s2 σ H2 _ I2 q2) ?_)
  rintro fv s3 ⟨z, H3, I3, rz, ov, g, q3⟩
  exact Calls.spliced_nil (dgs_get hw hu I3 g ry rz fun w' s4 I4 rw' => ⟨_, H3, I4, rw', q3⟩)
def dLk : D → D → Option (Option D)
  | .dct _ kvs, .tup ks => (keyOf ks).map fun k => dlook kvs k
  | .dct _ kvs, .gt ns => some (dlook kvs (ns.map Sum.inl))
  | .dx _ kvs, y => (kyX y).map fun p => xlook kvs p
  | _, _ => none
def isDt : D → Bool
  | .dct _ _ => true
  | .dx _ _ => true
  | _ => false
def mGet (fd fk fx : Em) : Em := bnd fd fun d => if isDt d = true then bnd fk fun k => bnd fx fun x => lift ((dLk d k).map fun o => o.getD x) else fun _ _ => none
theorem Dt.lk {K : PySem.W.Frag} {F H : Hp} {d k : D} {x y : V} {r : Option D} (eF : Ex F H) (hx : Dt K F d x) (hy : Dt K F k y) (e : dLk d k = some r) : ∃ a o, x = .ref a ∧ DGs K H a y o ∧ ((r = none ∧ o = none) ∨ ∃ d' v, r = some d' ∧ o = some v ∧ Dt K F d' v) := by
  cases d with
  | dct fz kvs =>
    cases k with
    | tup ks =>
      obtain ⟨j, ej, rfl⟩ := Option.map_eq_some_iff.mp (show (keyOf ks).map _ = some r from e)
      obtain ⟨a, o, rfl, g, c⟩ := Dt.dget eF hy hx ej
      exact ⟨a, o, rfl, .inl g, c⟩
    | gt ns =>
      cases e
      exact Dt.dgetG eF hy hx
    | _ => cases e
  | dx fz kvs =>
    obtain ⟨j, ej, rfl⟩ := Option.map_eq_some_iff.mp (show (kyX k).map _ = some r from e)
    obtain ⟨a, o, rfl, g, c⟩ := Dt.dgx eF hy hx ej
    exact ⟨a, o, rfl, .inr (.inr g), c⟩
  | _ => cases e
theorem Dt.isDs {K : PySem.W.Frag} {F H : Hp} {d : D} {x : V} (eF : Ex F H) (hx : Dt K F d x) (e : isDt d = true) : ∃ a, x = .ref a ∧ IsDs K H a := by
  cases d with
  | dct fz kvs =>
    obtain ⟨a, vs, rfl, h1, h2⟩ := hx
    exact ⟨a, rfl, .inl ⟨vs, Evl.ex_rd eF h1.rd⟩⟩
  | dx fz kvs =>
    obtain ⟨a, b, o, xs, rfl, h1, h2, h3⟩ := hx
    exact ⟨a, rfl, .inr ⟨F, b, o, xs, kvs, eF, eF _ _ h1, h2, h3⟩⟩
  | _ => cases e
theorem de_get {c : Ct} {W : WX} {X : Cx} {o e f : Expr} {apos cpos : Pos} {fd fk fx : Em} (hK : X.K = c.K) (hw : X.w = Wd.w) (hu : X.A.units + 9 < cLine) (ho : PE X o (T c W fd)) (he : PE X e (T c W fk)) (hf : PE X f (T c W fx)) (m : M2 X o "get" apos e f cpos) :
    PE X (.Call (.Attribute o "get" apos) [e, f] [] cpos) (T c W (mGet fd fk fx)) := impE (pe_getD hw hu ho he hf m) fun σ H Q ⟨yy, F, env, μ, as, R, q⟩ => by
  rw [hK]
  refine (aft_bind (P := PD c) R q).imp fun v H1 ⟨d, F1, μ1, as1, x1, y1, p1, R1, a1⟩ => ?_
  by_cases hd : isDt d = true
  · rw [if_pos hd] at a1
    obtain ⟨a, rfl, hs⟩ := Dt.isDs R1.ex p1 hd
    refine ⟨a, rfl, hs, ?_⟩
    refine (aft_bind (P := PD c) R1 a1).imp fun v2 H2 ⟨k, F2, μ2, as2, x2, y2, p2, R2, a2⟩ => ?_
    refine (aft_bind (P := PD c) R2 a2).imp fun v3 H3 ⟨x, F3, μ3, as3, x3, y3, p3, R3, a3⟩ => ?_
    obtain ⟨z, ez, kk⟩ := aft_lift R3 a3
    obtain ⟨r, er, rfl⟩ := Option.map_eq_some_iff.mp ez
    obtain ⟨a', o, e1, g, cs⟩ := Dt.lk R3.ex (Dt.mono (x2.trans x3) _ _ p1) (Dt.mono x3 _ _ p2) er
    cases e1
    refine ⟨o, g, ?_⟩
    rcases cs with ⟨rfl, rfl⟩ | ⟨d', w, rfl, rfl, hw⟩
    · exact kk _ F3 H3 (New.refl R3.ex) p3
    · exact kk _ F3 H3 (New.refl R3.ex) hw
  · rw [if_neg hd] at a1; exact a1.elim
end Sh
namespace Sh
open PySem PySem.Spec PyProof.Rows L2
variable [Wd]
/-! ### for k, v in d.items(), keys tuples -/
def Itit (d : Addr) (o : Obj) (kvs : List (List Key × V)) : It where
  go := fun i H => H d = some (.frz o (.dT kvs)) ∧ i < kvs.length
  yld := fun i H x H' => ∃ T k v q, kvs[i]? = some (k, v) ∧ x = .ref T ∧ H T = none ∧ H q = some (.tup (k.map kV)) ∧ H' = upd H T (.tup [.ref q, v])
  stop := fun i H => H d = some (.frz o (.dT kvs)) ∧ kvs.length ≤ i
section
variable {X : Cx} {pins : List (Addr × Obj)} {σ : L2.St} {H : Hp} {s : Shared} {d : Addr} {o : Obj} {kvs : List (List Key × V)} {es : Array DictEntry} {ep : Nat}
theorem frz_all (I : Inv X pins σ H s) (h : H d = some (.frz o (.dT kvs))) (hod : o.data = .dict es ep) : (d == sysModules) = false ∧ s.heap.DictRaw d es ep ∧ es.size = kvs.length ∧
    ∀ (i : Nat) (hi : i < es.size) (k : List Key) (v : V), kvs[i]? = some (k, v) → ∃ q, es[i].key = .ref q ∧ H q = some (.tup (k.map kV)) ∧ RelV v es[i].val := by
  obtain ⟨hg, z, hs, xs, pr, o', es', ep', ho, hx, hdt, he, _⟩ := I.hok d _ h
  have eo : o' = o := by rw [hg] at ho; exact (Option.some.inj ho).symm
  subst eo
  rw [hod] at hdt
  cases hdt
  have l1 : es.size = xs.length := size_of_entries he
  have l2 : kvs.length = xs.length := Paired.length pr
  refine ⟨hs, ⟨o', hg, hx, hod⟩, l1.trans l2.symm, fun i hi k v e => ?_⟩
  have at_ : ∀ {kvs : List (List Key × V)} {xs : List (List Key × Addr × Value)} {i : Nat}, Paired (fun (p : List Key × V) (q : List Key × Addr × Value) => p.1 = q.1 ∧ H q.2.1 = some (.tup (p.1.map kV)) ∧ RelV p.2 q.2.2) kvs xs → kvs[i]? = some (k, v) → ∃ x, xs[i]? = some x ∧ k = x.1 ∧ H x.2.1 = some (.tup (k.map kV)) ∧ RelV v x.2.2 := fun {kvs} => by
    induction kvs with
    | nil => intro xs i _ e; simp at e
    | cons p r ih =>
      intro xs i pr e
      cases pr with
      | cons h t =>
        cases i with
        | zero => cases e; exact ⟨_, rfl, h⟩
        | succ i =>
          obtain ⟨x, a, b⟩ := ih (i := i) t (by simpa using e)
          exact ⟨x, by simpa using a, b⟩
  obtain ⟨x, hx2, rfl, hq, rv⟩ := at_ pr e
  have ee := entry_at he i
  rw [hx2, Array.getElem?_eq_getElem hi] at ee
  have e3 : es[i] = entryOfKey (tupleKind (mixKind X.prog X.w)) x := Option.some.inj ee
  rw [e3]
  exact ⟨x.2.1, rfl, hq, rv⟩
end
theorem turn_itemsT {P : Program} {w : World} {K : PySem.W.Frag} {elts : List Expr} {kk : Nat} {tpos : Pos} {d : Addr} {o : Obj} {es : Array DictEntry} {ep : Nat} {kvs : List (List Key × V)} (it : Addr) (hod : o.data = .dict es ep) :
    Turn P w K (.Tuple elts kk tpos) (Itit d o kvs) [it] it (fun i h => ∃ ok ov, IsItemIter h it d i kvs.length ep ok ov) := by
  have one : ∀ {c : Addr}, c ∈ [it] → c = it := fun {c} hc => by simpa using hc
  refine { mem := by simp, obj := fun i h st c hc => ?_, keep := fun i h h' ⟨ok, ov, e⟩ k => ⟨ok, ov, k it (by simp) _ e⟩, item := ?_, done := ?_, self := fun A i s Q E ⟨_, _, e⟩ q => PySem.W.kcp_self e q }
  · rw [one hc]
    obtain ⟨ok, ov, e⟩ := st
    exact ⟨_, e, fun v z => nomatch z⟩
  · rintro X rfl rfl rfl hc i pins s σ H E I hf ⟨ok, ov, he⟩ ⟨hd, hi⟩
    obtain ⟨hs, raw, sz, at_⟩ := frz_all I hd hod
    have hi' : i < es.size := by rw [sz]; exact hi
    obtain ⟨⟨k, v⟩, hkv⟩ : ∃ p, kvs[i]? = some p := ⟨kvs[i], List.getElem?_eq_getElem hi⟩
    obtain ⟨q, hkey, hq, rv⟩ := at_ i hi' k v hkv
    have hlt : it < s.heap.objs.size := Heap.lt_size he
    rw [← sz] at he
    refine wpAny_pyNext_items_item_raw he raw hi' fun h1 out new _ keep => ⟨_, rfl, ?_⟩
    refine wpAny_letOwnedTupleGo_items (s := { s with heap := h1 }) out fun h2 it2 same => ?_
    have new2 := (same.2 _ (Nat.ne_of_gt hlt)).trans new
    have obj : ObjOk X.prog X.w (upd H s.heap.objs.size (.tup [.ref q, v])) h2 s.heap.objs.size (.tup [.ref q, v]) :=
      ⟨show 2 ≤ sizeLine by decide, [es[i].key, es[i].val], .cons (by rw [hkey]; rfl) (.cons rv .nil), _, new2, rfl, _, rfl⟩
    have J := I.turnedNew (t' := s.toks) (ch := [it]) (fun c ob hc e => (same.2 c (by simpa using hc)).trans (keep c ob (by simpa using hc) e)) hf (Nat.le_refl _) obj
    refine ⟨.ref s.heap.objs.size, _, J, rfl, ⟨_, k, v, q, hkv, rfl, I.hok.fresh (Nat.le_refl _), hq, rfl⟩, ⟨_, _, by rw [← sz]; exact it2⟩, fun c hc => ?_⟩
    rw [one hc, upd_ne (Nat.ne_of_lt hlt)]
    exact (hf it (by simp)).1
  · rintro X rfl rfl rfl hc i pins s σ H E I hf ⟨ok, ov, he⟩ ⟨hd, hi⟩
    obtain ⟨f0, f1, f2, f3, f4, f5⟩ := hf it (by simp)
    obtain ⟨hs, raw, sz, at_⟩ := frz_all I hd hod
    rw [← sz] at he
    exact wpAny_pyNext_items_end_raw (I.ok.hd hc) he raw (by rw [sz]; exact hi) fun h' eb => ⟨rfl, I.turned (t' := s.toks) (fun c ob hc e => eb c ob hc e) f0 f1 f3 f4 f5⟩
def iItemsT (td : TE) : TI := fun σ H R => td σ H fun x H1 => ∃ d o kvs, x = .ref d ∧ H1 d = some (.frz o (.dT kvs)) ∧ R (Itit d o kvs) H1
theorem pi_itemsT {X : Cx} {e : Expr} {td : TE} {apos cpos : Pos} {elts : List Expr} {kk : Nat} {tpos : Pos} (he : PE X e td) (hbase : attributeBase e "items" X.env (eval e X.env) = eval e X.env := by rfl) (hline : (apos.endLine == cpos.line) = true := by rfl) :
    PI X (.Tuple elts kk tpos) (.Call (.Attribute e "items" apos) [] [] cpos) (iItemsT td) := by
  refine ⟨fun pins s σ H R I h => wpAny_Call_method (T := "dict") (id := "dict.items") hbase rfl hline PySem.F.plainAttrs_dict PySem.F.slot_dict_items PySem.F.type_dict_items (thn (he.run pins s σ H _ I h) ?_)⟩
  rintro u s1 ⟨x, H1, I1, rx, d, o, kvs, rfl, hd, q⟩
  obtain rfl : u = Value.ref d := rx
  obtain ⟨_, _, _, _, _, o2, es, ep, ho2, hx2, hdt, _, _⟩ := I1.hok d _ hd
  have hg := (I1.hok d _ hd).1
  have eo : o2 = o := by rw [hg] at ho2; exact (Option.some.inj ho2).symm
  subst eo
  obtain ⟨hs, raw, sz, at_⟩ := frz_all I1 hd hdt
  refine ⟨raw.typeIs, fun b z => ?_, ?_⟩
  · cases z
    exact ⟨o2, hg, hx2.2.1⟩
  have J : Inv X pins σ H1 { s1 with heap := s1.heap.push { cls := .type "dict_items", data := .fields #[.ref d] } } := I1.kept (t' := s1.toks) fun b ob q => Heap.get?_push_of_some _ q
  have fin : wpAny (model X.prog X.w) X.A (pyIter (.ref s1.heap.objs.size)) (PIE X pins σ (.Tuple elts kk tpos) R) X.xe { s1 with heap := s1.heap.push { cls := .type "dict_items", data := .fields #[.ref d] } } :=
    wpAny_pyIter_items_raw (d := d) ⟨_, Heap.get?_push_size _ rfl, rfl, rfl⟩ (raw.at fun ob e => Heap.get?_push_of_some _ e) (pi_one (tk := s1.toks) J _ (turn_itemsT _ hdt) ⟨.none, .none, by rw [← sz]; exact Heap.get?_push_size _ rfl⟩ q)
  show wpAny _ _ (callWith cpos (.builtin "dict.items") [.ref d] [] []) _ X.xe s1
  exact method_meetsIn PySem.F.slot_dict_items PySem.F.entry_dict_items rfl (PySem.evalArgs_none ⟨rfl, raw.typeIs, PySem.F.args_dict_items_1 _, _, meets_dict_items_raw d hs, ⟨es, ep, raw⟩, fin⟩)
theorem good_itemsT {K : PySem.W.Frag} {F : Hp} {a : Addr} {o : Obj} {kvs : List (List Key × V)} {ks : List (List Key × D)} (h : Dtk K F ks kvs) (ha : F a = some (.frz o (.dT kvs))) : GoodIt K F (Itit a o kvs) (ks.map fun p => .tup [.tup (p.1.map keyD), p.2]) := by
  refine ⟨fun H => H a = some (.frz o (.dT kvs)), fun i H x H' => ∃ T k v q, kvs[i]? = some (k, v) ∧ x = .ref T ∧ H T = none ∧ H q = some (.tup (k.map kV)) ∧ H' = upd H T (.tup [.ref q, v]), ⟨fun i H hi q => ⟨q, by rw [List.length_map, ← h.len] at hi; exact hi⟩, fun H q => ⟨q, by rw [List.length_map, ← h.len]; exact Nat.le_refl _⟩, fun _ _ _ _ _ _ y => y⟩, fun H e => e _ _ ha, fun i F1 H x H' hi e1 e2 y => ?_⟩
  obtain ⟨T, k, v, q, hk, rfl, hT, hq, rfl⟩ := y
  have n1 := New.tup e2 hq
  have n2 := New.mk1 (o := .tup [.ref q, v]) n1.fh hT
  have key : ∀ {ks : List (List Key × D)} {kvs : List (List Key × V)} {i : Nat}, Dtk K F ks kvs → kvs[i]? = some (k, v) → ∃ d, ks[i]? = some (k, d) ∧ Dt K F d v := fun {ks} => by
    induction ks with
    | nil => intro kvs i h e; rw [show kvs = [] from h] at e; simp at e
    | cons p r ih =>
      intro kvs i h e
      obtain ⟨k', d⟩ := p
      obtain ⟨x, t, eq, h1, h2⟩ := h
      subst eq
      cases i with
      | zero => cases e; exact ⟨d, rfl, h1⟩
      | succ i => exact ih h2 (by simpa using e)
  obtain ⟨d, hd, hdt⟩ := key h hk
  have hqT : q ≠ T := ne_of_none hq hT
  refine ⟨.tup [.tup (k.map keyD), d], _, by rw [List.getElem?_map, hd]; rfl, n1.trans n2, T, _, rfl, upd_same, .ref q, [v], rfl, ⟨q, _, rfl, ?_, Dts.ofKey _⟩, v, [], rfl, Dt.mono ((e1.trans n1.f).trans n2.f) _ _ hdt, rfl⟩
  rw [upd_ne hqT]
  exact upd_same
/-! .. of a dict that is its one object -/
/-- an entry: where its key stands, its value -/
abbrev Ent2 (xs : List (NK × Addr × Value)) (vs : List (Addr × V)) : Prop := Paired (fun (x : NK × Addr × Value) (v : Addr × V) => v.1 = x.2.1 ∧ RelV v.2 x.2.2) xs vs
def Itix (d b : Addr) (o : Obj) (xs : List (NK × Addr × Value)) (vs : List (Addr × V)) : It where
  go := fun i H => (H d = some (dxo b o) ∧ DxS o xs ∧ Ent2 xs vs) ∧ i < vs.length
  yld := fun i H x H' => ∃ T q v, vs[i]? = some (q, v) ∧ x = .ref T ∧ H T = none ∧ H' = upd H T (.tup [.ref q, v])
  stop := fun i H => (H d = some (dxo b o) ∧ DxS o xs ∧ Ent2 xs vs) ∧ vs.length ≤ i
theorem ent2_at {q : Addr} {v : V} : ∀ {xs : List (NK × Addr × Value)} {vs : List (Addr × V)} {i : Nat}, Ent2 xs vs → vs[i]? = some (q, v) → ∃ x, xs[i]? = some x ∧ q = x.2.1 ∧ RelV v x.2.2
  | [], vs, i, h, e => by cases h; simp at e
  | x :: r, vs, i, h, e => by
    cases h with
    | cons h1 h2 =>
      cases i with
      | zero => cases e; exact ⟨x, rfl, h1.1, h1.2⟩
      | succ i => exact ent2_at (i := i) h2 (by simpa using e)
theorem dxo_all {X : Cx} {pins : List (Addr × Obj)} {σ : L2.St} {H : Hp} {s : Shared} {d b : Addr} {o : Obj} {es : Array DictEntry} {ep : Nat} {xs : List (NK × Addr × Value)} {vs : List (Addr × V)} (I : Inv X pins σ H s) (h : H d = some (dxo b o)) (hs : DxS o xs) (hv : Ent2 xs vs) (hod : o.data = .dict es ep) : (d == sysModules) = false ∧ s.heap.DictRaw d es ep ∧ es.size = vs.length ∧
    ∀ (i : Nat) (hi : i < es.size) (q : Addr) (v : V), vs[i]? = some (q, v) → es[i].key = .ref q ∧ RelV v es[i].val := by
  obtain ⟨hg, hsys⟩ := dxo_get I h
  obtain ⟨hx, _, _, es', ep', hdt, he⟩ := hs
  rw [hod] at hdt
  cases hdt
  have he := he X.prog
  refine ⟨hsys, ⟨o, hg, hx, hod⟩, (size_of_entries he).trans (Paired.length hv), fun i hi q v e => ?_⟩
  obtain ⟨x, hx2, rfl, rv⟩ := ent2_at hv e
  have ee := entry_at he i
  rw [hx2, Array.getElem?_eq_getElem hi] at ee
  rw [Option.some.inj ee]
  exact ⟨rfl, rv⟩
theorem turn_itemsX {P : Program} {w : World} {K : PySem.W.Frag} {elts : List Expr} {kk : Nat} {tpos : Pos} {d b : Addr} {o : Obj} {es : Array DictEntry} {ep : Nat} {xs : List (NK × Addr × Value)} {vs : List (Addr × V)} (it : Addr) (hod : o.data = .dict es ep) :
    Turn P w K (.Tuple elts kk tpos) (Itix d b o xs vs) [it] it (fun i h => ∃ ok ov, IsItemIter h it d i vs.length ep ok ov) := by
  have one : ∀ {c : Addr}, c ∈ [it] → c = it := fun {c} hc => by simpa using hc
  refine { mem := by simp, obj := ?_, keep := ?_, item := ?_, done := ?_, self := ?_ }
  · intro i h st c hc
    obtain ⟨ok, ov, e⟩ := st
    rw [one hc]
    exact ⟨_, e, fun v z => nomatch z⟩
  · rintro i h h' ⟨ok, ov, e⟩ k
    exact ⟨ok, ov, k it (by simp) _ e⟩
  · rintro X rfl rfl rfl hc i pins s σ H E I hf ⟨ok, ov, he⟩ ⟨⟨hd, hxs, hvs⟩, hi⟩
    obtain ⟨_, raw, sz, at_⟩ := dxo_all I hd hxs hvs hod
    have hi' : i < es.size := by omega
    have hkv : vs[i]? = some (vs[i].1, vs[i].2) := List.getElem?_eq_getElem hi
    obtain ⟨hkey, rv⟩ := at_ i hi' _ _ hkv
    have hlt : it < s.heap.objs.size := Heap.lt_size he
    rw [← sz] at he
    refine wpAny_pyNext_items_item_raw he raw hi' fun h1 out new _ keep => ⟨_, rfl, ?_⟩
    refine wpAny_letOwnedTupleGo_items (s := { s with heap := h1 }) out fun h2 it2 same => ?_
    have there := (same.2 _ (Nat.ne_of_gt hlt)).trans new
    have obj : ObjOk X.prog X.w (upd H s.heap.objs.size (.tup [.ref vs[i].1, vs[i].2])) h2 s.heap.objs.size (.tup [.ref vs[i].1, vs[i].2]) := by
      refine ⟨show 2 ≤ sizeLine by decide, [es[i].key, es[i].val], .cons ?_ (.cons rv .nil), _, there, rfl, _, rfl⟩
      rw [hkey]; rfl
    have J := I.turnedNew (t' := s.toks) (ch := [it]) (fun c ob hc e => (same.2 c (by simpa using hc)).trans (keep c ob (by simpa using hc) e)) hf (Nat.le_refl _) obj
    refine ⟨.ref s.heap.objs.size, _, J, rfl, ⟨_, _, _, hkv, rfl, I.hok.fresh (Nat.le_refl _), rfl⟩, ⟨_, _, by rw [← sz]; exact it2⟩, fun c hc => ?_⟩
    rw [one hc, upd_ne (Nat.ne_of_lt hlt)]
    exact (hf it (by simp)).1
  · rintro X rfl rfl rfl hc i pins s σ H E I hf ⟨ok, ov, he⟩ ⟨⟨hd, hxs, hvs⟩, hi⟩
    obtain ⟨f0, f1, f2, f3, f4, f5⟩ := hf it (by simp)
    obtain ⟨_, raw, sz, _⟩ := dxo_all I hd hxs hvs hod
    rw [← sz] at he
    exact wpAny_pyNext_items_end_raw (I.ok.hd hc) he raw (by omega) fun h' eb => ⟨rfl, I.turned (t' := s.toks) (fun c ob hc e => eb c ob hc e) f0 f1 f3 f4 f5⟩
  · rintro A i s Q E ⟨_, _, e⟩ q
    exact PySem.W.kcp_self e q
def iItemsX (td : TE) : TI := fun σ H R => td σ H fun x H1 => ∃ d b o xs vs, x = .ref d ∧ H1 d = some (dxo b o) ∧ DxS o xs ∧ Ent2 xs vs ∧ R (Itix d b o xs vs) H1
theorem pi_itemsX {X : Cx} {e : Expr} {td : TE} {apos cpos : Pos} {elts : List Expr} {kk : Nat} {tpos : Pos} (he : PE X e td) (hbase : attributeBase e "items" X.env (eval e X.env) = eval e X.env := by rfl) (hline : (apos.endLine == cpos.line) = true := by rfl) :
    PI X (.Tuple elts kk tpos) (.Call (.Attribute e "items" apos) [] [] cpos) (iItemsX td) := by
  refine ⟨fun pins s σ H R I h => wpAny_Call_method (T := "dict") (id := "dict.items") hbase rfl hline PySem.F.plainAttrs_dict PySem.F.slot_dict_items PySem.F.type_dict_items (thn (he.run pins s σ H _ I h) ?_)⟩
  rintro u s1 ⟨x, H1, I1, rx, d, b, o, xs, vs, rfl, hd, hxs, hvs, q⟩
  obtain rfl : u = Value.ref d := rx
  obtain ⟨es, ep, hdt⟩ : ∃ es ep, o.data = .dict es ep := by
    obtain ⟨_, _, _, es, ep, z, _⟩ := hxs
    exact ⟨es, ep, z⟩
  obtain ⟨hs, raw, sz, _⟩ := dxo_all I1 hd hxs hvs hdt
  obtain ⟨hg, _⟩ := dxo_get I1 hd
  refine ⟨raw.typeIs, fun c z => ?_, ?_⟩
  · cases z
    exact ⟨o, hg, hxs.1.2.1⟩
  have grow : ∀ (c : Addr) (ob : Obj), s1.heap.get? c = some ob → (s1.heap.push { cls := .type "dict_items", data := .fields #[.ref d] }).get? c = some ob := fun c ob z => Heap.get?_push_of_some _ z
  have J : Inv X pins σ H1 { s1 with heap := s1.heap.push { cls := .type "dict_items", data := .fields #[.ref d] } } := I1.kept (t' := s1.toks) fun c ob z => grow c ob z
  have fin : wpAny (model X.prog X.w) X.A (pyIter (.ref s1.heap.objs.size)) (PIE X pins σ (.Tuple elts kk tpos) R) X.xe { s1 with heap := s1.heap.push { cls := .type "dict_items", data := .fields #[.ref d] } } := by
    refine wpAny_pyIter_items_raw (d := d) ⟨_, Heap.get?_push_size _ rfl, rfl, rfl⟩ (raw.at fun ob e => grow d ob e) (pi_one (tk := s1.toks) J _ (turn_itemsX _ hdt) ⟨.none, .none, ?_⟩ q)
    rw [← sz]
    exact Heap.get?_push_size _ rfl
  show wpAny _ _ (callWith cpos (.builtin "dict.items") [.ref d] [] []) _ X.xe s1
  exact method_meetsIn PySem.F.slot_dict_items PySem.F.entry_dict_items rfl (PySem.evalArgs_none ⟨rfl, raw.typeIs, PySem.F.args_dict_items_1 _, _, meets_dict_items_raw d hs, ⟨es, ep, raw⟩, fin⟩)
theorem dtx_ent {K : PySem.W.Frag} {F : Hp} : ∀ {kvs : Kx} {xs : List (NK × Addr × Value)}, Dtx K F kvs xs → ∃ vs, Ent2 xs vs ∧ vs.length = kvs.length ∧ ∀ (i : Nat) (q : Addr) (v : V), vs[i]? = some (q, v) → ∃ p, kvs[i]? = some p ∧ Dt K F p.1 (.ref q) ∧ Dt K F p.2 v
  | [], xs, h => by rw [show xs = [] from h]; exact ⟨[], .nil, rfl, fun i q v e => by simp at e⟩
  | (kd, d) :: r, xs, ⟨k, b, u, x, t, eq, hk, h1, h2, h3, h4⟩ => by
    subst eq
    obtain ⟨vs, g1, g2, g3⟩ := dtx_ent h4
    refine ⟨(b, x) :: vs, .cons ⟨rfl, h2⟩ g1, by rw [List.length_cons, List.length_cons, g2], fun i q v e => ?_⟩
    cases i with
    | zero => cases e; exact ⟨_, rfl, h1, h3⟩
    | succ i => exact g3 i q v (by simpa using e)
theorem good_itemsX {K : PySem.W.Frag} {F : Hp} {d b : Addr} {o : Obj} {xs : List (NK × Addr × Value)} {vs : List (Addr × V)} {kvs : Kx} (ha : F d = some (dxo b o)) (hs : DxS o xs) (hv : Ent2 xs vs) (hl : vs.length = kvs.length) (h : ∀ (i : Nat) (q : Addr) (v : V), vs[i]? = some (q, v) → ∃ p, kvs[i]? = some p ∧ Dt K F p.1 (.ref q) ∧ Dt K F p.2 v) :
    GoodIt K F (Itix d b o xs vs) (kvs.map fun p => .tup [p.1, p.2]) := by
  refine ⟨fun H => H d = some (dxo b o) ∧ DxS o xs ∧ Ent2 xs vs, fun i H x H' => ∃ T q v, vs[i]? = some (q, v) ∧ x = .ref T ∧ H T = none ∧ H' = upd H T (.tup [.ref q, v]), ⟨fun i H hi q => ⟨q, by rw [List.length_map, ← hl] at hi; exact hi⟩, fun H q => ⟨q, by rw [List.length_map, ← hl]; exact Nat.le_refl _⟩, fun _ _ _ _ _ _ y => y⟩, fun H e => ⟨e _ _ ha, hs, hv⟩, fun i F1 H x H' hi e1 e2 y => ?_⟩
  obtain ⟨T, q, v, hk, rfl, hT, rfl⟩ := y
  obtain ⟨p, hp, g1, g2⟩ := h i q v hk
  have n := New.mk1 (o := .tup [.ref q, v]) e2 hT
  exact ⟨.tup [p.1, p.2], _, by rw [List.getElem?_map, hp]; rfl, n, T, _, rfl, upd_same, .ref q, [v], rfl, Dt.mono (e1.trans n.f) _ _ g1, v, [], rfl, Dt.mono (e1.trans n.f) _ _ g2, rfl⟩
def gItems : D → Option (List D)
  | .dct true kvs => some (kvs.map fun p => .tup [.tup (p.1.map keyD), p.2])
  | .dx true kvs => some (kvs.map fun p => .tup [p.1, p.2])
  | _ => none
def mItems (f : Em) : Mx (List D) := bnd f fun d => lift (gItems d)
theorem di_items {c : Ct} {W : WX} {X : Cx} {e : Expr} {f : Em} {apos cpos : Pos} {elts : List Expr} {kk : Nat} {tpos : Pos} (h : PE X e (T c W f)) (hbase : attributeBase e "items" X.env (eval e X.env) = eval e X.env := by rfl) (hline : (apos.endLine == cpos.line) = true := by rfl) :
    PI X (.Tuple elts kk tpos) (.Call (.Attribute e "items" apos) [] [] cpos) (IX c W (mItems f)) := impI (PI.or (pi_itemsT h hbase hline) (pi_itemsX h hbase hline)) fun σ H R ⟨yy, F, env, μ, as, r, q⟩ => by
  unfold mItems bnd at q
  cases e1 : f env μ with
  | none => rw [e1] at q; exact q.elim
  | some z =>
    rw [e1] at q
    cases z with
    | err x fs μ' => exact .inl ⟨yy, F, env, μ, as, r, by rw [e1]; exact q⟩
    | ok d μ' =>
      change Aft (PI' c) (c.w yy) W F σ env as (lift (gItems d) env μ') _ at q
      cases e2 : gItems d with
      | none => rw [e2] at q; exact q.elim
      | some ds =>
        rw [e2] at q
        cases d with
        | dct fz kvs =>
          cases fz with
          | false => cases e2
          | true =>
            cases e2
            refine .inl ⟨yy, F, env, μ, as, r, ?_⟩
            rw [e1]
            intro v F' H' as' x y R1 p
            obtain ⟨a, vs, rfl, ⟨o, h1⟩, h2⟩ := p
            exact ⟨a, o, vs, rfl, R1.ex _ _ h1, q _ F' H' as' x y R1 (good_itemsT h2 h1)⟩
        | dx fz kvs =>
          cases fz with
          | false => cases e2
          | true =>
            cases e2
            refine .inr ⟨yy, F, env, μ, as, r, ?_⟩
            rw [e1]
            intro v F' H' as' x y R1 p
            obtain ⟨a, b, o, xs, rfl, h1, h2, h3⟩ := p
            obtain ⟨vs, g1, g2, g3⟩ := dtx_ent h3
            exact ⟨a, b, o, xs, vs, rfl, R1.ex _ _ h1, h2, g1, q _ F' H' as' x y R1 (good_itemsX h1 h2 g1 g2 g3)⟩
        | _ => cases e2
end Sh
namespace Sh
open PySem PySem.Spec PyProof.Rows L2
variable [Wd]
/-! ### sorted pairs, however many -/
def gSortP : List D → Option D
  | [.lst xs] => (dTups xs).bind fun nn => if nn.all (okT 2) = true then some (.lst ((sortK (TS.code cB) nn).map tupI)) else none
  | _ => none
def pairOf (F : Hp) : V → Int × Int
  | .ref t => (match F t with
    | some (.tup [.int a, .int b]) => (a, b)
    | _ => (0, 0))
  | _ => (0, 0)
section
variable {K : PySem.W.Frag} {X : Cx}
theorem pair_at {F : Hp} {nn : List (List Int)} {vs : List V} (h : Dts K F (nn.map tupI) vs) (ok : ∀ n ∈ nn, n.length = 2) {i : Nat} {v : V} (hv : vs[i]? = some v) : ∃ a b t, nn[i]? = some [a, b] ∧ v = .ref t ∧ F t = some (.tup [.int a, .int b]) ∧ pairOf F v = (a, b) := by
  have hi : i < nn.length := by
    have := lt_of_at hv
    rw [h.len, List.length_map] at this
    exact this
  have hn : nn[i]? = some nn[i] := List.getElem?_eq_getElem hi
  obtain ⟨w, hw, t, ws, rfl, h1, h2⟩ := h.at (i := i) (d := Sh.tupI nn[i]) (by rw [List.getElem?_map, hn]; rfl)
  rw [hv] at hw
  cases hw
  rw [Dts.ints.mp h2] at h1
  have l2 := ok _ (List.getElem_mem hi)
  generalize nn[i] = n at hn h1 l2
  match n, l2 with
  | [a, b], _ =>
    refine ⟨a, b, t, hn, rfl, h1, ?_⟩
    have h1 : F t = some (.tup [.int a, .int b]) := h1
    unfold pairOf
    simp only [h1]
theorem code_le {a b c d : Int} (h : SrtO.lexB (c, d) (a, b) = false) (h1 : TS.Bd cB [a, b]) (h2 : TS.Bd cB [c, d]) : TS.code cB [a, b] ≤ TS.code cB [c, d] := by
  have n : ¬ (c < a ∨ (c = a ∧ d < b)) := fun z => by
    have := SrtO.lexB_iff (p := (c, d)) (q := (a, b)).mpr z
    rw [h] at this
    cases this
  rcases Int.lt_trichotomy a c with z | z | z
  · exact Int.le_of_lt (TS.code_lt rfl h1.tail h2.tail z)
  · subst z
    have : b ≤ d := by omega
    show a * cB ^ 1 + (b * cB ^ 0 + 0) ≤ a * cB ^ 1 + (d * cB ^ 0 + 0)
    have e : cB ^ 0 = 1 := rfl
    rw [e]; omega
  · exact (n (.inl z)).elim
theorem sem_sortP : CSem K (rSortedPO K) gSortP := by
  intro F H vs ds d Q eF hd e k
  match ds, e with
  | [.lst xs], e =>
    obtain ⟨v, rfl, a, ws, rfl, h1, h2⟩ := hd.one_inv
    obtain ⟨nn, et, e⟩ := Option.bind_eq_some_iff.mp (show (dTups xs).bind (fun nn => if nn.all (okT 2) = true then some (D.lst ((sortK (TS.code cB) nn).map tupI)) else none) = some d from e)
    by_cases hc : nn.all (okT 2) = true
    · rw [if_pos hc] at e
      cases e
      rw [dTups_eq et] at h2
      have ok : ∀ n ∈ nn, n.length = 2 ∧ TS.Bd cB n := fun n hn => okT_ok (List.all_eq_true.mp hc n hn)
      refine ⟨a, ws, pairOf F, rfl, SqL.of (eF _ _ h1), fun x hx => ?_, fun ys p hs stb hp => ?_⟩
      · obtain ⟨i, hi⟩ := List.mem_iff_getElem?.mp hx
        obtain ⟨u, v, t, _, rfl, g, g2⟩ := pair_at h2 (fun n hn => (ok n hn).1) hi
        exact ⟨t, rfl, by rw [g2]; exact eF _ _ g⟩
      · obtain ⟨ds', pd, hys⟩ := h2.perm stb.perm
        obtain ⟨mm, pn, rfl⟩ := perm_map pd
        have ok2 : ∀ n ∈ mm, n.length = 2 ∧ TS.Bd cB n := fun n hn => ok n (pn.mem_iff.mp hn)
        have srt : mm.Pairwise (fun a b => TS.code cB a ≤ TS.code cB b) := by
          rw [List.pairwise_iff_getElem]
          intro i j hi hj hij
          have li : i < ys.length := by rw [hys.len, List.length_map]; exact hi
          have lj : j < ys.length := by rw [hys.len, List.length_map]; exact hj
          obtain ⟨a1, b1, t1, n1, _, _, q1⟩ := pair_at hys (fun n hn => (ok2 n hn).1) (List.getElem?_eq_getElem li)
          obtain ⟨a2, b2, t2, n2, _, _, q2⟩ := pair_at hys (fun n hn => (ok2 n hn).1) (List.getElem?_eq_getElem lj)
          have z := (List.pairwise_iff_getElem.mp hs) i j li lj hij
          have z : SrtO.lexB (pairOf F ys[j]) (pairOf F ys[i]) = false := z
          rw [q1, q2] at z
          rw [List.getElem?_eq_getElem hi] at n1
          rw [List.getElem?_eq_getElem hj] at n2
          have e1 := Option.some.inj n1
          have e2 := Option.some.inj n2
          have k1 := (ok2 _ (List.getElem_mem hi)).2
          have k2 := (ok2 _ (List.getElem_mem hj)).2
          rw [e1] at k1 ⊢
          rw [e2] at k2 ⊢
          exact code_le z k1 k2
        have eq : mm = sortK (TS.code cB) nn := sorted_uniq (pn.trans (sortK_perm (key := TS.code cB) nn).symm) (fun x hx y hy z => code_inj ((ok2 x hx).1.trans (ok2 y hy).1.symm) (ok2 x hx).2 (ok2 y hy).2 z) srt (sortK_sorted _)
        have n := new1 (o := .lst ys) eF hp
        rw [← eq] at k
        exact k _ _ _ n ⟨p, ys, rfl, upd_same, Dts.mono n.f _ _ hys⟩
    · rw [if_neg hc] at e; cases e
variable {c : Ct} {W : WX} {k : Nat} {pos p : Pos} {e : Expr} {es : List Expr} {l : Mx (List D)}
theorem de_sortedP (B : Bd X c k) (hg : Gl X "sorted") (hm : X.mg "sorted" = none) (ha : PA X (e :: es) (TL c W l)) (he : starEach (e :: es) X.env = (false, eval e X.env) :: starEach es X.env := by rfl) (hpl : (backTo pos (starEach es X.env)).any (·.1) = false := by rfl) : PE X (.Call (.Name "sorted" p) (e :: es) [] pos) (T c W (mCall gSortP l)) :=
  de_callB cr_sortedPO (by rw [B.K]; exact sem_sortP) hg hm (by decide +kernel) ha (by decide) (by decide) he hpl
end
/-! ### a call that leaves the last argument to its default, a tuple of the module's own -/
theorem bnd_ret {α β γ : Type} (f : Mx α) (h : α → β) (k : β → Mx γ) : bnd (bnd f fun a => ret (h a)) k = bnd f fun a => k (h a) := by
  funext env μ
  unfold bnd
  cases f env μ with
  | none => rfl
  | some z => cases z <;> rfl
theorem ArsR.app1 {K : PySem.W.Frag} {F : Hp} {as : List (Option Addr)} {a : Ar} {v : V} : ∀ {l : List Ar} {vs : List V}, ArsR K F as l vs → ArR K F as a v → ArsR K F as (l ++ [a]) (vs ++ [v])
  | [], vs, h, g => by rw [show vs = [] from h]; exact ⟨v, [], rfl, g, rfl⟩
  | b :: l, vs, ⟨x, t, e, h1, h2⟩, g => by subst e; exact ⟨x, _, rfl, h1, ArsR.app1 h2 g⟩
end Sh
namespace Sh
open PySem PySem.Spec PyProof.Rows L2
variable [Wd]
/-! ### a dict display with one pair, as data -/
theorem Rel.tell {c : Ct} {y : Dy} {F H : Hp} {σ : L2.St} {env : Env} {μ : Mu} {as : List (Option Addr)} {p : Addr} {ho : HO} (R : Rel (c.w y) F H σ env μ as) (f : Free F as y p) (hp : H p = some ho) : Rel (c.w y) (upd F p ho) H σ env μ as := by
  have hf : Ex F (upd F p ho) := Evl.Ex.new f.1
  refine ⟨fun b u h => ?_, R.sz, fun i d h => ?_, R.la, R.inj, fun k a h => ?_, fun k o h nh => ?_, R.base, R.par, R.pin, fun b h => ?_, fun q hq => hf _ _ (R.gl q hq)⟩
  · by_cases hb : b = p
    · subst hb; rw [upd_same] at h; cases h; exact hp
    · rw [upd_ne hb] at h; exact R.ex b u h
  · obtain ⟨v, h1, h2⟩ := R.rd i d h
    exact ⟨v, h1, Dt.mono hf _ _ h2⟩
  · obtain ⟨h1, h2, h3⟩ := R.out k a h
    have hb : a ≠ p := fun z => f.2.1 k (by rw [← z]; exact h)
    exact ⟨by rw [upd_ne hb]; exact h1, h2, h3⟩
  · obtain ⟨a, h1, h2, h3⟩ := R.own k o h nh
    exact ⟨a, h1, h2.grow hf (Evl.Ex.refl _), h3⟩
  · by_cases hb : b = p
    · subst hb; exact .inr (.inl f.2.2)
    · rw [upd_ne hb] at h; exact R.nw b h
def mD1 (fk fv : Em) : Em := bnd fk fun kd => bnd fv fun d => lift ((tupKey kd).map fun key => .dct true [(key, d)])
theorem de_d1 {c : Ct} {W : WX} {X : Cx} {pos : Pos} {k v : Expr} {fk fv : Em} (hu : X.A.units < cLine) (hk : PE X k (T c W fk)) (hv : PE X v (T c W fv)) : PE X (.Dict [some k] [v] pos) (T c W (mD1 fk fv)) := impE (pe_fz (pe_d1 hu hk hv)) fun σ H Q ⟨yy, F, env, μ, as, R, q⟩ => by
  intro p hp
  have fr := R.fresh hp
  have R1 := R.lay (ho := .dT []) fr (.inl hp)
  have nt : ∀ xs, HO.dT [] ≠ .tup xs := fun xs h => by cases h
  refine ⟨yy.gd F p (.dT []), F, env, μ, as, R1.guard fr upd_same, ?_⟩
  unfold mD1 bnd at q
  cases e1 : fk env μ with
  | none => simp only [e1] at q; exact q.elim
  | some z =>
    simp only [e1] at q
    cases z with
    | err x fs μ' =>
      intro F' H' as' d x y R' xd
      obtain ⟨_, _, R4⟩ := R1.unguard fr nt R' x
      exact q F' H' as' d x y R4 xd
    | ok kd μ1 =>
      intro vk F1 H1 as1 x1 y1 Rg1 p1
      refine ⟨yy.gd F p (.dT []), F1, env, μ1, as1, Rg1, ?_⟩
      simp only at q
      cases e2 : fv env μ1 with
      | none => simp only [e2] at q; exact q.elim
      | some z =>
        simp only [e2] at q
        cases z with
        | err x fs μ2 =>
          intro F' H' as' d x y R' xd
          obtain ⟨_, _, R4⟩ := R1.unguard fr nt R' (x1.trans x)
          exact q F' H' as' d (x1.trans x) (y1.trans y) R4 xd
        | ok d μ2 =>
          intro v F2 H2 as2 x2 y2 Rg2 p2
          obtain ⟨hD, fr2, R4⟩ := R1.unguard fr nt Rg2 (x1.trans x2)
          simp only at q
          cases e3 : tupKey kd with
          | none => simp only [e3, Option.map_none] at q; exact q.elim
          | some key =>
            simp only [e3, Option.map_some] at q
            cases kd with
            | tup ks =>
              obtain ⟨b, bs, rfl, q1, q2⟩ := p1
              rw [keyOf_eq (show keyOf ks = some key from e3)] at q2
              rw [q2.key] at q1
              refine ⟨key, b, rfl, hD, R4.ex _ _ (x2 _ _ q1), ?_⟩
              refine ⟨p, .dT [(key, v)], rfl, upd_same, trivial, fun od => ?_⟩
              rw [upd_upd]
              have R5 := R4.lay (ho := .frz od (.dT [(key, v)])) fr2 (.inr (by rw [hD]; exact ⟨by simp, by intro xs h; cases h⟩))
              have hf : Ex F2 (upd F2 p (.frz od (.dT [(key, v)]))) := Evl.Ex.new fr2.1
              exact q (.ref p) _ _ as2 ((x1.trans x2).trans hf) (y1.trans y2) (R5.tell fr2 upd_same) ⟨p, [(key, v)], rfl, ⟨od, upd_same⟩, v, [], rfl, Dt.mono hf _ _ p2, rfl⟩
            | _ => cases e3
end Sh
set_option maxHeartbeats 0
namespace HD
open PySem PySem.Spec PyProof.Rows L2 Sh
variable [Wd]
def l0_mix : Sm := (sAsg (mBin dMod (mCall gInt (mCons (mBin dAdd (mBin dAdd (mBin dMul (mVar 2) (ret (.int 48271))) (mBin dMod (mCall gInt (mCons (mVar 3) mNil)) (ret (.int 2147483629)))) (ret (.int 1))) mNil)) (ret (.int 2147483647))) (aName 2))
def b_mix1 : Sm := (sAsg (mVar 1) (aName 2))
def b_mix2 : Sm := (sFor (mIt (mVar 0)) (aName 3)
  l0_mix)
def g_next (G : List (Addr × List V)) : Sg := ⟨[some 0, none], [0, 1], G⟩
def b_next (G : List (Addr × List V)) : Sm := (sSeq (sAsg (mBin dIx (mHcat (mLst (mCons (ret (.int 0)) mNil))) (mBin dMod (mCall gInt (mCons (mHl true) mNil)) (mCall gMax (mCons (ret (.int 1)) (mCons mHlen mNil))))) (aName 2))
  (sSeq (sIf (mTest (mBin dGe (mVar 2) (mBin dPow (ret (.int 10)) (ret (.int 18)))))
  (sSeq (sHcell (mBin dMod (mCall gInt (mCons (mHl true) mNil)) mHlen) (mBin dFdiv (mVar 2) (mVar 1)))
  (sRet (mBin dMod (mCall gInt (mCons (mVar 2) mNil)) (mVar 1))))
  sNext)
  (sSeq (sHset false (mBin dMod (mCall gInt (mCons (mBin dAdd (mBin dAdd (mBin dMul (mHl false) (ret (.int 48271))) (mBin dMul (mVar 2) (ret (.int 69621)))) (ret (.int 11))) mNil)) (ret (.int 2147483647))))
  (sSeq (sHset true (mBin dAdd (mHl true) (ret (.int 1))))
  (sRet (mBin dMod (mCall gInt (mCons (mBin dFdiv (mHl false) (ret (.int 7))) mNil)) (mVar 1)))))))
def f_next (G : List (Addr × List V)) : Fm := fnG (g_next G) 3 (b_next G)
def g_pick (G : List (Addr × List V)) : Sg := ⟨[some 0, none], [0, 1], G⟩
def b_pick (G : List (Addr × List V)) : Sm := (sRet (mBin dIx (mVar 1) (mFn (g_next G) 2 2 [(0, 0), (1, 1)] (noErr (f_next G)) (rOwn 0 (rCons (mCall gLen (mCons (mVar 1) mNil)) rNil)))))
def f_pick (G : List (Addr × List V)) : Fm := fnG (g_pick G) 2 (b_pick G)
def g_program (G : List (Addr × List V)) : Sg := ⟨[some 0, none, some 2, some 3], [0, 1], G⟩
def q0_program (G : List (Addr × List V)) : Mx Bool := (mView yesB 3 3 (bAnd (mTest (mBin dNe (mVar 3) (mLst mNil))) (bOr (mTest (mBin dGe (mVar 8) (mVar 6))) (mTest (mBin dLt (mVar 10) (ret (.int 1)))))))
def b0_program (G : List (Addr × List V)) : Sm := (sSeq (sAsg (mView noM 3 3 (mFn (g_pick G) 2 2 [(0, 0), (1, 1)] (noErr (f_pick G)) (rOwn 0 (rCons (mLst (mCons (ret (.int 0)) (mCons (mBin dSub (mCall gLen (mCons (mVar 3) mNil)) (ret (.int 1))) mNil))) rNil)))) (aName 11))
  (sSeq (sApp 2 (mView noM 3 3 (mTup (mCons (ret (.str "leave")) (mCons (mBin dIx (mVar 3) (mVar 11)) mNil)))))
  (sOwn 3 3 (oView 3 3 (oCat (mSl (mVar 3) none (some (mVar 11))) (mSl (mVar 3) (some (mBin dAdd (mVar 11) (ret (.int 1)))) none))))))
def b1_program (G : List (Addr × List V)) : Sm := (sApp 2 (mTup (mCons (ret (.str "work")) mNil)))
def q1_program (G : List (Addr × List V)) : Mx Bool := (mView yesB 3 3 (bAnd (mTest (mBin dGe (mVar 8) (mVar 6))) (bAnd (mTest (mBin (dIn true) (mVar 9) (mVar 3))) (mTest (mBin dGt (mVar 10) (ret (.int 1)))))))
def b2_program (G : List (Addr × List V)) : Sm := (sSeq (sApp 3 (mVar 9))
  (sApp 2 (mTup (mCons (ret (.str "take")) (mCons (mVar 9) mNil)))))
def b3_program (G : List (Addr × List V)) : Sm := (sIf (q0_program G)
  (b0_program G)
  (b1_program G))
def l0_program (G : List (Addr × List V)) : Sm := (sSeq (sMul [(8, none), (9, none), (10, none)] (fDat (mFn (g_next G) 2 2 [(0, 0), (1, 1)] (noErr (f_next G)) (rOwn 0 (rCons (ret (.int 8)) rNil))) (fDat (mFn (g_next G) 2 2 [(0, 0), (1, 1)] (noErr (f_next G)) (rOwn 0 (rCons (mVar 4) rNil))) (fDat (mView noM 3 3 (mBin dSub (mBin dSub (mVar 5) (mVar 7)) (mCall gLen (mCons (mVar 3) mNil)))) fNil))))
  (sIf (q1_program G)
  (b2_program G)
  (b3_program G)))
def b_program (G : List (Addr × List V)) : Sm := (sSeq (sMul [(2, some 2), (3, some 3), (4, none)] (fOwn (oLst mNil) (fOwn (oLst mNil) (fDat (mBin dAdd (ret (.int 1)) (mFn (g_next G) 2 2 [(0, 0), (1, 1)] (noErr (f_next G)) (rOwn 0 (rCons (ret (.int 4)) rNil)))) fNil))))
  (sSeq (sMul [(5, none), (6, none)] (fDat (mFn (g_next G) 2 2 [(0, 0), (1, 1)] (noErr (f_next G)) (rOwn 0 (rCons (mBin dAdd (mVar 1) (ret (.int 1))) rNil))) (fDat (mFn (g_pick G) 2 2 [(0, 0), (1, 1)] (noErr (f_pick G)) (rOwn 0 (rCons (mLst (mCons (ret (.int 0)) (mCons (ret (.int 1)) (mCons (ret (.int 5)) mNil)))) rNil))) fNil)))
  (sSeq (sFor (mRng gRng1 (mCons (mVar 5) mNil)) (aName 7)
  (l0_program G))
  (sRet (mView noM 2 2 (mCall gTuple (mCons (mVar 2) mNil)))))))
def f_program (G : List (Addr × List V)) : Fm := fnG (g_program G) 12 (b_program G)
def g_pairs (G : List (Addr × List V)) : Sg := ⟨[some 0, none], [0, 1], G⟩
def b_pairs (G : List (Addr × List V)) : Sm := (sSeq (sMul [(2, none), (3, none)] (fDat (mFn (g_program G) 4 2 [(0, 0), (1, 1)] (noErr (f_program G)) (rOwn 0 (rCons (mVar 1) rNil))) (fDat (mFn (g_program G) 4 2 [(0, 0), (1, 1)] (noErr (f_program G)) (rOwn 0 (rCons (mVar 1) rNil))) fNil)))
  (sRet (mTup (mCons (mVar 2) (mCons (mFn (g_pick G) 2 2 [(0, 0), (1, 1)] (noErr (f_pick G)) (rOwn 0 (rCons (mLst (mCons (mVar 3) (mCons (mVar 3) (mCons (mVar 2) mNil)))) rNil))) mNil)))))
def f_pairs (G : List (Addr × List V)) : Fm := fnG (g_pairs G) 4 (b_pairs G)
def g_hold_times (G : List (Addr × List V)) : Sg := ⟨[none, none, some 1, some 2], [], G⟩
def l0_hold_times (G : List (Addr × List V)) : Sm := (sIf (mTest (mBin dEq (mBin dIx (mVar 4) (ret (.int 0))) (ret (.str "take"))))
  (sPutK 2 (mBin dIx (mVar 4) (ret (.int 1))) (mVar 3))
  (sIf (mTest (mBin dEq (mBin dIx (mVar 4) (ret (.int 0))) (ret (.str "leave"))))
  (sApp 3 (mTup (mCons (mBin dIx (mVar 4) (ret (.int 1))) (mCons (mGetK 2 (mBin dIx (mVar 4) (ret (.int 1)))) (mCons (mBin dSub (mVar 3) (ret (.int 1))) mNil)))))
  sNext))
def b_hold_times (G : List (Addr × List V)) : Sm := (sSeq (sOwnK 2 1)
  (sSeq (sOwn 3 2 (oLst mNil))
  (sSeq (sFor (mEnum 1 (mCons (mVar 0) mNil)) (aTup [(aName 3), (aName 4)])
  (l0_hold_times G))
  (sSeq (sFrz 3 2) (sRet (mVar 2))))))
def f_hold_times (G : List (Addr × List V)) : Fm := fnG (g_hold_times G) 5 (b_hold_times G)
def g_blocks (G : List (Addr × List V)) : Sg := ⟨[], [], G⟩
def e0_blocks (G : List (Addr × List V)) : Em := (mTup (mCons (mVar 1) (mCons (mVar 2) (mCons (mVar 3) (mCons (mVar 5) (mCons (mVar 6) mNil))))))
def t0_blocks (G : List (Addr × List V)) : Mx Bool := (mTest (mBin dEq (mVar 4) (mVar 1)))
def i0_blocks (G : List (Addr × List V)) : Mx (List D) := (mIt (mFn (g_hold_times G) 4 1 [] (noErr (f_hold_times G)) (rCons (mFld "Pair" "_other" (mVar 0)) rNil)))
def b_blocks (G : List (Addr × List V)) : Sm := (sRet (mCall gSort (mCons (mLc2 [1, 2, 3, 4, 5, 6] (mIt (mFn (g_hold_times G) 4 1 [] (noErr (f_hold_times G)) (rCons (mFld "Pair" "_one" (mVar 0)) rNil))) (aTup [(aName 1), (aName 2), (aName 3)]) pYes (i0_blocks G) [4, 5, 6] (aTup [(aName 4), (aName 5), (aName 6)]) (t0_blocks G) (e0_blocks G)) mNil)))
def f_blocks (G : List (Addr × List V)) : Fm := fnG (g_blocks G) 7 (b_blocks G)
def g_held_behind (G : List (Addr × List V)) : Sg := ⟨[], [], G⟩
def t0_held_behind (G : List (Addr × List V)) : Mx Bool := (mTest (mBin dNe (mVar 2) (mBin dIx (mVar 1) (ret (.int 1)))))
def b_held_behind (G : List (Addr × List V)) : Sm := (sSeq (sIf (mTest (mBin dEq (mBin dIx (mVar 1) (ret (.int 0))) (ret (.str "take"))))
  (sRet (mTup (mStar (mVar 0) (mCons (mBin dIx (mVar 1) (ret (.int 1))) mNil))))
  sNext)
  (sSeq (sIf (mTest (mBin dEq (mBin dIx (mVar 1) (ret (.int 0))) (ret (.str "leave"))))
  (sRet (mCall gTuple (mCons (mLc [2] (mIt (mVar 0)) (aName 2) (t0_held_behind G) (mVar 2)) mNil)))
  sNext)
  (sRet (mVar 0))))
def f_held_behind (G : List (Addr × List V)) : Fm := fnG (g_held_behind G) 3 (b_held_behind G)
def g_is_number (G : List (Addr × List V)) : Sg := ⟨[], [], G⟩
def b_is_number (G : List (Addr × List V)) : Sm := (sRet (mAnd (mIsB .int (mVar 0)) (mAnd (mNot (mIsB .bool (mVar 0))) (mChain dLe dLe (ret (.int 0)) (mVar 0) (mVar 1)))))
def f_is_number (G : List (Addr × List V)) : Fm := fnG (g_is_number G) 2 (b_is_number G)
def g_is_step (G : List (Addr × List V)) : Sg := ⟨[], [], G⟩
def b_is_step (G : List (Addr × List V)) : Sm := (sSeq (sIf (mTest (mBin dEq (mVar 0) (mTup (mCons (ret (.str "work")) mNil))))
  (sRet (ret (.bl true)))
  sNext)
  (sSeq (sIf (bOr (bNot (mTru (mIsB .tuple (mVar 0)))) (mTest (mBin dNe (mCall gLen (mCons (mVar 0) mNil)) (ret (.int 2)))))
  (sRet (ret (.bl false)))
  sNext)
  (sRet (mAnd (mBin (dIn false) (mBin dIx (mVar 0) (ret (.int 0))) (mTup (mCons (ret (.str "take")) (mCons (ret (.str "leave")) mNil)))) (mFn (g_is_number G) 0 2 [] (noErr (f_is_number G)) (rCons (mBin dIx (mVar 0) (ret (.int 1))) (rCons (ret (.int 3)) rNil)))))))
def f_is_step (G : List (Addr × List V)) : Fm := fnG (g_is_step G) 1 (b_is_step G)
def g_can_follow (G : List (Addr × List V)) : Sg := ⟨[], [], G⟩
def b_can_follow (G : List (Addr × List V)) : Sm := (sSeq (sIf (mTest (mBin dEq (mBin dIx (mVar 1) (ret (.int 0))) (ret (.str "take"))))
  (sRet (mBin (dIn true) (mBin dIx (mVar 1) (ret (.int 1))) (mVar 0)))
  sNext)
  (sSeq (sIf (mTest (mBin dEq (mBin dIx (mVar 1) (ret (.int 0))) (ret (.str "leave"))))
  (sRet (mBin (dIn false) (mBin dIx (mVar 1) (ret (.int 1))) (mVar 0)))
  sNext)
  (sRet (ret (.bl true)))))
def f_can_follow (G : List (Addr × List V)) : Fm := fnG (g_can_follow G) 2 (b_can_follow G)
def g_check_program (G : List (Addr × List V)) : Sg := ⟨[], [], G⟩
def l0_check_program (G : List (Addr × List V)) : Sm := (sSeq (sIf (bOr (bNot (mTru (mFn (g_is_step G) 0 1 [] (noErr (f_is_step G)) (rCons (mVar 4) rNil)))) (bNot (mTru (mFn (g_can_follow G) 0 2 [] (noErr (f_can_follow G)) (rCons (mVar 2) (rCons (mVar 4) rNil))))))
  sNo
  sNext)
  (sAsg (mFn (g_held_behind G) 0 2 [] (noErr (f_held_behind G)) (rCons (mVar 2) (rCons (mVar 4) rNil))) (aName 2)))
def b_check_program (G : List (Addr × List V)) : Sm := (sSeq (sIf (bOr (bNot (mTru (mIsB .tuple (mVar 0)))) (mTest (mBin dGt (mCall gLen (mCons (mVar 0) mNil)) (ret (.int 12)))))
  sNo
  sNext)
  (sSeq (sAsg (mTup mNil) (aName 2))
  (sSeq (sFor (mEnum 0 (mCons (mVar 0) mNil)) (aTup [(aName 3), (aName 4)])
  (l0_check_program G))
  (sIf (mTru (mVar 2))
  sNo
  sNext))))
def f_check_program (G : List (Addr × List V)) : Fm := fnG (g_check_program G) 5 (b_check_program G)
abbrev g_iniPair (G : List (Addr × List V)) : Sg := gIni G
def b_iniPair (G : List (Addr × List V)) : Sm := (sSeq (sExp (mFn (g_check_program G) 0 2 [] (noErr (f_check_program G)) (rCons (mVar 1) (rCons (ret (.int 0)) rNil))))
  (sSeq (sExp (mFn (g_check_program G) 0 2 [] (noErr (f_check_program G)) (rCons (mVar 2) (rCons (ret (.int 1)) rNil))))
  (sSeq (sFldS "Pair" 1 "_one" (mVar 1))
  (sFldS "Pair" 1 "_other" (mVar 2)))))
def f_iniPair (G : List (Addr × List V)) : Fm := fnG (g_iniPair G) 3 (b_iniPair G)
def g_alike (G : List (Addr × List V)) : Sg := ⟨[], [], G⟩
def q0_alike (G : List (Addr × List V)) (self : Fm) : Mx Bool := (bOr (bNot (mTru (mIsB2 .tuple .list (mVar 0)))) (mTest (mBin dNe (mIsB .list (mVar 0)) (mIsB .list (mVar 1)))))
def b0_alike (G : List (Addr × List V)) (self : Fm) : Sm := (sRet (ret (.bl false)))
def q1_alike (G : List (Addr × List V)) (self : Fm) : Mx Bool := (mTest (mBin dNe (mCall gLen (mCons (mVar 0) mNil)) (mCall gLen (mCons (mVar 1) mNil))))
def t0_alike (G : List (Addr × List V)) (self : Fm) : Mx Bool := (bNot (mTru (mFn (g_alike G) 0 2 [] (noErr self) (rCons (mBin dIx (mVar 0) (mVar 2)) (rCons (mBin dIx (mVar 1) (mVar 2)) rNil)))))
def q2_alike (G : List (Addr × List V)) (self : Fm) : Mx Bool := (mTru (mIsB2 .tuple .list (mVar 1)))
def b1_alike (G : List (Addr × List V)) (self : Fm) : Sm := (sSeq (sIf (q0_alike G self)
  (b0_alike G self)
  sNext)
  (sSeq (sIf (q1_alike G self)
  (b0_alike G self)
  sNext)
  (sRet (mBin dEq (mLc [2] (mRng gRng1 (mCons (mCall gLen (mCons (mVar 1) mNil)) mNil)) (aName 2) (t0_alike G self) (mVar 2)) (mLst mNil)))))
def q3_alike (G : List (Addr × List V)) (self : Fm) : Mx Bool := (bOr (mTest (mBin (dIsN false) (mVar 1) (ret .non))) (mTru (mIsB .str (mVar 1))))
def b2_alike (G : List (Addr × List V)) (self : Fm) : Sm := (sRet (mAnd (mBin dEq (mVar 0) (mVar 1)) (mBin dEq (mIsB .str (mVar 0)) (mIsB .str (mVar 1)))))
def b_alike (G : List (Addr × List V)) (self : Fm) : Sm := (sSeq (sIf (q2_alike G self)
  (b1_alike G self)
  sNext)
  (sSeq (sIf (q3_alike G self)
  (b2_alike G self)
  sNext)
  (sRet (mAnd (mIsB .int (mVar 0)) (mAnd (mBin dEq (mIsB .bool (mVar 0)) (mIsB .bool (mVar 1))) (mBin dEq (mVar 0) (mVar 1)))))))
def f_alike (G : List (Addr × List V)) : Nat → Fm := fRec (g_alike G) 3 (b_alike G)
def g_held (G : List (Addr × List V)) : Sg := ⟨[none, none, some 2], [], G⟩
def t0_held (G : List (Addr × List V)) : Mx Bool := (mTest (mBin dNe (mVar 4) (mBin dIx (mVar 3) (ret (.int 1)))))
def q0_held (G : List (Addr × List V)) : Mx Bool := (mTest (mBin dEq (mBin dIx (mVar 3) (ret (.int 0))) (ret (.str "leave"))))
def b0_held (G : List (Addr × List V)) : Sm := (sOwn 2 2 (oView 2 2 (oLc [4] (mIt (mVar 2)) (aName 4) (t0_held G) (mVar 4))))
def q1_held (G : List (Addr × List V)) : Mx Bool := (mTest (mBin dEq (mBin dIx (mVar 3) (ret (.int 0))) (ret (.str "take"))))
def b1_held (G : List (Addr × List V)) : Sm := (sApp 2 (mBin dIx (mVar 3) (ret (.int 1))))
def b2_held (G : List (Addr × List V)) : Sm := (sIf (q0_held G)
  (b0_held G)
  sNext)
def l0_held (G : List (Addr × List V)) : Sm := (sIf (q1_held G)
  (b1_held G)
  (b2_held G))
def b_held (G : List (Addr × List V)) : Sm := (sSeq (sOwn 2 2 (oLst mNil))
  (sSeq (sFor (mIt (mSl (mVar 0) none (some (mVar 1)))) (aName 3)
  (l0_held G))
  (sRet (mView noM 2 2 (mCall gTuple (mCons (mCall gSort (mCons (mVar 2) mNil)) mNil))))))
def f_held (G : List (Addr × List V)) : Fm := fnG (g_held G) 5 (b_held G)
def g_open (G : List (Addr × List V)) : Sg := ⟨[], [], G⟩
def q0_open (G : List (Addr × List V)) : Mx Bool := (bOr (mTest (mBin dGt (mBin dIx (mVar 2) (ret (.int 0))) (mCall gLen (mCons (mVar 0) mNil)))) (mTest (mBin dGt (mBin dIx (mVar 2) (ret (.int 1))) (mCall gLen (mCons (mVar 1) mNil)))))
def b0_open (G : List (Addr × List V)) : Sm := (sRet (ret (.bl false)))
def t0_open (G : List (Addr × List V)) : Mx Bool := (mTest (mBin (dIn false) (mVar 5) (mVar 4)))
def b_open (G : List (Addr × List V)) : Sm := (sSeq (sIf (q0_open G)
  (b0_open G)
  sNext)
  (sSeq (sMul [(3, none), (4, none)] (fDat (mFn (g_held G) 3 2 [] (noErr (f_held G)) (rCons (mVar 0) (rCons (mBin dIx (mVar 2) (ret (.int 0))) rNil))) (fDat (mFn (g_held G) 3 2 [] (noErr (f_held G)) (rCons (mVar 1) (rCons (mBin dIx (mVar 2) (ret (.int 1))) rNil))) fNil)))
  (sRet (mBin dEq (mLc [5] (mIt (mVar 3)) (aName 5) (t0_open G) (mVar 5)) (mLst mNil)))))
def f_open (G : List (Addr × List V)) : Fm := fnG (g_open G) 6 (b_open G)
def g_is_place (G : List (Addr × List V)) : Sg := ⟨[], [], G⟩
def b_is_place (G : List (Addr × List V)) : Sm := (sSeq (sIf (bOr (bNot (mTru (mIsB .tuple (mVar 1)))) (mTest (mBin dNe (mCall gLen (mCons (mVar 1) mNil)) (ret (.int 2)))))
  (sRet (ret (.bl false)))
  sNext)
  (sRet (mAnd (mFn (g_is_number G) 0 2 [] (noErr (f_is_number G)) (rCons (mBin dIx (mVar 1) (ret (.int 0))) (rCons (mCall gLen (mCons (mFld "Pair" "_one" (mVar 0)) mNil)) rNil))) (mFn (g_is_number G) 0 2 [] (noErr (f_is_number G)) (rCons (mBin dIx (mVar 1) (ret (.int 1))) (rCons (mCall gLen (mCons (mFld "Pair" "_other" (mVar 0)) mNil)) rNil))))))
def f_is_place (G : List (Addr × List V)) : Fm := fnG (g_is_place G) 2 (b_is_place G)
def g_all_held (G : List (Addr × List V)) : Sg := ⟨[none, none, some 1], [], G⟩
def l0_all_held (G : List (Addr × List V)) : Sm := (sApp 2 (mView noM 2 1 (mFn (g_held_behind G) 0 2 [] (noErr (f_held_behind G)) (rCons (mBin dIx (mVar 1) (mNeg (ret (.int 1)))) (rCons (mVar 2) rNil)))))
def b_all_held (G : List (Addr × List V)) : Sm := (sSeq (sOwn 2 1 (oLst (mCons (mTup mNil) mNil)))
  (sSeq (sFor (mIt (mVar 0)) (aName 2)
  (l0_all_held G))
  (sSeq (sFrz 2 1) (sRet (mVar 1)))))
def f_all_held (G : List (Addr × List V)) : Fm := fnG (g_all_held G) 3 (b_all_held G)
def g_share_lock (G : List (Addr × List V)) : Sg := ⟨[], [], G⟩
def e0_share_lock (G : List (Addr × List V)) : Em := (mBin (dIn false) (mVar 2) (mVar 1))
def b_share_lock (G : List (Addr × List V)) : Sm := (sRet (mCall gAny (mCons (mLc [2] (mIt (mVar 0)) (aName 2) pYes (e0_share_lock G)) mNil)))
def f_share_lock (G : List (Addr × List V)) : Fm := fnG (g_share_lock G) 3 (b_share_lock G)
def g_joined_by (G : List (Addr × List V)) : Sg := ⟨[], [], G⟩
def e0_joined_by (G : List (Addr × List V)) : Em := (mTup (mStar (mVar 3) (mCons (mVar 5) mNil)))
def e1_joined_by (G : List (Addr × List V)) : Em := (mTup (mStar (mVar 4) (mStar (mVar 6) mNil)))
def t0_joined_by (G : List (Addr × List V)) : Mx Bool := (bNot (mTru (mFn (g_share_lock G) 0 2 [] (noErr (f_share_lock G)) (rCons (mVar 4) (rCons (mVar 6) rNil)))))
def i0_joined_by (G : List (Addr × List V)) : Mx (List D) := (mEnum 0 (mCons (mVar 2) mNil))
def b_joined_by (G : List (Addr × List V)) : Sm := (sSeq (sAsg (mFn (g_all_held G) 3 1 [] (noErr (f_all_held G)) (rCons (mVar 1) rNil)) (aName 2))
  (sRet (mDc2 [3, 4, 5, 6] (mItems (mVar 0)) (aTup [(aName 3), (aName 4)]) pYes (i0_joined_by G) [5, 6] (aTup [(aName 5), (aName 6)]) (t0_joined_by G) (e0_joined_by G) (e1_joined_by G))))
def f_joined_by (G : List (Addr × List V)) : Fm := fnG (g_joined_by G) 7 (b_joined_by G)
def g_step_to (G : List (Addr × List V)) : Sg := ⟨[], [], G⟩
def b_step_to (G : List (Addr × List V)) : Sm := (sRet (mTup (mStar (mSl (mVar 0) none (some (mVar 1))) (mCons (mBin dAdd (mBin dIx (mVar 0) (mVar 1)) (ret (.int 1))) (mStar (mSl (mVar 0) (some (mBin dAdd (mVar 1) (ret (.int 1)))) none) mNil)))))
def f_step_to (G : List (Addr × List V)) : Fm := fnG (g_step_to G) 2 (b_step_to G)
def g_moves_from (G : List (Addr × List V)) : Sg := ⟨[], [], G⟩
def e0_moves_from (G : List (Addr × List V)) : Em := (mTup (mCons (mVar 3) (mCons (mFn (g_step_to G) 0 2 [] (noErr (f_step_to G)) (rCons (mVar 1) (rCons (mVar 3) rNil))) mNil)))
def e1_moves_from (G : List (Addr × List V)) : Em := (mTup (mCons (mVar 3) (mCons (mVar 4) mNil)))
def t0_moves_from (G : List (Addr × List V)) : Mx Bool := (mTest (mBin (dIn false) (mVar 4) (mVar 0)))
def b_moves_from (G : List (Addr × List V)) : Sm := (sSeq (sAsg (mLc [3] (mRng gRng1 (mCons (mCall gLen (mCons (mVar 1) mNil)) mNil)) (aName 3) pYes (e0_moves_from G)) (aName 2))
  (sRet (mLc [3, 4] (mIt (mVar 2)) (aTup [(aName 3), (aName 4)]) (t0_moves_from G) (e1_moves_from G))))
def f_moves_from (G : List (Addr × List V)) : Fm := fnG (g_moves_from G) 5 (b_moves_from G)
def g_open_standings (G : List (Addr × List V)) : Sg := ⟨[], [], G⟩
def l0_open_standings (G : List (Addr × List V)) : Sm := (sAsg (mFn (g_joined_by G) 0 2 [] (noErr (f_joined_by G)) (rCons (mVar 1) (rCons (mVar 2) rNil))) (aName 1))
def e0_open_standings (G : List (Addr × List V)) : Em := (mFn (g_moves_from G) 0 2 [] (noErr (f_moves_from G)) (rCons (mVar 1) (rCons (mVar 3) rNil)))
def b_open_standings (G : List (Addr × List V)) : Sm := (sSeq (sAsg (mD1 (mTup mNil) (mTup mNil)) (aName 1))
  (sSeq (sFor (mIt (mVar 0)) (aName 2)
  (l0_open_standings G))
  (sRet (mDc1 [3] (mIt (mVar 1)) (aName 3) pYes (mVar 3) (e0_open_standings G)))))
def f_open_standings (G : List (Addr × List V)) : Fm := fnG (g_open_standings G) 4 (b_open_standings G)
def g_open_places (G : List (Addr × List V)) : Sg := ⟨[], [], G⟩
def b_open_places (G : List (Addr × List V)) : Sm := (sRet (mFn (g_open_standings G) 0 1 [] (noErr (f_open_standings G)) (rCons (mTup (mCons (mFld "Pair" "_one" (mVar 0)) (mCons (mFld "Pair" "_other" (mVar 0)) mNil))) rNil)))
def f_open_places (G : List (Addr × List V)) : Fm := fnG (g_open_places G) 1 (b_open_places G)
def g_is_barred (G : List (Addr × List V)) : Sg := ⟨[], [], G⟩
def b_is_barred (G : List (Addr × List V)) : Sm := (sSeq (sIf (bNot (mTru (mFn (g_is_place G) 0 2 [] (noErr (f_is_place G)) (rCons (mVar 0) (rCons (mVar 1) rNil)))))
  sNo
  sNext)
  (sRet (mBin (dIn true) (mVar 1) (mFn (g_open_places G) 0 1 [] (noErr (f_open_places G)) (rCons (mVar 0) rNil)))))
def f_is_barred (G : List (Addr × List V)) : Fm := fnG (g_is_barred G) 2 (b_is_barred G)
def g_grid (G : List (Addr × List V)) : Sg := ⟨[none, none, some 2], [], G⟩
def l0_grid (G : List (Addr × List V)) : Sm := (sIf (mTru (mFn (g_open G) 0 3 [] (noErr (f_open G)) (rCons (mVar 0) (rCons (mVar 1) (rCons (mTup (mCons (mVar 3) (mCons (mVar 4) mNil))) rNil)))))
  (sPut 2 (mTup (mCons (mVar 3) (mCons (mVar 4) mNil))) (ret (.bl true)))
  sNext)
def l1_grid (G : List (Addr × List V)) : Sm := (sFor (mRng gRng1 (mCons (mBin dAdd (mCall gLen (mCons (mVar 1) mNil)) (ret (.int 1))) mNil)) (aName 4)
  (l0_grid G))
def b_grid (G : List (Addr × List V)) : Sm := (sSeq (sOwn 2 2 oDct)
  (sSeq (sFor (mRng gRng1 (mCons (mBin dAdd (mCall gLen (mCons (mVar 0) mNil)) (ret (.int 1))) mNil)) (aName 3)
  (l1_grid G))
  (sSeq (sFrz 2 2) (sRet (mVar 2)))))
def f_grid (G : List (Addr × List V)) : Fm := fnG (g_grid G) 5 (b_grid G)
def g_next_ones (G : List (Addr × List V)) : Sg := ⟨[], [], G⟩
def t0_next_ones (G : List (Addr × List V)) : Mx Bool := (mTest (mBin (dIn false) (mBin dIx (mVar 3) (ret (.int 1))) (mVar 0)))
def b_next_ones (G : List (Addr × List V)) : Sm := (sSeq (sAsg (mLst (mCons (mTup (mCons (ret (.int 0)) (mCons (mTup (mCons (mBin dAdd (mBin dIx (mVar 1) (ret (.int 0))) (ret (.int 1))) (mCons (mBin dIx (mVar 1) (ret (.int 1))) mNil))) mNil))) (mCons (mTup (mCons (ret (.int 1)) (mCons (mTup (mCons (mBin dIx (mVar 1) (ret (.int 0))) (mCons (mBin dAdd (mBin dIx (mVar 1) (ret (.int 1))) (ret (.int 1))) mNil))) mNil))) mNil))) (aName 2))
  (sRet (mLc [3] (mIt (mVar 2)) (aName 3) (t0_next_ones G) (mVar 3))))
def f_next_ones (G : List (Addr × List V)) : Fm := fnG (g_next_ones G) 4 (b_next_ones G)
def g_to (G : List (Addr × List V)) : Sg := ⟨[none, none, some 1, some 3], [], G⟩
def l0_to (G : List (Addr × List V)) : Sm := (sPut 3 (mVar 6) (mView noM 3 3 (mView noM 2 1 (mBin dAdd (mGet (mVar 3) (mVar 6) (ret (.int 0))) (mBin dIx (mVar 1) (mVar 4))))))
def l1_to (G : List (Addr × List V)) : Sm := (sFor (mIt (mFn (g_next_ones G) 0 2 [] (noErr (f_next_ones G)) (rCons (mVar 0) (rCons (mVar 4) rNil)))) (aTup [(aName 5), (aName 6)])
  (l0_to G))
def l2_to (G : List (Addr × List V)) : Sm := (sPut 2 (mVar 4) (mBin dIx (mVar 3) (mVar 4)))
def l3_to (G : List (Addr × List V)) : Sm := (sSeq (sOwn 3 3 oDct)
  (sSeq (sFor (mIt (mVar 2)) (aName 4)
  (l1_to G))
  (sSeq (sSeq (sFrz 3 3) (sFor (mIt (mVar 3)) (aName 4)
  (l2_to G)))
  (sAsg (mCall gList (mCons (mVar 3) mNil)) (aName 2)))))
def b_to (G : List (Addr × List V)) : Sm := (sSeq (sMul [(1, some 2), (2, none)] (fOwn (oD1 (mTup (mCons (ret (.int 0)) (mCons (ret (.int 0)) mNil))) (ret (.int 1))) (fDat (mLst (mCons (mTup (mCons (ret (.int 0)) (mCons (ret (.int 0)) mNil))) mNil)) fNil)))
  (sSeq (whileS (mTest (mBin dNe (mVar 2) (mLst mNil)))
  (l3_to G) 30)
  (sSeq (sFrz 2 1) (sRet (mVar 1)))))
def f_to (G : List (Addr × List V)) : Fm := fnG (g_to G) 7 (b_to G)
def g_end_of (G : List (Addr × List V)) : Sg := ⟨[], [], G⟩
def b_end_of (G : List (Addr × List V)) : Sm := (sRet (mBin dIx (mCall gList (mCons (mVar 0) mNil)) (mNeg (ret (.int 1)))))
def f_end_of (G : List (Addr × List V)) : Fm := fnG (g_end_of G) 1 (b_end_of G)
def g_start_of (G : List (Addr × List V)) : Sg := ⟨[], [], G⟩
def b_start_of (G : List (Addr × List V)) : Sm := (sRet (mBin dIx (mCall gList (mCons (mVar 0) mNil)) (ret (.int 0))))
def f_start_of (G : List (Addr × List V)) : Fm := fnG (g_start_of G) 1 (b_start_of G)
def g_many_ways (G : List (Addr × List V)) : Sg := ⟨[none, none, some 1], [], G⟩
def l0_many_ways (G : List (Addr × List V)) : Sm := (sPutX 2 (mVar 5) (mView noM 2 1 (mBin dAdd (mGet (mVar 1) (mVar 5) (ret (.int 0))) (mBin dIx (mVar 1) (mVar 2)))))
def l1_many_ways (G : List (Addr × List V)) : Sm := (sIf (mView yesB 2 1 (mTest (mBin (dIn false) (mVar 2) (mVar 1))))
  (sFor (mIt (mVar 3)) (aTup [(aName 4), (aName 5)])
  (l0_many_ways G))
  sNext)
def b_many_ways (G : List (Addr × List V)) : Sm := (sSeq (sOwn 2 1 (oX1 (mFn (g_start_of G) 0 1 [] (noErr (f_start_of G)) (rCons (mVar 0) rNil)) (ret (.int 1))))
  (sSeq (sFor (mItems (mVar 0)) (aTup [(aName 2), (aName 3)])
  (l1_many_ways G))
  (sSeq (sFrz 2 1) (sRet (mVar 1)))))
def f_many_ways (G : List (Addr × List V)) : Fm := fnG (g_many_ways G) 6 (b_many_ways G)
def g_caught_standings (G : List (Addr × List V)) : Sg := ⟨[], [], G⟩
def t0_caught_standings (G : List (Addr × List V)) : Mx Bool := (bAnd (mTest (mBin dNe (mVar 2) (mVar 1))) (bNot (mTru (mBin dIx (mVar 0) (mVar 2)))))
def b_caught_standings (G : List (Addr × List V)) : Sm := (sSeq (sAsg (mFn (g_end_of G) 0 1 [] (noErr (f_end_of G)) (rCons (mVar 0) rNil)) (aName 1))
  (sRet (mCall gSortP (mCons (mLc [2] (mIt (mFn (g_many_ways G) 3 1 [] (noErr (f_many_ways G)) (rCons (mVar 0) rNil))) (aName 2) (t0_caught_standings G) (mVar 2)) mNil))))
def f_caught_standings (G : List (Addr × List V)) : Fm := fnG (g_caught_standings G) 3 (b_caught_standings G)
def g_stuck (G : List (Addr × List V)) : Sg := ⟨[], [], G⟩
def b_stuck (G : List (Addr × List V)) : Sm := (sRet (mFn (g_caught_standings G) 0 1 [] (noErr (f_caught_standings G)) (rCons (mFn (g_open_places G) 0 1 [] (noErr (f_open_places G)) (rCons (mVar 0) rNil)) rNil)))
def f_stuck (G : List (Addr × List V)) : Fm := fnG (g_stuck G) 1 (b_stuck G)
def g_saved_standings (G : List (Addr × List V)) : Sg := ⟨[none, none, some 1], [], G⟩
def e0_saved_standings (G : List (Addr × List V)) : Em := (mBin (dIn false) (mVar 4) (mVar 1))
def l0_saved_standings (G : List (Addr × List V)) : Sm := (sIf (mView yesB 2 1 (mTru (mCall gAny (mCons (mLc [3, 4] (mIt (mBin dIx (mVar 0) (mVar 2))) (aTup [(aName 3), (aName 4)]) pYes (e0_saved_standings G)) mNil))))
  (sPut 2 (mVar 2) (ret (.bl true)))
  sNext)
def b_saved_standings (G : List (Addr × List V)) : Sm := (sSeq (sOwn 2 1 (oD1 (mFn (g_end_of G) 0 1 [] (noErr (f_end_of G)) (rCons (mVar 0) rNil)) (ret (.bl true))))
  (sSeq (sFor (mRev (mCons (mCall gList (mCons (mVar 0) mNil)) mNil)) (aName 2)
  (l0_saved_standings G))
  (sSeq (sFrz 2 1) (sRet (mVar 1)))))
def f_saved_standings (G : List (Addr × List V)) : Fm := fnG (g_saved_standings G) 5 (b_saved_standings G)
def g_sure (G : List (Addr × List V)) : Sg := ⟨[], [], G⟩
def t0_sure (G : List (Addr × List V)) : Mx Bool := (mTest (mBin (dIn true) (mVar 3) (mVar 2)))
def b_sure (G : List (Addr × List V)) : Sm := (sSeq (sAsg (mFn (g_open_places G) 0 1 [] (noErr (f_open_places G)) (rCons (mVar 0) rNil)) (aName 1))
  (sSeq (sAsg (mFn (g_saved_standings G) 3 1 [] (noErr (f_saved_standings G)) (rCons (mVar 1) rNil)) (aName 2))
  (sRet (mCall gSortP (mCons (mLc [3] (mIt (mFn (g_many_ways G) 3 1 [] (noErr (f_many_ways G)) (rCons (mVar 1) rNil))) (aName 3) (t0_sure G) (mVar 3)) mNil)))))
def f_sure (G : List (Addr × List V)) : Fm := fnG (g_sure G) 4 (b_sure G)
def g_home (G : List (Addr × List V)) : Sg := ⟨[none, none, some 3], [1, 2], G⟩
def t0_home (G : List (Addr × List V)) (self : Fm) : Mx Bool := (mTru (mFn (g_home G) 3 4 [(1, 1), (2, 2)] (noErr self) (rCons (mVar 0) (rCons (mVar 6) (rCons (mVar 2) (rOwn 2 rNil))))))
def q0_home (G : List (Addr × List V)) (self : Fm) : Mx Bool := (mView yesB 2 3 (mTest (mBin (dIn true) (mVar 1) (mVar 3))))
def b0_home (G : List (Addr × List V)) (self : Fm) : Sm := (sSeq (sAsg (mLc [5, 6] (mIt (mFn (g_next_ones G) 0 2 [] (noErr (f_next_ones G)) (rCons (mVar 0) (rCons (mVar 1) rNil)))) (aTup [(aName 5), (aName 6)]) pYes (mVar 6)) (aName 4))
  (sSeq (sAsg (mLc [6] (mIt (mVar 4)) (aName 6) (t0_home G self) (mVar 6)) (aName 4))
  (sPut 2 (mVar 1) (mOr (mBin dEq (mVar 1) (mVar 2)) (mBin dNe (mVar 4) (mLst mNil))))))
def b_home (G : List (Addr × List V)) (self : Fm) : Sm := (sSeq (sIf (q0_home G self)
  (b0_home G self)
  sNext)
  (sRet (mView noM 2 3 (mBin dIx (mVar 3) (mVar 1)))))
def f_home (G : List (Addr × List V)) : Nat → Fm := fRec (g_home G) 7 (b_home G)
def g_way (G : List (Addr × List V)) : Sg := ⟨[some 0, none, some 3], [0, 1], G⟩
def l0_way (G : List (Addr × List V)) : Sm := (sSeq (sAsg (mFn (g_next_ones G) 0 2 [] (noErr (f_next_ones G)) (rCons (mVar 1) (rCons (mVar 4) rNil))) (aName 6))
  (sIf (mTest (mBin dNe (mVar 6) (mLst mNil)))
  (sSeq (sAsg (mIf (mTest (mBin dGt (mFn (g_next G) 2 2 [(0, 0), (1, 1)] (noErr (f_next G)) (rOwn 0 (rCons (ret (.int 3)) rNil))) (ret (.int 0)))) (mCall gMin (mCons (mBin dSub (mCall gLen (mCons (mVar 6) mNil)) (ret (.int 1))) (mCons (mVar 2) mNil))) (mFn (g_next G) 2 2 [(0, 0), (1, 1)] (noErr (f_next G)) (rOwn 0 (rCons (mCall gLen (mCons (mVar 6) mNil)) rNil)))) (aName 7))
  (sSeq (sApp 2 (mBin dIx (mBin dIx (mVar 6) (mVar 7)) (ret (.int 0))))
  (sAsg (mBin dIx (mBin dIx (mVar 6) (mVar 7)) (ret (.int 1))) (aName 4))))
  sNext))
def b_way (G : List (Addr × List V)) : Sm := (sSeq (sMul [(3, some 2), (4, none)] (fOwn (oLst mNil) (fDat (mTup (mCons (ret (.int 0)) (mCons (ret (.int 0)) mNil))) fNil)))
  (sSeq (sFor (mRng gRng1 (mCons (mFn (g_next G) 2 2 [(0, 0), (1, 1)] (noErr (f_next G)) (rOwn 0 (rCons (ret (.int 60)) rNil))) mNil)) (aName 5)
  (l0_way G))
  (sRet (mView noM 2 3 (mCall gTuple (mCons (mVar 3) mNil))))))
def f_way (G : List (Addr × List V)) : Fm := fnG (g_way G) 8 (b_way G)
def g_steps_from (G : List (Addr × List V)) : Sg := ⟨[], [], G⟩
def b_steps_from (G : List (Addr × List V)) : Sm := (sRet (mLc [2, 3] (mIt (mBin dIx (mVar 0) (mVar 1))) (aTup [(aName 2), (aName 3)]) pYes (mVar 2)))
def f_steps_from (G : List (Addr × List V)) : Fm := fnG (g_steps_from G) 4 (b_steps_from G)
def g_standings_along (G : List (Addr × List V)) : Sg := ⟨[none, none, some 2], [], G⟩
def l0_standings_along (G : List (Addr × List V)) : Sm := (sSeq (sIf (mView yesB 2 2 (bOr (bNot (mTru (mFn (g_is_number G) 0 2 [] (noErr (f_is_number G)) (rCons (mVar 5) (rCons (mVar 3) rNil))))) (mTest (mBin (dIn true) (mVar 5) (mFn (g_steps_from G) 0 2 [] (noErr (f_steps_from G)) (rCons (mVar 0) (rCons (mBin dIx (mVar 2) (mNeg (ret (.int 1)))) rNil)))))))
  sNo
  sNext)
  (sApp 2 (mView noM 2 2 (mFn (g_step_to G) 0 2 [] (noErr (f_step_to G)) (rCons (mBin dIx (mVar 2) (mNeg (ret (.int 1)))) (rCons (mVar 5) rNil))))))
def b_standings_along (G : List (Addr × List V)) : Sm := (sSeq (sIf (bNot (mTru (mIsB .tuple (mVar 1))))
  sNo
  sNext)
  (sSeq (sOwn 2 2 (oLst (mCons (mFn (g_start_of G) 0 1 [] (noErr (f_start_of G)) (rCons (mVar 0) rNil)) mNil)))
  (sSeq (sAsg (mView noM 2 2 (mBin dSub (mCall gLen (mCons (mBin dIx (mVar 2) (ret (.int 0))) mNil)) (ret (.int 1)))) (aName 3))
  (sSeq (sFor (mEnum 0 (mCons (mVar 1) mNil)) (aTup [(aName 4), (aName 5)])
  (l0_standings_along G))
  (sSeq (sFrz 2 2) (sRet (mVar 2)))))))
def f_standings_along (G : List (Addr × List V)) : Fm := fnG (g_standings_along G) 6 (b_standings_along G)
def g_places (G : List (Addr × List V)) : Sg := ⟨[], [], G⟩
def b_places (G : List (Addr × List V)) : Sm := (sRet (mFn (g_standings_along G) 3 2 [] (noErr (f_standings_along G)) (rCons (mFn (g_open_places G) 0 1 [] (noErr (f_open_places G)) (rCons (mVar 0) rNil)) (rCons (mVar 1) rNil))))
def f_places (G : List (Addr × List V)) : Fm := fnG (g_places G) 2 (b_places G)
def g_word_at (G : List (Addr × List V)) : Sg := ⟨[], [], G⟩
def b_word_at (G : List (Addr × List V)) : Sm := (sSeq (sAsg (mFn (g_open_places G) 0 1 [] (noErr (f_open_places G)) (rCons (mVar 0) rNil)) (aName 2))
  (sSeq (sIf (mTest (mBin dEq (mVar 1) (mFn (g_end_of G) 0 1 [] (noErr (f_end_of G)) (rCons (mVar 2) rNil))))
  (sRet (ret (.str "done")))
  sNext)
  (sSeq (sIf (bNot (mTru (mFn (g_steps_from G) 0 2 [] (noErr (f_steps_from G)) (rCons (mVar 2) (rCons (mVar 1) rNil)))))
  (sRet (ret (.str "stuck")))
  sNext)
  (sRet (mIf (mTest (mBin (dIn false) (mVar 1) (mFn (g_saved_standings G) 3 1 [] (noErr (f_saved_standings G)) (rCons (mVar 2) rNil)))) (ret (.str "free")) (ret (.str "sure")))))))
def f_word_at (G : List (Addr × List V)) : Fm := fnG (g_word_at G) 3 (b_word_at G)
def g_word (G : List (Addr × List V)) : Sg := ⟨[], [], G⟩
def b_word (G : List (Addr × List V)) : Sm := (sRet (mFn (g_word_at G) 0 2 [] (noErr (f_word_at G)) (rCons (mVar 0) (rCons (mBin dIx (mFn (g_places G) 0 2 [] (noErr (f_places G)) (rCons (mVar 0) (rCons (mVar 1) rNil))) (mNeg (ret (.int 1)))) rNil))))
def f_word (G : List (Addr × List V)) : Fm := fnG (g_word G) 2 (b_word G)
def g_ended (G : List (Addr × List V)) : Sg := ⟨[some 0, none, some 4, some 6], [0, 1], G⟩
def t0_ended (G : List (Addr × List V)) : Mx Bool := (mTru (mFn (g_home G) 3 4 [(1, 1), (2, 3)] (noErr (f_home G 26)) (rCons (mVar 1) (rCons (mBin dIx (mVar 9) (ret (.int 1))) (rCons (mVar 2) (rOwn 3 rNil))))))
def l0_ended (G : List (Addr × List V)) : Sm := (sSeq (sAsg (mLc [9] (mIt (mFn (g_next_ones G) 0 2 [] (noErr (f_next_ones G)) (rCons (mVar 1) (rCons (mVar 5) rNil)))) (aName 9) (t0_ended G) (mVar 9)) (aName 8))
  (sSeq (sAsg (mIf (mTest (mBin dGt (mFn (g_next G) 2 2 [(0, 0), (1, 1)] (noErr (f_next G)) (rOwn 0 (rCons (ret (.int 3)) rNil))) (ret (.int 0)))) (mCall gMin (mCons (mBin dSub (mCall gLen (mCons (mVar 8) mNil)) (ret (.int 1))) (mCons (mVar 3) mNil))) (mFn (g_next G) 2 2 [(0, 0), (1, 1)] (noErr (f_next G)) (rOwn 0 (rCons (mCall gLen (mCons (mVar 8) mNil)) rNil)))) (aName 10))
  (sSeq (sApp 2 (mBin dIx (mBin dIx (mVar 8) (mVar 10)) (ret (.int 0))))
  (sAsg (mBin dIx (mBin dIx (mVar 8) (mVar 10)) (ret (.int 1))) (aName 5)))))
def b_ended (G : List (Addr × List V)) : Sm := (sSeq (sMul [(4, some 2), (5, none), (6, some 3)] (fOwn (oLst mNil) (fDat (mTup (mCons (ret (.int 0)) (mCons (ret (.int 0)) mNil))) (fOwn oDct fNil))))
  (sSeq (sFor (mRng gRng1 (mCons (mBin dAdd (mBin dIx (mVar 2) (ret (.int 0))) (mBin dIx (mVar 2) (ret (.int 1)))) mNil)) (aName 7)
  (l0_ended G))
  (sRet (mView noM 2 4 (mCall gTuple (mCons (mVar 4) mNil))))))
def f_ended (G : List (Addr × List V)) : Fm := fnG (g_ended G) 11 (b_ended G)
def g_standings_to_end (G : List (Addr × List V)) : Sg := ⟨[], [], G⟩
def b_standings_to_end (G : List (Addr × List V)) : Sm := (sSeq (sAsg (mFn (g_standings_along G) 3 2 [] (noErr (f_standings_along G)) (rCons (mVar 0) (rCons (mVar 1) rNil))) (aName 2))
  (sSeq (sIf (mTest (mBin dNe (mBin dIx (mVar 2) (mNeg (ret (.int 1)))) (mFn (g_end_of G) 0 1 [] (noErr (f_end_of G)) (rCons (mVar 0) rNil))))
  sNo
  sNext)
  (sRet (mVar 2))))
def f_standings_to_end (G : List (Addr × List V)) : Fm := fnG (g_standings_to_end G) 3 (b_standings_to_end G)
def g_sides (G : List (Addr × List V)) : Sg := ⟨[], [], G⟩
def e0_sides (G : List (Addr × List V)) : Em := (mIf (mTest (mBin dLt (mIdx (mVar 3) (mCons (mVar 9) mNil)) (mIdx (mVar 4) (mCons (mVar 11) mNil)))) (ret (.int 0)) (ret (.int 1)))
def b_sides (G : List (Addr × List V)) : Sm := (sSeq (sAsg (mFn (g_standings_to_end G) 0 2 [] (noErr (f_standings_to_end G)) (rCons (mFn (g_open_places G) 0 1 [] (noErr (f_open_places G)) (rCons (mVar 0) rNil)) (rCons (mVar 1) rNil))) (aName 2))
  (sSeq (sMul [(3, none), (4, none)] (fDat (mLc [5, 6] (mIt (mVar 2)) (aTup [(aName 5), (aName 6)]) pYes (mVar 5)) (fDat (mLc [6, 7] (mIt (mVar 2)) (aTup [(aName 6), (aName 7)]) pYes (mVar 7)) fNil)))
  (sRet (mCall gTuple (mCons (mLc [8, 9, 10, 11, 12] (mIt (mFn (g_blocks G) 0 1 [] (noErr (f_blocks G)) (rCons (mVar 0) rNil))) (aTup [(aName 8), (aName 9), (aName 10), (aName 11), (aName 12)]) pYes (e0_sides G)) mNil)))))
def f_sides (G : List (Addr × List V)) : Fm := fnG (g_sides G) 13 (b_sides G)
def g_is_whole (G : List (Addr × List V)) : Sg := ⟨[], [], G⟩
def b_is_whole (G : List (Addr × List V)) : Sm := (sSeq (sAsg (mFn (g_sides G) 0 2 [] (noErr (f_sides G)) (rCons (mVar 0) (rCons (mVar 1) rNil))) (aName 2))
  (sRet (mOr (mBin (dIn true) (ret (.int 0)) (mVar 2)) (mBin (dIn true) (ret (.int 1)) (mVar 2)))))
def f_is_whole (G : List (Addr × List V)) : Fm := fnG (g_is_whole G) 3 (b_is_whole G)
end HD
namespace HD
open PySem PySem.Spec PyProof.Rows L2 Sh
variable [Wd]
def g_law (G : List (Addr × List V)) : Sg := ⟨[some 1, none], [], G⟩
def q0_law (G : List (Addr × List V)) : Mx Bool := (bOr (bNot (mTru (mIsB .list (mVar 5)))) (bNot (mTru (mFn (g_alike G) 0 2 [] (noErr (f_alike G 6)) (rCons (mVar 5) (rCons (mCall gSort (mCons (mVar 5) mNil)) rNil))))))
def b0_law (G : List (Addr × List V)) : Sm := (sRet (ret (.bl false)))
def q1_law (G : List (Addr × List V)) : Mx Bool := (bNot (mTru (mFn (g_alike G) 0 2 [] (noErr (f_alike G 6)) (rCons (mFn (g_is_barred G) 0 2 [] (noErr (f_is_barred G)) (rCons (mMake "Pair" 3 (f_iniPair G) (mCons (mVar 3) (mCons (mVar 4) mNil))) (rCons (mTup (mCons (mVar 7) (mCons (mVar 8) mNil))) rNil))) (rCons (mVar 9) rNil)))))
def t0_law (G : List (Addr × List V)) : Mx Bool := (bAnd (mTest (mChain dLe dLe (mBin dIx (mVar 10) (ret (.int 1))) (mVar 7) (mBin dIx (mVar 10) (ret (.int 2))))) (mTest (mChain dLe dLe (mBin dIx (mVar 10) (ret (.int 3))) (mVar 8) (mBin dIx (mVar 10) (ret (.int 4))))))
def q2_law (G : List (Addr × List V)) : Mx Bool := (mTest (mBin dNe (mVar 9) (mBin dNe (mLc [10] (mIt (mVar 5)) (aName 10) (t0_law G) (mVar 10)) (mLst mNil))))
def l0_law (G : List (Addr × List V)) : Sm := (sSeq (sAsg (mNot (mFn (g_open G) 0 3 [] (noErr (f_open G)) (rCons (mVar 3) (rCons (mVar 4) (rCons (mTup (mCons (mVar 7) (mCons (mVar 8) mNil))) rNil))))) (aName 9))
  (sSeq (sIf (q1_law G)
  (b0_law G)
  sNext)
  (sIf (q2_law G)
  (b0_law G)
  sNext)))
def l1_law (G : List (Addr × List V)) : Sm := (sFor (mRng gRng1 (mCons (mBin dAdd (mCall gLen (mCons (mVar 4) mNil)) (ret (.int 1))) mNil)) (aName 8)
  (l0_law G))
def t1_law (G : List (Addr × List V)) : Mx Bool := (mTest (mBin dEq (mVar 13) (mTup (mCons (ret (.str "take")) (mCons (mVar 11) mNil)))))
def e0_law (G : List (Addr × List V)) : Em := (mCall gLen (mCons (mLc [13] (mIt (mVar 10)) (aName 13) (t1_law G) (mVar 13)) mNil))
def l2_law (G : List (Addr × List V)) : Sm := (sSeq (sAsg (mLc [10] (mIt (mLst (mCons (mVar 3) (mCons (mVar 4) mNil)))) (aName 10) pYes (e0_law G)) (aName 12))
  (sAsg (mBin dAdd (mVar 6) (mBin dMul (mBin dIx (mVar 12) (ret (.int 0))) (mBin dIx (mVar 12) (ret (.int 1))))) (aName 6)))
def q3_law (G : List (Addr × List V)) : Mx Bool := (bOr (bNot (mTru (mIsB .tuple (mVar 10)))) (bOr (mTest (mBin dNe (mCall gLen (mCons (mVar 10) mNil)) (ret (.int 5)))) (mTest (mBin dNe (mBin dIx (mVar 3) (mBin dSub (mBin dIx (mVar 10) (ret (.int 1))) (ret (.int 1)))) (mTup (mCons (ret (.str "take")) (mCons (mBin dIx (mVar 10) (ret (.int 0))) mNil)))))))
def q4_law (G : List (Addr × List V)) : Mx Bool := (bOr (mTest (mBin dNe (mBin dIx (mVar 4) (mBin dSub (mBin dIx (mVar 10) (ret (.int 3))) (ret (.int 1)))) (mTup (mCons (ret (.str "take")) (mCons (mBin dIx (mVar 10) (ret (.int 0))) mNil))))) (mTest (mBin dNe (mBin dIx (mVar 3) (mBin dIx (mVar 10) (ret (.int 2)))) (mTup (mCons (ret (.str "leave")) (mCons (mBin dIx (mVar 10) (ret (.int 0))) mNil))))))
def q5_law (G : List (Addr × List V)) : Mx Bool := (mTest (mBin dNe (mBin dIx (mVar 4) (mBin dIx (mVar 10) (ret (.int 4)))) (mTup (mCons (ret (.str "leave")) (mCons (mBin dIx (mVar 10) (ret (.int 0))) mNil)))))
def l3_law (G : List (Addr × List V)) : Sm := (sSeq (sIf (q3_law G)
  (b0_law G)
  sNext)
  (sSeq (sIf (q4_law G)
  (b0_law G)
  sNext)
  (sIf (q5_law G)
  (b0_law G)
  sNext)))
def q6_law (G : List (Addr × List V)) : Mx Bool := (mTest (mBin dNe (mCall gLen (mCons (mVar 5) mNil)) (mVar 6)))
def l4_law (G : List (Addr × List V)) : Sm := (sSeq (sAsg (mFn (g_pairs G) 2 2 [(0, 0), (1, 1)] (noErr (f_pairs G)) (rOwn 0 (rCons (ret (.int 12)) rNil))) (aTup [(aName 3), (aName 4)]))
  (sSeq (sAsg (mFn (g_blocks G) 0 1 [] (noErr (f_blocks G)) (rCons (mMake "Pair" 3 (f_iniPair G) (mCons (mVar 3) (mCons (mVar 4) mNil))) rNil)) (aName 5))
  (sSeq (sIf (q0_law G)
  (b0_law G)
  sNext)
  (sSeq (sAsg (ret (.int 0)) (aName 6))
  (sSeq (sFor (mRng gRng1 (mCons (mBin dAdd (mCall gLen (mCons (mVar 3) mNil)) (ret (.int 1))) mNil)) (aName 7)
  (l1_law G))
  (sSeq (sFor (mRng gRng1 (mCons (ret (.int 4)) mNil)) (aName 11)
  (l2_law G))
  (sSeq (sFor (mIt (mVar 5)) (aName 10)
  (l3_law G))
  (sIf (q6_law G)
  (b0_law G)
  sNext))))))))
def b_law (G : List (Addr × List V)) : Sm := (sSeq (sMix 4 1 b_mix1 b_mix2 (rCons (mVar 0) (rCons (ret (.int 2)) rNil)))
  (sSeq (sFor (mRng gRng1 (mCons (ret (.int 4)) mNil)) (aName 2)
  (l4_law G))
  (sRet (ret (.bl true)))))
def f_law (G : List (Addr × List V)) : Fm := fnG (g_law G) 14 (b_law G)
end HD
namespace HD
open PySem PySem.Spec PyProof.Rows L2 Sh
variable [Wd]
def top (i : Nat) : Stmt := PySem.Challenge.pw_gridlocks_k02_whole_blocks.main.body.getD i (.Pass ⟨0, 0, 0, 0⟩)
abbrev FnP (K : PySem.W.Frag) (x : Str) (st : Stmt) (f : Addr) (fd : FuncData) : Prop := FunD K x x (defArgs st) (defBody st) (defScope st) [] [] f fd
def fD (i : Nat) (x : Str) : Hk.Fp := ⟨fun K => He.ga K x, x, x, defArgs (top i), defBody (top i), defScope (top i), fun _ => []⟩
def fM (i j : Nat) (c m q : Str) : Hk.Fp := ⟨fun K => He.ma K (He.ga K c) m, m, q, defArgs (inClass (top i) j), defBody (inClass (top i) j), defScope (inClass (top i) j), fun _ => []⟩
def fG (i j : Nat) (c m q : Str) : Hk.Fp := ⟨Hk.getAt c m, m, q, defArgs (inClass (top i) j), defBody (inClass (top i) j), defScope (inClass (top i) j), fun _ => []⟩
def n_mix : List Str := ["_law_script", "_law_seed", "_law_state", "_law_cell"]
theorem sc_mix : FnScope n_mix ["_law_script", "_law_seed"] (defScope (top 28)) := ⟨rfl, rfl, rfl, by decide +kernel, rfl, by decide +kernel, by decide +kernel⟩
theorem ok_mix {P : Program} {K : PySem.W.Frag} {mg : Str → Option Value} {base : Heap} {G : List (Addr × List V)} {f : Addr} {fd : FuncData} (F : FnP K "_law_mix" (top 28) f fd) (hm : mg "_law_mix" = some (.ref f))
    (m_int : mg "int" = none) (m_list : mg "list" = none) :
    DMix P Wd.w K mg base "_law_mix" 1 G 4 b_mix1 b_mix2 :=
  fn_DMix (k := 0) F sc_mix hm (F.bindsN fun _ _ _ _ _ _ us hl => match us, hl with | [_, _], _ => rfl) (by decide) rfl rfl fun cdv A outer s H E B =>
  (pss_cons (ds_set (ps_set (i := 2) sc_mix.nd rfl (Or.inl rfl) (de_var (pv 1))) (noSlot_of rfl)) (pss_cons (ds_for PassesOwn.never B.calm (di_any B.K (de_var (pv 0))) (dg_name (pg_name (i := 3) sc_mix.nd rfl (Or.inl rfl)) (noSlot_of rfl))
  (ds_one (ds_set (ps_set (i := 2) sc_mix.nd rfl (Or.inl rfl) (de_mod B (de_intc B rfl m_int (da_cons (de_add B (de_add B (de_mul B (de_var (pv 2)) de_int) (de_mod B (de_intc B rfl m_int (da_cons (de_var (pv 3)) da_nil)) de_int)) de_int) da_nil)) de_int)) (noSlot_of rfl)))) (pss_one (ps_ret (pe_lst (pa_cons (pv 2) (pa_cons (pe_callTy call_list_of rfl m_list rfl (pa_cons (pv 0) pa_nil)) (pa_cons pe_int pa_nil))))))))
def n_next : List Str := ["_law_h", "_law_cap", "_law_cell"]
theorem sc_next : FnScope n_next ["_law_h", "_law_cap"] (defScope (top 29)) := ⟨rfl, rfl, rfl, by decide +kernel, rfl, by decide +kernel, by decide +kernel⟩
theorem ok_next {P : Program} {K : PySem.W.Frag} {mg : Str → Option Value} {base : Heap} {G : List (Addr × List V)} {f : Addr} {fd : FuncData} (F : FnP K "_law_next" (top 29) f fd) (hm : mg "_law_next" = some (.ref f))
    (m_int : mg "int" = none) (m_len : mg "len" = none) (m_max : mg "max" = none) :
    D0 P Wd.w K mg base "_law_next" 1 2 (g_next G) (f_next G) :=
  fn_D0 (k := 0) F sc_next hm (F.bindsN fun _ _ _ _ _ _ us hl => match us, hl with | [_, _], _ => rfl) (by decide) rfl rfl fun cdv A outer s H E B =>
  (ds_cons (ds_set (ps_set (i := 2) sc_next.nd rfl (Or.inl rfl) (de_at B (de_hcat (i := 0) B.K rfl (pv 0) (de_lst (da_cons de_int da_nil))) (de_mod B (de_intc B rfl m_int (da_cons (de_hint true B.K (i := 0) rfl (pv 0)) da_nil)) (de_max B rfl m_max (da_cons de_int (da_cons (de_hlen B.K (i := 0) rfl (pv 0) rfl m_len) da_nil)))) fun _ _ => rfl)) (noSlot_of rfl))
  (ds_cons (ds_if (dt_ge B (de_var (pv 2)) (de_pow B de_int de_int))
  (ds_cons (ds_hcell (i := 0) rfl (ps_asg (de_fdiv B (de_var (pv 2)) (de_var (pv 1))) (pg_sub (pe_hc (pv 0)) (de_mod B (de_intc B rfl m_int (da_cons (de_hint true B.K (i := 0) rfl (pv 0)) da_nil)) (de_hlen B.K (i := 0) rfl (pv 0) rfl m_len)) set_list)))
  (ds_one (ds_ret (de_mod B (de_intc B rfl m_int (da_cons (de_var (pv 2)) da_nil)) (de_var (pv 1))))))
  ds_nil)
  (ds_cons (ds_hset false (i := 0) rfl (pv 0) (de_mod B (de_intc B rfl m_int (da_cons (de_add B (de_add B (de_mul B (de_hint false B.K (i := 0) rfl (pv 0)) de_int) (de_mul B (de_var (pv 2)) de_int)) de_int) da_nil)) de_int) (ps_asg (de_mod B (de_intc B rfl m_int (da_cons (de_add B (de_add B (de_mul B (de_hint false B.K (i := 0) rfl (pv 0)) de_int) (de_mul B (de_var (pv 2)) de_int)) de_int) da_nil)) de_int) (pg_sub (pv 0) pe_int set_list)))
  (ds_cons (ds_hset true (i := 0) rfl (pv 0) (de_add B (de_hint true B.K (i := 0) rfl (pv 0)) de_int) (ps_asg (de_add B (de_hint true B.K (i := 0) rfl (pv 0)) de_int) (pg_sub (pv 0) pe_int set_list)))
  (ds_one (ds_ret (de_mod B (de_intc B rfl m_int (da_cons (de_fdiv B (de_hint false B.K (i := 0) rfl (pv 0)) de_int) da_nil)) (de_var (pv 1)))))))))
def n_pick : List Str := ["_law_h", "_law_things"]
theorem sc_pick : FnScope n_pick ["_law_h", "_law_things"] (defScope (top 31)) := ⟨rfl, rfl, rfl, by decide +kernel, rfl, by decide +kernel, by decide +kernel⟩
theorem ok_pick {P : Program} {K : PySem.W.Frag} {mg : Str → Option Value} {base : Heap} {G : List (Addr × List V)} {f : Addr} {fd : FuncData} (F : FnP K "_law_pick" (top 31) f fd) (hm : mg "_law_pick" = some (.ref f))
    (m_len : mg "len" = none) (d_next : D0 P Wd.w K mg base "_law_next" 1 2 (g_next G) (f_next G)) :
    D0 P Wd.w K mg base "_law_pick" 2 2 (g_pick G) (f_pick G) :=
  fn_D0 (k := 1) F sc_pick hm (F.bindsN fun _ _ _ _ _ _ us hl => match us, hl with | [_, _], _ => rfl) (by decide) rfl rfl fun cdv A outer s H E B =>
  (ds_one (ds_ret (de_at B (de_var (pv 1)) (de_fnD B d_next (by decide) rfl rfl 2 [(0, 0), (1, 1)] rfl (dr_own (i := 0) rfl (pv 0) (dr_cons (de_len B rfl m_len (da_cons (de_var (pv 1)) da_nil)) dr_nil))) fun _ _ => rfl)))
def n_program : List Str := ["_law_h", "_law_most", "_law_found", "_law_held_here", "_law_locks", "_law_goal", "_law_works", "_law_k", "_law_kind", "_law_lock", "_law_room", "_law_spot"]
theorem sc_program : FnScope n_program ["_law_h", "_law_most"] (defScope (top 32)) := ⟨rfl, rfl, rfl, by decide +kernel, rfl, by decide +kernel, by decide +kernel⟩
theorem ok_program {P : Program} {K : PySem.W.Frag} {mg : Str → Option Value} {base : Heap} {G : List (Addr × List V)} {f : Addr} {fd : FuncData} (F : FnP K "_law_program" (top 32) f fd) (hm : mg "_law_program" = some (.ref f))
    (m_len : mg "len" = none) (m_range : mg "range" = none) (m_tuple : mg "tuple" = none) (d_next : D0 P Wd.w K mg base "_law_next" 1 2 (g_next G) (f_next G)) (d_pick : D0 P Wd.w K mg base "_law_pick" 2 2 (g_pick G) (f_pick G)) :
    D0 P Wd.w K mg base "_law_program" 3 2 (g_program G) (f_program G) :=
  fn_D0 (k := 2) F sc_program hm (F.bindsN fun _ _ _ _ _ _ us hl => match us, hl with | [_, _], _ => rfl) (by decide) rfl rfl fun cdv A outer s H E B =>
  (ds_cons (ds_mul3 ⟨bnd_of rfl, ⟨bnd_of rfl, ⟨noSlot_of rfl, trivial⟩⟩⟩ (ps_par3 (i := 2) (j := 3) (l := 4) B.calm sc_program.nd rfl rfl rfl (by decide) (by decide) (by decide) rfl rfl rfl (fr_own (fe_lst da_nil) (fr_own (fe_lst da_nil) (fr_dat (de_add B de_int (de_fnD B d_next (by decide) rfl rfl 2 [(0, 0), (1, 1)] rfl (dr_own (i := 0) rfl (pv 0) (dr_cons de_int dr_nil)))) fr_nil))) rfl))
  (ds_cons (ds_mul2 ⟨noSlot_of rfl, ⟨noSlot_of rfl, trivial⟩⟩ (ps_par (i := 5) (j := 6) B.calm sc_program.nd rfl rfl (by decide) rfl rfl (fr_dat (de_fnD B d_next (by decide) rfl rfl 2 [(0, 0), (1, 1)] rfl (dr_own (i := 0) rfl (pv 0) (dr_cons (de_add B (de_var (pv 1)) de_int) dr_nil))) (fr_dat (de_fnD B d_pick (by decide) rfl rfl 2 [(0, 0), (1, 1)] rfl (dr_own (i := 0) rfl (pv 0) (dr_cons (de_lst (da_cons de_int (da_cons de_int (da_cons de_int da_nil)))) dr_nil))) fr_nil)) rfl))
  (ds_cons (ds_for PassesOwn.never B.calm (di_rng1 rfl m_range (da_cons (de_var (pv 5)) da_nil)) (dg_name (pg_name (i := 7) sc_program.nd rfl (Or.inl rfl)) (noSlot_of rfl))
  (ds_cons (ds_mul3 ⟨noSlot_of rfl, ⟨noSlot_of rfl, ⟨noSlot_of rfl, trivial⟩⟩⟩ (ps_par3 (i := 8) (j := 9) (l := 10) B.calm sc_program.nd rfl rfl rfl (by decide) (by decide) (by decide) rfl rfl rfl (fr_dat (de_fnD B d_next (by decide) rfl rfl 2 [(0, 0), (1, 1)] rfl (dr_own (i := 0) rfl (pv 0) (dr_cons de_int dr_nil))) (fr_dat (de_fnD B d_next (by decide) rfl rfl 2 [(0, 0), (1, 1)] rfl (dr_own (i := 0) rfl (pv 0) (dr_cons (de_var (pv 4)) dr_nil))) (fr_dat (de_view rfl (by decide) (de_sub B (de_sub B (de_var (pv 5)) (de_var (pv 7))) (de_len B rfl m_len (da_cons (de_var (pv 3)) da_nil)))) fr_nil))) rfl))
  (ds_one (ds_if (dt_view rfl (by decide) (dt_w (dw_and (dt_ge B (de_var (pv 8)) (de_var (pv 6))) (dw_and (dt_ni B (de_var (pv 9)) (de_var (pv 3))) (dw_and1 (dt_gt B (de_var (pv 10)) de_int))))))
  (ds_cons (ds_app (i := 3) rfl (ps_expr (pe_bm PySem.F.plainAttrs_list PySem.F.slot_list_append PySem.F.type_list_append mt_append (pv 3) (pa_cons (de_var (pv 9)) pa_nil))))
  (ds_one (ds_app (i := 2) rfl (ps_expr (pe_bm PySem.F.plainAttrs_list PySem.F.slot_list_append PySem.F.type_list_append mt_append (pv 2) (pa_cons (de_tup (da_cons de_str (da_cons (de_var (pv 9)) da_nil))) pa_nil))))))
  (ds_one (ds_if (dt_view rfl (by decide) (dt_w (dw_and (dt_ne B (de_var (pv 3)) (de_lst da_nil)) (dw_and1 (dt_w (dw_or (dt_ge B (de_var (pv 8)) (de_var (pv 6))) (dw_or1 (dt_lt B (de_var (pv 10)) de_int))))))))
  (ds_cons (ds_set (ps_set (i := 11) sc_program.nd rfl (Or.inl rfl) (de_view rfl (by decide) (de_fnD B d_pick (by decide) rfl rfl 2 [(0, 0), (1, 1)] rfl (dr_own (i := 0) rfl (pv 0) (dr_cons (de_lst (da_cons de_int (da_cons (de_sub B (de_len B rfl m_len (da_cons (de_var (pv 3)) da_nil)) de_int) da_nil))) dr_nil))))) (noSlot_of rfl))
  (ds_cons (ds_app (i := 2) rfl (ps_expr (pe_bm PySem.F.plainAttrs_list PySem.F.slot_list_append PySem.F.type_list_append mt_append (pv 2) (pa_cons (de_view rfl (by decide) (de_tup (da_cons de_str (da_cons (de_at B (de_var (pv 3)) (de_var (pv 11)) fun _ _ => rfl) da_nil)))) pa_nil))))
  (ds_one (ds_own (bnd_of rfl) (ps_set (i := 3) sc_program.nd rfl (Or.inl rfl) (fe_view rfl (by decide) (fe_cat (de_sl B.K (de_var (pv 3)) do_none (do_some (de_var (pv 11)))) (de_sl B.K (de_var (pv 3)) (do_some (de_add B (de_var (pv 11)) de_int)) do_none))))))))
  (ds_one (ds_app (i := 2) rfl (ps_expr (pe_bm PySem.F.plainAttrs_list PySem.F.slot_list_append PySem.F.type_list_append mt_append (pv 2) (pa_cons (de_tup (da_cons de_str da_nil)) pa_nil)))))))))))
  (ds_one (ds_ret (de_view rfl (by decide) (de_tuple B rfl m_tuple (da_cons (de_var (pv 2)) da_nil))))))))
def n_pairs : List Str := ["_law_h", "_law_most", "_law_one", "_law_other"]
theorem sc_pairs : FnScope n_pairs ["_law_h", "_law_most"] (defScope (top 33)) := ⟨rfl, rfl, rfl, by decide +kernel, rfl, by decide +kernel, by decide +kernel⟩
theorem ok_pairs {P : Program} {K : PySem.W.Frag} {mg : Str → Option Value} {base : Heap} {G : List (Addr × List V)} {f : Addr} {fd : FuncData} (F : FnP K "_law_pairs" (top 33) f fd) (hm : mg "_law_pairs" = some (.ref f))
    (d_program : D0 P Wd.w K mg base "_law_program" 3 2 (g_program G) (f_program G)) (d_pick : D0 P Wd.w K mg base "_law_pick" 2 2 (g_pick G) (f_pick G)) :
    D0 P Wd.w K mg base "_law_pairs" 4 2 (g_pairs G) (f_pairs G) :=
  fn_D0 (k := 3) F sc_pairs hm (F.bindsN fun _ _ _ _ _ _ us hl => match us, hl with | [_, _], _ => rfl) (by decide) rfl rfl fun cdv A outer s H E B =>
  (ds_cons (ds_mul2 ⟨noSlot_of rfl, ⟨noSlot_of rfl, trivial⟩⟩ (ps_par (i := 2) (j := 3) B.calm sc_pairs.nd rfl rfl (by decide) rfl rfl (fr_dat (de_fnD B d_program (by decide) rfl rfl 4 [(0, 0), (1, 1)] rfl (dr_own (i := 0) rfl (pv 0) (dr_cons (de_var (pv 1)) dr_nil))) (fr_dat (de_fnD B d_program (by decide) rfl rfl 4 [(0, 0), (1, 1)] rfl (dr_own (i := 0) rfl (pv 0) (dr_cons (de_var (pv 1)) dr_nil))) fr_nil)) rfl))
  (ds_one (ds_ret (de_tup (da_cons (de_var (pv 2)) (da_cons (de_fnD B d_pick (by decide) rfl rfl 2 [(0, 0), (1, 1)] rfl (dr_own (i := 0) rfl (pv 0) (dr_cons (de_lst (da_cons (de_var (pv 3)) (da_cons (de_var (pv 3)) (da_cons (de_var (pv 2)) da_nil)))) dr_nil))) da_nil))))))
def n_hold_times : List Str := ["program", "taken", "found", "number", "step"]
theorem sc_hold_times : FnScope n_hold_times ["program"] (defScope (top 13)) := ⟨rfl, rfl, rfl, by decide +kernel, rfl, by decide +kernel, by decide +kernel⟩
theorem ok_hold_times {P : Program} {K : PySem.W.Frag} {mg : Str → Option Value} {base : Heap} {G : List (Addr × List V)} {f : Addr} {fd : FuncData} (F : FnP K "hold_times" (top 13) f fd) (hm : mg "hold_times" = some (.ref f))
    (m_enumerate : mg "enumerate" = none) :
    D0 P Wd.w K mg base "hold_times" 1 1 (g_hold_times G) (f_hold_times G) :=
  fn_D0 (k := 0) F sc_hold_times hm (F.bindsN fun _ _ _ _ _ _ us hl => match us, hl with | [_], _ => rfl) (by decide) rfl rfl fun cdv A outer s H E B =>
  (ds_cons (ds_ownK (bnd_of rfl) (ps_set (i := 1) sc_hold_times.nd rfl (Or.inl rfl) pe_dnewK))
  (ds_cons (ds_own (bnd_of rfl) (ps_set (i := 2) sc_hold_times.nd rfl (Or.inl rfl) (fe_lst da_nil)))
  (ds_cons (ds_for PassesOwn.never B.calm (di_enumK B.K rfl m_enumerate (da_cons (de_var (pv 0)) da_nil)) (dg_tup B.K rfl (pg_tup B.calm (dgs_cons (dg_name (pg_name (i := 3) sc_hold_times.nd rfl (Or.inl rfl)) (noSlot_of rfl)) (dgs_cons (dg_name (pg_name (i := 4) sc_hold_times.nd rfl (Or.inl rfl)) (noSlot_of rfl)) dgs_nil))))
  (ds_one (ds_if (dt_eq B (de_at B (de_var (pv 4)) de_int fun _ _ => rfl) de_str)
  (ds_one (ds_putK (i := 1) rfl (ps_dput B.u1 (pv 1) (de_at B (de_var (pv 4)) de_int fun _ _ => rfl) (de_var (pv 3)) rfl)))
  (ds_one (ds_if (dt_eq B (de_at B (de_var (pv 4)) de_int fun _ _ => rfl) de_str)
  (ds_one (ds_app (i := 2) rfl (ps_expr (pe_bm PySem.F.plainAttrs_list PySem.F.slot_list_append PySem.F.type_list_append mt_append (pv 2) (pa_cons (de_tup (da_cons (de_at B (de_var (pv 4)) de_int fun _ _ => rfl) (da_cons (de_getK B.hw B.u9 (i := 1) rfl (pv 1) (de_at B (de_var (pv 4)) de_int fun _ _ => rfl) fun _ _ => rfl) (da_cons (de_sub B (de_var (pv 3)) de_int) da_nil)))) pa_nil)))))
  ds_nil)))))
  (ds_one (ds_frz (bnd_of rfl) (ds_ret (de_var (pv 2))))))))
def n_blocks : List Str := ["pair", "lock", "first", "last", "same", "begin", "end"]
theorem sc_blocks : FnScope n_blocks ["pair"] (defScope (top 16)) := ⟨rfl, rfl, rfl, by decide +kernel, rfl, by decide +kernel, by decide +kernel⟩
theorem ok_blocks {P : Program} {K : PySem.W.Frag} {mg : Str → Option Value} {base : Heap} {G : List (Addr × List V)} {f : Addr} {fd : FuncData} (F : FnP K "blocks" (top 16) f fd) (hm : mg "blocks" = some (.ref f))
    (m_sorted : mg "sorted" = none) (p_one : PropD P Wd.w K mg base "Pair" "one" "_one") (p_other : PropD P Wd.w K mg base "Pair" "other" "_other") (d_hold_times : D0 P Wd.w K mg base "hold_times" 1 1 (g_hold_times G) (f_hold_times G)) :
    D0 P Wd.w K mg base "blocks" 3 1 (g_blocks G) (f_blocks G) :=
  fn_D0 (k := 2) F sc_blocks hm (F.bindsN fun _ _ _ _ _ _ us hl => match us, hl with | [_], _ => rfl) (by decide) rfl rfl fun cdv A outer s H E B =>
  (ds_one (ds_ret (de_sorted B rfl m_sorted (da_cons (de_lc2 (own := [("lock", 1), ("first", 2), ("last", 3), ("same", 4), ("begin", 5), ("end", 6)]) (pe_lc2 (own := [("lock", 1), ("first", 2), ("last", 3), ("same", 4), ("begin", 5), ("end", 6)]) B.calm sc_blocks.nd (di_any B.K (de_fnD B d_hold_times (by decide) rfl rfl 4 [] rfl (dr_cons (de_prop B p_one (by decide) (de_var (pv 0))) dr_nil))) (blkOk_by (N := n_blocks) (sc := defScope (top 16)) (by decide +kernel)) (sub_of (ss := [4, 5, 6]) rfl) (fun _ _ _ _ _ => (dg_tup (Bd.blk B).K rfl (pg_tup (Bd.blk B).calm (dgs_cons (dg_name (pg_name (i := 1) sc_blocks.nd rfl (Or.inl rfl)) (noSlot_of rfl)) (dgs_cons (dg_name (pg_name (i := 2) sc_blocks.nd rfl (Or.inl rfl)) (noSlot_of rfl)) (dgs_cons (dg_name (pg_name (i := 3) sc_blocks.nd rfl (Or.inl rfl)) (noSlot_of rfl)) dgs_nil)))))) (fun _ _ _ _ _ => dts_nil) (fun _ _ _ _ _ => (di_any (Bd.blk B).K (de_fnD (Bd.blk B) d_hold_times (by decide) (by rfl) rfl 4 [] rfl (dr_cons (de_prop (Bd.blk B) p_other (by decide) (de_var (pv 0))) dr_nil)))) (fun _ _ _ _ _ => (dg_tup (Bd.blk B).K rfl (pg_tup (Bd.blk B).calm (dgs_cons (dg_name (pg_name (i := 4) sc_blocks.nd rfl (Or.inl rfl)) (noSlot_of rfl)) (dgs_cons (dg_name (pg_name (i := 5) sc_blocks.nd rfl (Or.inl rfl)) (noSlot_of rfl)) (dgs_cons (dg_name (pg_name (i := 6) sc_blocks.nd rfl (Or.inl rfl)) (noSlot_of rfl)) dgs_nil)))))) (fun _ _ _ _ _ => (dts_one (dt_eq (Bd.blk B) (de_var (pv 4)) (de_var (pv 1))))) (fun _ _ _ _ _ => (de_tup (da_cons (de_var (pv 1)) (da_cons (de_var (pv 2)) (da_cons (de_var (pv 3)) (da_cons (de_var (pv 5)) (da_cons (de_var (pv 6)) da_nil)))))))) (ns_of rfl) (sub_of rfl) (ns_of rfl) (sub_of rfl) (sub_of (ss := [4, 5, 6]) rfl)) da_nil))))
def n_held_behind : List Str := ["held", "step", "lock"]
theorem sc_held_behind : FnScope n_held_behind ["held", "step"] (defScope (top 10)) := ⟨rfl, rfl, rfl, by decide +kernel, rfl, by decide +kernel, by decide +kernel⟩
theorem ok_held_behind {P : Program} {K : PySem.W.Frag} {mg : Str → Option Value} {base : Heap} {G : List (Addr × List V)} {f : Addr} {fd : FuncData} (F : FnP K "held_behind" (top 10) f fd) (hm : mg "held_behind" = some (.ref f))
    (m_tuple : mg "tuple" = none) :
    D0 P Wd.w K mg base "held_behind" 1 2 (g_held_behind G) (f_held_behind G) :=
  fn_D0 (k := 0) F sc_held_behind hm (F.bindsN fun _ _ _ _ _ _ us hl => match us, hl with | [_, _], _ => rfl) (by decide) rfl rfl fun cdv A outer s H E B =>
  (ds_cons (ds_if (dt_eq B (de_at B (de_var (pv 1)) de_int fun _ _ => rfl) de_str)
  (ds_one (ds_ret (de_tup (da_star (de_var (pv 0)) (da_cons (de_at B (de_var (pv 1)) de_int fun _ _ => rfl) da_nil) B.K))))
  ds_nil)
  (ds_cons (ds_if (dt_eq B (de_at B (de_var (pv 1)) de_int fun _ _ => rfl) de_str)
  (ds_one (ds_ret (de_tuple B rfl m_tuple (da_cons (de_lc (own := [("lock", 2)]) (pe_lc (own := [("lock", 2)]) B.calm sc_held_behind.nd (di_any B.K (de_var (pv 0))) (blkOk_by (N := n_held_behind) (sc := defScope (top 10)) (by decide +kernel)) (fun _ _ _ _ _ => (dg_name (pg_name (i := 2) sc_held_behind.nd rfl (Or.inl rfl)) (noSlot_of rfl))) (fun _ _ _ _ _ => (dts_one (dt_ne (Bd.blk B) (de_var (pv 2)) (de_at (Bd.blk B) (de_var (pv 1)) de_int fun _ _ => rfl)))) (fun _ _ _ _ _ => (de_var (pv 2)))) (ns_of rfl) (sub_of rfl)) da_nil))))
  ds_nil)
  (ds_one (ds_ret (de_var (pv 0))))))
def n_is_number : List Str := ["value", "most"]
theorem sc_is_number : FnScope n_is_number ["value", "most"] (defScope (top 7)) := ⟨rfl, rfl, rfl, by decide +kernel, rfl, by decide +kernel, by decide +kernel⟩
theorem ok_is_number {P : Program} {K : PySem.W.Frag} {mg : Str → Option Value} {base : Heap} {G : List (Addr × List V)} {f : Addr} {fd : FuncData} (F : FnP K "is_number" (top 7) f fd) (hm : mg "is_number" = some (.ref f))
    (m_bool : mg "bool" = none) (m_int : mg "int" = none) (m_isinstance : mg "isinstance" = none) :
    D0 P Wd.w K mg base "is_number" 1 2 (g_is_number G) (f_is_number G) :=
  fn_D0 (k := 0) F sc_is_number hm (F.bindsN fun _ _ _ _ _ _ us hl => match us, hl with | [_, _], _ => rfl) (by decide) rfl rfl fun cdv A outer s H E B =>
  (ds_one (ds_ret (de_and (de_isB (B := .int) B.K (de_var (pv 0)) rfl m_isinstance rfl m_int rfl) (de_and (de_not (de_isB (B := .bool) B.K (de_var (pv 0)) rfl m_isinstance rfl m_bool rfl)) (de_one (de_chain op_le sem_le op_le sem_le de_int (de_var (pv 0)) (de_var (pv 1))))))))
def n_is_step : List Str := ["value"]
theorem sc_is_step : FnScope n_is_step ["value"] (defScope (top 8)) := ⟨rfl, rfl, rfl, by decide +kernel, rfl, by decide +kernel, by decide +kernel⟩
theorem ok_is_step {P : Program} {K : PySem.W.Frag} {mg : Str → Option Value} {base : Heap} {G : List (Addr × List V)} {f : Addr} {fd : FuncData} (F : FnP K "is_step" (top 8) f fd) (hm : mg "is_step" = some (.ref f))
    (m_isinstance : mg "isinstance" = none) (m_len : mg "len" = none) (m_tuple : mg "tuple" = none) (m_MOST_LOCK : ∃ t, mg "MOST_LOCK" = some (.int 3 t)) (d_is_number : D0 P Wd.w K mg base "is_number" 1 2 (g_is_number G) (f_is_number G)) :
    D0 P Wd.w K mg base "is_step" 2 1 (g_is_step G) (f_is_step G) :=
  fn_D0 (k := 1) F sc_is_step hm (F.bindsN fun _ _ _ _ _ _ us hl => match us, hl with | [_], _ => rfl) (by decide) rfl rfl fun cdv A outer s H E B =>
  (ds_cons (ds_if (dt_eq B (de_var (pv 0)) (de_tup (da_cons de_str da_nil)))
  (ds_one (ds_ret de_bl))
  ds_nil)
  (ds_cons (ds_if (dt_w (dw_or (dt_not (dt_tr B (de_isB (B := .tuple) B.K (de_var (pv 0)) rfl m_isinstance rfl m_tuple rfl))) (dw_or1 (dt_ne B (de_len B rfl m_len (da_cons (de_var (pv 0)) da_nil)) de_int))))
  (ds_one (ds_ret de_bl))
  ds_nil)
  (ds_one (ds_ret (de_and (de_in B (de_at B (de_var (pv 0)) de_int fun _ _ => rfl) (de_tup (da_cons de_str (da_cons de_str da_nil)))) (de_one (de_fnD B d_is_number (by decide) rfl rfl 0 [] rfl (dr_cons (de_at B (de_var (pv 0)) de_int fun _ _ => rfl) (dr_cons (de_globI rfl m_MOST_LOCK) dr_nil)))))))))
def n_can_follow : List Str := ["held", "step"]
theorem sc_can_follow : FnScope n_can_follow ["held", "step"] (defScope (top 9)) := ⟨rfl, rfl, rfl, by decide +kernel, rfl, by decide +kernel, by decide +kernel⟩
theorem ok_can_follow {P : Program} {K : PySem.W.Frag} {mg : Str → Option Value} {base : Heap} {G : List (Addr × List V)} {f : Addr} {fd : FuncData} (F : FnP K "can_follow" (top 9) f fd) (hm : mg "can_follow" = some (.ref f))
     :
    D0 P Wd.w K mg base "can_follow" 1 2 (g_can_follow G) (f_can_follow G) :=
  fn_D0 (k := 0) F sc_can_follow hm (F.bindsN fun _ _ _ _ _ _ us hl => match us, hl with | [_, _], _ => rfl) (by decide) rfl rfl fun cdv A outer s H E B =>
  (ds_cons (ds_if (dt_eq B (de_at B (de_var (pv 1)) de_int fun _ _ => rfl) de_str)
  (ds_one (ds_ret (de_ni B (de_at B (de_var (pv 1)) de_int fun _ _ => rfl) (de_var (pv 0)))))
  ds_nil)
  (ds_cons (ds_if (dt_eq B (de_at B (de_var (pv 1)) de_int fun _ _ => rfl) de_str)
  (ds_one (ds_ret (de_in B (de_at B (de_var (pv 1)) de_int fun _ _ => rfl) (de_var (pv 0)))))
  ds_nil)
  (ds_one (ds_ret de_bl))))
def n_check_program : List Str := ["program", "which", "held", "index", "step"]
theorem sc_check_program : FnScope n_check_program ["program", "which"] (defScope (top 11)) := ⟨rfl, rfl, rfl, by decide +kernel, rfl, by decide +kernel, by decide +kernel⟩
theorem ok_check_program {P : Program} {K : PySem.W.Frag} {mg : Str → Option Value} {base : Heap} {G : List (Addr × List V)} {f : Addr} {fd : FuncData} (F : FnP K "check_program" (top 11) f fd) (hm : mg "check_program" = some (.ref f))
    (m_enumerate : mg "enumerate" = none) (m_isinstance : mg "isinstance" = none) (m_len : mg "len" = none) (m_tuple : mg "tuple" = none) (m_MOST_STEPS : ∃ t, mg "MOST_STEPS" = some (.int 12 t)) (d_can_follow : D0 P Wd.w K mg base "can_follow" 1 2 (g_can_follow G) (f_can_follow G)) (d_is_step : D0 P Wd.w K mg base "is_step" 2 1 (g_is_step G) (f_is_step G)) (d_held_behind : D0 P Wd.w K mg base "held_behind" 1 2 (g_held_behind G) (f_held_behind G)) :
    D0 P Wd.w K mg base "check_program" 3 2 (g_check_program G) (f_check_program G) :=
  fn_D0 (k := 2) F sc_check_program hm (F.bindsN fun _ _ _ _ _ _ us hl => match us, hl with | [_, _], _ => rfl) (by decide) rfl rfl fun cdv A outer s H E B =>
  (ds_cons (ds_if (dt_w (dw_or (dt_not (dt_tr B (de_isB (B := .tuple) B.K (de_var (pv 0)) rfl m_isinstance rfl m_tuple rfl))) (dw_or1 (dt_gt B (de_len B rfl m_len (da_cons (de_var (pv 0)) da_nil)) (de_globI rfl m_MOST_STEPS)))))
  (ds_one ds_no)
  ds_nil)
  (ds_cons (ds_set (ps_set (i := 2) sc_check_program.nd rfl (Or.inl rfl) (de_tup da_nil)) (noSlot_of rfl))
  (ds_cons (ds_for PassesOwn.never B.calm (di_enum1 B.K rfl m_enumerate (da_cons (de_var (pv 0)) da_nil)) (dg_tup B.K rfl (pg_tup B.calm (dgs_cons (dg_name (pg_name (i := 3) sc_check_program.nd rfl (Or.inl rfl)) (noSlot_of rfl)) (dgs_cons (dg_name (pg_name (i := 4) sc_check_program.nd rfl (Or.inl rfl)) (noSlot_of rfl)) dgs_nil))))
  (ds_cons (ds_if (dt_w (dw_or (dt_not (dt_tr B (de_fnD B d_is_step (by decide) rfl rfl 0 [] rfl (dr_cons (de_var (pv 4)) dr_nil)))) (dw_or1 (dt_not (dt_tr B (de_fnD B d_can_follow (by decide) rfl rfl 0 [] rfl (dr_cons (de_var (pv 2)) (dr_cons (de_var (pv 4)) dr_nil))))))))
  (ds_one ds_no)
  ds_nil)
  (ds_one (ds_set (ps_set (i := 2) sc_check_program.nd rfl (Or.inl rfl) (de_fnD B d_held_behind (by decide) rfl rfl 0 [] rfl (dr_cons (de_var (pv 2)) (dr_cons (de_var (pv 4)) dr_nil)))) (noSlot_of rfl)))))
  (ds_one (ds_if (dt_tr B (de_var (pv 2)))
  (ds_one ds_no)
  ds_nil)))))
def n_iniPair : List Str := ["self", "one", "other"]
theorem sc_iniPair : FnScope n_iniPair ["self", "one", "other"] (defScope (inClass (top 15) 0)) := ⟨rfl, rfl, rfl, by decide +kernel, rfl, by decide +kernel, by decide +kernel⟩
theorem ok_iniPair {P : Program} {K : PySem.W.Frag} {mg : Str → Option Value} {base : Heap} {G : List (Addr × List V)} {f : Addr} {fd : FuncData} (F : FunD K "__init__" "Pair.__init__" (defArgs (inClass (top 15) 0)) (defBody (inClass (top 15) 0)) (defScope (inClass (top 15) 0)) [] [] f fd) (hm : mg "Pair" = some (.ref (He.ga K "Pair"))) (M : Mk K (He.ga K "Pair") f)
    (c__one : ClsF K "Pair" "_one") (c__other : ClsF K "Pair" "_other") (d_check_program : D0 P Wd.w K mg base "check_program" 3 2 (g_check_program G) (f_check_program G)) :
    MkD P Wd.w K mg base "Pair" 4 3 G (f_iniPair G) :=
  fn_MkD (k := 3) hm M F sc_iniPair (F.bindsN fun _ _ _ _ _ _ us hl => match us, hl with | [_, _, _], _ => rfl) (by decide) rfl fun cdv A outer s H E B =>
  (ds_cons (ds_expr (de_fnD B d_check_program (by decide) rfl rfl 0 [] rfl (dr_cons (de_var (pv 1)) (dr_cons de_int dr_nil))))
  (ds_cons (ds_expr (de_fnD B d_check_program (by decide) rfl rfl 0 [] rfl (dr_cons (de_var (pv 2)) (dr_cons de_int dr_nil))))
  (ds_cons (ds_fld (i := 0) rfl rfl c__one (ps_fld (pv 0) (de_var (pv 1)) rfl))
  (ds_one (ds_fld (i := 0) rfl rfl c__other (ps_fld (pv 0) (de_var (pv 2)) rfl))))))
def n_alike : List Str := ["_law_found", "_law_due", "_law_k"]
theorem sc_alike : FnScope n_alike ["_law_found", "_law_due"] (defScope (top 30)) := ⟨rfl, rfl, rfl, by decide +kernel, rfl, by decide +kernel, by decide +kernel⟩
theorem ok_alike {P : Program} {K : PySem.W.Frag} {mg : Str → Option Value} {base : Heap} {G : List (Addr × List V)} {f : Addr} {fd : FuncData} (F : FnP K "_law_alike" (top 30) f fd) (hm : mg "_law_alike" = some (.ref f))
    (m_bool : mg "bool" = none) (m_int : mg "int" = none) (m_isinstance : mg "isinstance" = none) (m_len : mg "len" = none) (m_list : mg "list" = none) (m_range : mg "range" = none) (m_str : mg "str" = none) (m_tuple : mg "tuple" = none) :
    ∀ n, D0 P Wd.w K mg base "_law_alike" (0 + n + 1) 2 (g_alike G) (f_alike G n) :=
  fn_Rec (ps := ["_law_found", "_law_due"]) 0 F sc_alike hm (F.bindsN fun _ _ _ _ _ _ us hl => match us, hl with | [_, _], _ => rfl) (by decide) rfl rfl fun n cdv A outer s H E self B =>
  (ds_cons (ds_if (dt_tr B (de_isB2 (A := .tuple) (B := .list) B.K (de_var (pv 1)) rfl m_isinstance rfl m_tuple rfl rfl m_list rfl))
  (ds_cons (ds_if (dt_w (dw_or (dt_not (dt_tr B (de_isB2 (A := .tuple) (B := .list) B.K (de_var (pv 0)) rfl m_isinstance rfl m_tuple rfl rfl m_list rfl))) (dw_or1 (dt_ne B (de_isB (B := .list) B.K (de_var (pv 0)) rfl m_isinstance rfl m_list rfl) (de_isB (B := .list) B.K (de_var (pv 1)) rfl m_isinstance rfl m_list rfl)))))
  (ds_one (ds_ret de_bl))
  ds_nil)
  (ds_cons (ds_if (dt_ne B (de_len B rfl m_len (da_cons (de_var (pv 0)) da_nil)) (de_len B rfl m_len (da_cons (de_var (pv 1)) da_nil)))
  (ds_one (ds_ret de_bl))
  ds_nil)
  (ds_one (ds_ret (de_eq B (de_lc (own := [("_law_k", 2)]) (pe_lc (own := [("_law_k", 2)]) B.calm sc_alike.nd (di_rng1 rfl m_range (da_cons (de_len B rfl m_len (da_cons (de_var (pv 1)) da_nil)) da_nil)) (blkOk_by (N := n_alike) (sc := defScope (top 30)) (by decide +kernel)) (fun _ _ _ _ _ => (dg_name (pg_name (i := 2) sc_alike.nd rfl (Or.inl rfl)) (noSlot_of rfl))) (fun _ _ _ _ _ => (dts_one (dt_not (dt_tr (Bd.blk B) (de_fnD (Bd.blk B) self (Nat.le_refl _) (by rfl) rfl 0 [] rfl (dr_cons (de_at (Bd.blk B) (de_var (pv 0)) (de_var (pv 2)) fun _ _ => rfl) (dr_cons (de_at (Bd.blk B) (de_var (pv 1)) (de_var (pv 2)) fun _ _ => rfl) dr_nil))))))) (fun _ _ _ _ _ => (de_var (pv 2)))) (ns_of rfl) (sub_of rfl)) (de_lst da_nil))))))
  ds_nil)
  (ds_cons (ds_if (dt_w (dw_or (dt_is B (de_var (pv 1)) de_non) (dw_or1 (dt_tr B (de_isB (B := .str) B.K (de_var (pv 1)) rfl m_isinstance rfl m_str rfl)))))
  (ds_one (ds_ret (de_and (de_eq B (de_var (pv 0)) (de_var (pv 1))) (de_one (de_eq B (de_isB (B := .str) B.K (de_var (pv 0)) rfl m_isinstance rfl m_str rfl) (de_isB (B := .str) B.K (de_var (pv 1)) rfl m_isinstance rfl m_str rfl))))))
  ds_nil)
  (ds_one (ds_ret (de_and (de_isB (B := .int) B.K (de_var (pv 0)) rfl m_isinstance rfl m_int rfl) (de_and (de_eq B (de_isB (B := .bool) B.K (de_var (pv 0)) rfl m_isinstance rfl m_bool rfl) (de_isB (B := .bool) B.K (de_var (pv 1)) rfl m_isinstance rfl m_bool rfl)) (de_one (de_eq B (de_var (pv 0)) (de_var (pv 1))))))))))
def n_held : List Str := ["_law_program_here", "_law_many", "_law_found", "_law_step", "_law_lock"]
theorem sc_held : FnScope n_held ["_law_program_here", "_law_many"] (defScope (top 34)) := ⟨rfl, rfl, rfl, by decide +kernel, rfl, by decide +kernel, by decide +kernel⟩
theorem ok_held {P : Program} {K : PySem.W.Frag} {mg : Str → Option Value} {base : Heap} {G : List (Addr × List V)} {f : Addr} {fd : FuncData} (F : FnP K "_law_held" (top 34) f fd) (hm : mg "_law_held" = some (.ref f))
    (m_sorted : mg "sorted" = none) (m_tuple : mg "tuple" = none) :
    D0 P Wd.w K mg base "_law_held" 1 2 (g_held G) (f_held G) :=
  fn_D0 (k := 0) F sc_held hm (F.bindsN fun _ _ _ _ _ _ us hl => match us, hl with | [_, _], _ => rfl) (by decide) rfl rfl fun cdv A outer s H E B =>
  (ds_cons (ds_own (bnd_of rfl) (ps_set (i := 2) sc_held.nd rfl (Or.inl rfl) (fe_lst da_nil)))
  (ds_cons (ds_for PassesOwn.never B.calm (di_any B.K (de_sl B.K (de_var (pv 0)) do_none (do_some (de_var (pv 1))))) (dg_name (pg_name (i := 3) sc_held.nd rfl (Or.inr rfl)) (noSlot_of rfl))
  (ds_one (ds_if (dt_eq B (de_at B (de_var (pv 3)) de_int fun _ _ => rfl) de_str)
  (ds_one (ds_app (i := 2) rfl (ps_expr (pe_bm PySem.F.plainAttrs_list PySem.F.slot_list_append PySem.F.type_list_append mt_append (pv 2) (pa_cons (de_at B (de_var (pv 3)) de_int fun _ _ => rfl) pa_nil)))))
  (ds_one (ds_if (dt_eq B (de_at B (de_var (pv 3)) de_int fun _ _ => rfl) de_str)
  (ds_one (ds_ownLcV (k2 := 2) (i2 := 2) (bnd_of rfl) rfl (by decide) (ps_setLc (i := 2) (own := [("_law_lock", 4)]) B.calm sc_held.nd rfl rfl (sw_true rfl rfl rfl (by decide +kernel)) (di_any B.K (de_var (pv 2))) (blkOk_by (N := n_held) (sc := defScope (top 34)) (by decide +kernel)) (fun _ _ _ _ _ => (dg_name (pg_name (i := 4) sc_held.nd rfl (Or.inl rfl)) (noSlot_of rfl))) (fun _ _ _ _ _ => (dts_one (dt_ne (Bd.blk B) (de_var (pv 4)) (de_at (Bd.blk B) (de_var (pv 3)) de_int fun _ _ => rfl)))) (fun _ _ _ _ _ => (de_var (pv 4)))) (ns_of rfl) (sub_of rfl)))
  ds_nil)))))
  (ds_one (ds_ret (de_view rfl (by decide) (de_tuple B rfl m_tuple (da_cons (de_sorted B rfl m_sorted (da_cons (de_var (pv 2)) da_nil)) da_nil)))))))
def n_open : List Str := ["_law_one", "_law_other", "_law_place", "_law_mine", "_law_yours", "_law_lock"]
theorem sc_open : FnScope n_open ["_law_one", "_law_other", "_law_place"] (defScope (top 35)) := ⟨rfl, rfl, rfl, by decide +kernel, rfl, by decide +kernel, by decide +kernel⟩
theorem ok_open {P : Program} {K : PySem.W.Frag} {mg : Str → Option Value} {base : Heap} {G : List (Addr × List V)} {f : Addr} {fd : FuncData} (F : FnP K "_law_open" (top 35) f fd) (hm : mg "_law_open" = some (.ref f))
    (m_len : mg "len" = none) (d_held : D0 P Wd.w K mg base "_law_held" 1 2 (g_held G) (f_held G)) :
    D0 P Wd.w K mg base "_law_open" 2 3 (g_open G) (f_open G) :=
  fn_D0 (k := 1) F sc_open hm (F.bindsN fun _ _ _ _ _ _ us hl => match us, hl with | [_, _, _], _ => rfl) (by decide) rfl rfl fun cdv A outer s H E B =>
  (ds_cons (ds_if (dt_w (dw_or (dt_gt B (de_at B (de_var (pv 2)) de_int fun _ _ => rfl) (de_len B rfl m_len (da_cons (de_var (pv 0)) da_nil))) (dw_or1 (dt_gt B (de_at B (de_var (pv 2)) de_int fun _ _ => rfl) (de_len B rfl m_len (da_cons (de_var (pv 1)) da_nil))))))
  (ds_one (ds_ret de_bl))
  ds_nil)
  (ds_cons (ds_mulN ⟨noSlot_of rfl, ⟨noSlot_of rfl, trivial⟩⟩ (by decide) (ps_asg (pe_tup (fr_dat (de_fnD B d_held (by decide) rfl rfl 3 [] rfl (dr_cons (de_var (pv 0)) (dr_cons (de_at B (de_var (pv 2)) de_int fun _ _ => rfl) dr_nil))) (fr_dat (de_fnD B d_held (by decide) rfl rfl 3 [] rfl (dr_cons (de_var (pv 1)) (dr_cons (de_at B (de_var (pv 2)) de_int fun _ _ => rfl) dr_nil))) fr_nil))) (pg_tup B.calm (pgs_cons (pg_name (i := 3) sc_open.nd rfl (Or.inl rfl)) (pgs_cons (pg_name (i := 4) sc_open.nd rfl (Or.inr rfl)) pgs_nil)))))
  (ds_one (ds_ret (de_eq B (de_lc (own := [("_law_lock", 5)]) (pe_lc (own := [("_law_lock", 5)]) B.calm sc_open.nd (di_any B.K (de_var (pv 3))) (blkOk_by (N := n_open) (sc := defScope (top 35)) (by decide +kernel)) (fun _ _ _ _ _ => (dg_name (pg_name (i := 5) sc_open.nd rfl (Or.inl rfl)) (noSlot_of rfl))) (fun _ _ _ _ _ => (dts_one (dt_in (Bd.blk B) (de_var (pv 5)) (de_var (pv 4))))) (fun _ _ _ _ _ => (de_var (pv 5)))) (ns_of rfl) (sub_of rfl)) (de_lst da_nil))))))
def n_is_place : List Str := ["pair", "value"]
theorem sc_is_place : FnScope n_is_place ["pair", "value"] (defScope (top 26)) := ⟨rfl, rfl, rfl, by decide +kernel, rfl, by decide +kernel, by decide +kernel⟩
theorem ok_is_place {P : Program} {K : PySem.W.Frag} {mg : Str → Option Value} {base : Heap} {G : List (Addr × List V)} {f : Addr} {fd : FuncData} (F : FnP K "_is_place" (top 26) f fd) (hm : mg "_is_place" = some (.ref f))
    (m_isinstance : mg "isinstance" = none) (m_len : mg "len" = none) (m_tuple : mg "tuple" = none) (p_other : PropD P Wd.w K mg base "Pair" "other" "_other") (p_one : PropD P Wd.w K mg base "Pair" "one" "_one") (d_is_number : D0 P Wd.w K mg base "is_number" 1 2 (g_is_number G) (f_is_number G)) :
    D0 P Wd.w K mg base "_is_place" 3 2 (g_is_place G) (f_is_place G) :=
  fn_D0 (k := 2) F sc_is_place hm (F.bindsN fun _ _ _ _ _ _ us hl => match us, hl with | [_, _], _ => rfl) (by decide) rfl rfl fun cdv A outer s H E B =>
  (ds_cons (ds_if (dt_w (dw_or (dt_not (dt_tr B (de_isB (B := .tuple) B.K (de_var (pv 1)) rfl m_isinstance rfl m_tuple rfl))) (dw_or1 (dt_ne B (de_len B rfl m_len (da_cons (de_var (pv 1)) da_nil)) de_int))))
  (ds_one (ds_ret de_bl))
  ds_nil)
  (ds_one (ds_ret (de_and (de_fnD B d_is_number (by decide) rfl rfl 0 [] rfl (dr_cons (de_at B (de_var (pv 1)) de_int fun _ _ => rfl) (dr_cons (de_len B rfl m_len (da_cons (de_prop B p_one (by decide) (de_var (pv 0))) da_nil)) dr_nil))) (de_one (de_fnD B d_is_number (by decide) rfl rfl 0 [] rfl (dr_cons (de_at B (de_var (pv 1)) de_int fun _ _ => rfl) (dr_cons (de_len B rfl m_len (da_cons (de_prop B p_other (by decide) (de_var (pv 0))) da_nil)) dr_nil))))))))
def n_all_held : List Str := ["program", "found", "step"]
theorem sc_all_held : FnScope n_all_held ["program"] (defScope (top 12)) := ⟨rfl, rfl, rfl, by decide +kernel, rfl, by decide +kernel, by decide +kernel⟩
theorem ok_all_held {P : Program} {K : PySem.W.Frag} {mg : Str → Option Value} {base : Heap} {G : List (Addr × List V)} {f : Addr} {fd : FuncData} (F : FnP K "all_held" (top 12) f fd) (hm : mg "all_held" = some (.ref f))
    (d_held_behind : D0 P Wd.w K mg base "held_behind" 1 2 (g_held_behind G) (f_held_behind G)) :
    D0 P Wd.w K mg base "all_held" 2 1 (g_all_held G) (f_all_held G) :=
  fn_D0 (k := 1) F sc_all_held hm (F.bindsN fun _ _ _ _ _ _ us hl => match us, hl with | [_], _ => rfl) (by decide) rfl rfl fun cdv A outer s H E B =>
  (ds_cons (ds_own (bnd_of rfl) (ps_set (i := 1) sc_all_held.nd rfl (Or.inl rfl) (fe_lst (da_cons (de_tup da_nil) da_nil))))
  (ds_cons (ds_for PassesOwn.never B.calm (di_any B.K (de_var (pv 0))) (dg_name (pg_name (i := 2) sc_all_held.nd rfl (Or.inl rfl)) (noSlot_of rfl))
  (ds_one (ds_app (i := 1) rfl (ps_expr (pe_bm PySem.F.plainAttrs_list PySem.F.slot_list_append PySem.F.type_list_append mt_append (pv 1) (pa_cons (de_view rfl (by decide) (de_fnD B d_held_behind (by decide) rfl rfl 0 [] rfl (dr_cons (de_at B (de_var (pv 1)) (de_neg de_int) fun _ _ => rfl) (dr_cons (de_var (pv 2)) dr_nil)))) pa_nil))))))
  (ds_one (ds_frz (bnd_of rfl) (ds_ret (de_var (pv 1)))))))
def n_share_lock : List Str := ["held", "locks", "lock"]
theorem sc_share_lock : FnScope n_share_lock ["held", "locks"] (defScope (top 21)) := ⟨rfl, rfl, rfl, by decide +kernel, rfl, by decide +kernel, by decide +kernel⟩
theorem ok_share_lock {P : Program} {K : PySem.W.Frag} {mg : Str → Option Value} {base : Heap} {G : List (Addr × List V)} {f : Addr} {fd : FuncData} (F : FnP K "share_lock" (top 21) f fd) (hm : mg "share_lock" = some (.ref f))
    (m_any : mg "any" = none) :
    D0 P Wd.w K mg base "share_lock" 1 2 (g_share_lock G) (f_share_lock G) :=
  fn_D0 (k := 0) F sc_share_lock hm (F.bindsN fun _ _ _ _ _ _ us hl => match us, hl with | [_, _], _ => rfl) (by decide) rfl rfl fun cdv A outer s H E B =>
  (ds_one (ds_ret (de_any B rfl m_any (da_cons (de_lc (own := [("lock", 2)]) (pe_lc (own := [("lock", 2)]) B.calm sc_share_lock.nd (di_any B.K (de_var (pv 0))) (blkOk_by (N := n_share_lock) (sc := defScope (top 21)) (by decide +kernel)) (fun _ _ _ _ _ => (dg_name (pg_name (i := 2) sc_share_lock.nd rfl (Or.inl rfl)) (noSlot_of rfl))) (fun _ _ _ _ _ => dts_nil) (fun _ _ _ _ _ => (de_in (Bd.blk B) (de_var (pv 2)) (de_var (pv 1))))) (ns_of rfl) (sub_of rfl)) da_nil))))
def n_joined_by : List Str := ["found", "program", "columns", "standing", "held", "many", "locks"]
theorem sc_joined_by : FnScope n_joined_by ["found", "program"] (defScope (top 20)) := ⟨rfl, rfl, rfl, by decide +kernel, rfl, by decide +kernel, by decide +kernel⟩
theorem ok_joined_by {P : Program} {K : PySem.W.Frag} {mg : Str → Option Value} {base : Heap} {G : List (Addr × List V)} {f : Addr} {fd : FuncData} (F : FnP K "joined_by" (top 20) f fd) (hm : mg "joined_by" = some (.ref f))
    (m_enumerate : mg "enumerate" = none) (d_all_held : D0 P Wd.w K mg base "all_held" 2 1 (g_all_held G) (f_all_held G)) (d_share_lock : D0 P Wd.w K mg base "share_lock" 1 2 (g_share_lock G) (f_share_lock G)) :
    D0 P Wd.w K mg base "joined_by" 3 2 (g_joined_by G) (f_joined_by G) :=
  fn_D0 (k := 2) F sc_joined_by hm (F.bindsN fun _ _ _ _ _ _ us hl => match us, hl with | [_, _], _ => rfl) (by decide) rfl rfl fun cdv A outer s H E B =>
  (ds_cons (ds_set (ps_set (i := 2) sc_joined_by.nd rfl (Or.inr rfl) (de_fnD B d_all_held (by decide) rfl rfl 3 [] rfl (dr_cons (de_var (pv 1)) dr_nil))) (noSlot_of rfl))
  (ds_one (ds_ret (de_dc2 (own := [("standing", 3), ("held", 4), ("many", 5), ("locks", 6)]) (pe_dc2 (own := [("standing", 3), ("held", 4), ("many", 5), ("locks", 6)]) B.u0 B.calm sc_joined_by.nd (di_items (de_var (pv 0))) (blkOk_by (N := n_joined_by) (sc := defScope (top 20)) (by decide +kernel)) (sub_of (ss := [5, 6]) rfl) (fun _ _ _ _ _ => (dg_tup (Bd.blk B).K rfl (pg_tup (Bd.blk B).calm (dgs_cons (dg_name (pg_name (i := 3) sc_joined_by.nd rfl (Or.inl rfl)) (noSlot_of rfl)) (dgs_cons (dg_name (pg_name (i := 4) sc_joined_by.nd rfl (Or.inl rfl)) (noSlot_of rfl)) dgs_nil))))) (fun _ _ _ _ _ => dts_nil) (fun _ _ _ _ _ => (di_enum1 (Bd.blk B).K (by rfl) m_enumerate (da_cons (de_var (pv 2)) da_nil))) (fun _ _ _ _ _ => (dg_tup (Bd.blk B).K rfl (pg_tup (Bd.blk B).calm (dgs_cons (dg_name (pg_name (i := 5) sc_joined_by.nd rfl (Or.inl rfl)) (noSlot_of rfl)) (dgs_cons (dg_name (pg_name (i := 6) sc_joined_by.nd rfl (Or.inl rfl)) (noSlot_of rfl)) dgs_nil))))) (fun _ _ _ _ _ => (dts_one (dt_not (dt_tr (Bd.blk B) (de_fnD (Bd.blk B) d_share_lock (by decide) (by rfl) rfl 0 [] rfl (dr_cons (de_var (pv 4)) (dr_cons (de_var (pv 6)) dr_nil))))))) (fun _ _ _ _ _ => (de_tup (da_star (de_var (pv 3)) (da_cons (de_var (pv 5)) da_nil) (Bd.blk B).K))) (fun _ _ _ _ _ => (de_tup (da_star (de_var (pv 4)) (da_star (de_var (pv 6)) da_nil (Bd.blk B).K) (Bd.blk B).K)))) (ns_of rfl) (sub_of rfl) (ns_of rfl) (sub_of rfl) (sub_of (ss := [5, 6]) rfl)))))
def n_step_to : List Str := ["standing", "which"]
theorem sc_step_to : FnScope n_step_to ["standing", "which"] (defScope (top 22)) := ⟨rfl, rfl, rfl, by decide +kernel, rfl, by decide +kernel, by decide +kernel⟩
theorem ok_step_to {P : Program} {K : PySem.W.Frag} {mg : Str → Option Value} {base : Heap} {G : List (Addr × List V)} {f : Addr} {fd : FuncData} (F : FnP K "step_to" (top 22) f fd) (hm : mg "step_to" = some (.ref f))
     :
    D0 P Wd.w K mg base "step_to" 1 2 (g_step_to G) (f_step_to G) :=
  fn_D0 (k := 0) F sc_step_to hm (F.bindsN fun _ _ _ _ _ _ us hl => match us, hl with | [_, _], _ => rfl) (by decide) rfl rfl fun cdv A outer s H E B =>
  (ds_one (ds_ret (de_tup (da_star (de_sl B.K (de_var (pv 0)) do_none (do_some (de_var (pv 1)))) (da_cons (de_add B (de_at B (de_var (pv 0)) (de_var (pv 1)) fun _ _ => rfl) de_int) (da_star (de_sl B.K (de_var (pv 0)) (do_some (de_add B (de_var (pv 1)) de_int)) do_none) da_nil B.K)) B.K))))
def n_moves_from : List Str := ["found", "standing", "moves", "which", "ahead"]
theorem sc_moves_from : FnScope n_moves_from ["found", "standing"] (defScope (top 23)) := ⟨rfl, rfl, rfl, by decide +kernel, rfl, by decide +kernel, by decide +kernel⟩
theorem ok_moves_from {P : Program} {K : PySem.W.Frag} {mg : Str → Option Value} {base : Heap} {G : List (Addr × List V)} {f : Addr} {fd : FuncData} (F : FnP K "moves_from" (top 23) f fd) (hm : mg "moves_from" = some (.ref f))
    (m_len : mg "len" = none) (m_range : mg "range" = none) (d_step_to : D0 P Wd.w K mg base "step_to" 1 2 (g_step_to G) (f_step_to G)) :
    D0 P Wd.w K mg base "moves_from" 2 2 (g_moves_from G) (f_moves_from G) :=
  fn_D0 (k := 1) F sc_moves_from hm (F.bindsN fun _ _ _ _ _ _ us hl => match us, hl with | [_, _], _ => rfl) (by decide) rfl rfl fun cdv A outer s H E B =>
  (ds_cons (ds_setLc (ps_setLc (i := 2) (own := [("which", 3)]) B.calm sc_moves_from.nd rfl rfl (sw_true rfl rfl rfl (by decide +kernel)) (di_rng1 rfl m_range (da_cons (de_len B rfl m_len (da_cons (de_var (pv 1)) da_nil)) da_nil)) (blkOk_by (N := n_moves_from) (sc := defScope (top 23)) (by decide +kernel)) (fun _ _ _ _ _ => (dg_name (pg_name (i := 3) sc_moves_from.nd rfl (Or.inl rfl)) (noSlot_of rfl))) (fun _ _ _ _ _ => dts_nil) (fun _ _ _ _ _ => (de_tup (da_cons (de_var (pv 3)) (da_cons (de_fnD (Bd.blk B) d_step_to (by decide) (by rfl) rfl 0 [] rfl (dr_cons (de_var (pv 1)) (dr_cons (de_var (pv 3)) dr_nil))) da_nil))))) (noSlot_of rfl) (ns_of rfl) (sub_of rfl))
  (ds_one (ds_ret (de_lc (own := [("which", 3), ("ahead", 4)]) (pe_lc (own := [("which", 3), ("ahead", 4)]) B.calm sc_moves_from.nd (di_any B.K (de_var (pv 2))) (blkOk_by (N := n_moves_from) (sc := defScope (top 23)) (by decide +kernel)) (fun _ _ _ _ _ => (dg_tup (Bd.blk B).K rfl (pg_tup (Bd.blk B).calm (dgs_cons (dg_name (pg_name (i := 3) sc_moves_from.nd rfl (Or.inl rfl)) (noSlot_of rfl)) (dgs_cons (dg_name (pg_name (i := 4) sc_moves_from.nd rfl (Or.inl rfl)) (noSlot_of rfl)) dgs_nil))))) (fun _ _ _ _ _ => (dts_one (dt_in (Bd.blk B) (de_var (pv 4)) (de_var (pv 0))))) (fun _ _ _ _ _ => (de_tup (da_cons (de_var (pv 3)) (da_cons (de_var (pv 4)) da_nil))))) (ns_of rfl) (sub_of rfl)))))
def n_open_standings : List Str := ["programs", "found", "program", "standing"]
theorem sc_open_standings : FnScope n_open_standings ["programs"] (defScope (top 19)) := ⟨rfl, rfl, rfl, by decide +kernel, rfl, by decide +kernel, by decide +kernel⟩
theorem ok_open_standings {P : Program} {K : PySem.W.Frag} {mg : Str → Option Value} {base : Heap} {G : List (Addr × List V)} {f : Addr} {fd : FuncData} (F : FnP K "open_standings" (top 19) f fd) (hm : mg "open_standings" = some (.ref f))
    (d_joined_by : D0 P Wd.w K mg base "joined_by" 3 2 (g_joined_by G) (f_joined_by G)) (d_moves_from : D0 P Wd.w K mg base "moves_from" 2 2 (g_moves_from G) (f_moves_from G)) :
    D0 P Wd.w K mg base "open_standings" 4 1 (g_open_standings G) (f_open_standings G) :=
  fn_D0 (k := 3) F sc_open_standings hm (F.bindsN fun _ _ _ _ _ _ us hl => match us, hl with | [_], _ => rfl) (by decide) rfl rfl fun cdv A outer s H E B =>
  (ds_cons (ds_set (ps_set (i := 1) sc_open_standings.nd rfl (Or.inr rfl) (de_d1 B.u0 (de_tup da_nil) (de_tup da_nil))) (noSlot_of rfl))
  (ds_cons (ds_for PassesOwn.never B.calm (di_any B.K (de_var (pv 0))) (dg_name (pg_name (i := 2) sc_open_standings.nd rfl (Or.inl rfl)) (noSlot_of rfl))
  (ds_one (ds_set (ps_set (i := 1) sc_open_standings.nd rfl (Or.inr rfl) (de_fnD B d_joined_by (by decide) rfl rfl 0 [] rfl (dr_cons (de_var (pv 1)) (dr_cons (de_var (pv 2)) dr_nil)))) (noSlot_of rfl))))
  (ds_one (ds_ret (de_dc1 (own := [("standing", 3)]) (pe_dc1 (own := [("standing", 3)]) B.u0 B.calm sc_open_standings.nd (di_any B.K (de_var (pv 1))) (blkOk_by (N := n_open_standings) (sc := defScope (top 19)) (by decide +kernel)) (fun _ _ _ _ _ => (dg_name (pg_name (i := 3) sc_open_standings.nd rfl (Or.inl rfl)) (noSlot_of rfl))) (fun _ _ _ _ _ => dts_nil) (fun _ _ _ _ _ => (de_var (pv 3))) (fun _ _ _ _ _ => (de_fnD (Bd.blk B) d_moves_from (by decide) (by rfl) rfl 0 [] rfl (dr_cons (de_var (pv 1)) (dr_cons (de_var (pv 3)) dr_nil))))) (ns_of rfl) (sub_of rfl))))))
def n_open_places : List Str := ["pair"]
theorem sc_open_places : FnScope n_open_places ["pair"] (defScope (top 18)) := ⟨rfl, rfl, rfl, by decide +kernel, rfl, by decide +kernel, by decide +kernel⟩
theorem ok_open_places {P : Program} {K : PySem.W.Frag} {mg : Str → Option Value} {base : Heap} {G : List (Addr × List V)} {f : Addr} {fd : FuncData} (F : FnP K "open_places" (top 18) f fd) (hm : mg "open_places" = some (.ref f))
    (p_other : PropD P Wd.w K mg base "Pair" "other" "_other") (p_one : PropD P Wd.w K mg base "Pair" "one" "_one") (d_open_standings : D0 P Wd.w K mg base "open_standings" 4 1 (g_open_standings G) (f_open_standings G)) :
    D0 P Wd.w K mg base "open_places" 5 1 (g_open_places G) (f_open_places G) :=
  fn_D0 (k := 4) F sc_open_places hm (F.bindsN fun _ _ _ _ _ _ us hl => match us, hl with | [_], _ => rfl) (by decide) rfl rfl fun cdv A outer s H E B =>
  (ds_one (ds_ret (de_fnD B d_open_standings (by decide) rfl rfl 0 [] rfl (dr_cons (de_tup (da_cons (de_prop B p_one (by decide) (de_var (pv 0))) (da_cons (de_prop B p_other (by decide) (de_var (pv 0))) da_nil))) dr_nil))))
def n_is_barred : List Str := ["pair", "place"]
theorem sc_is_barred : FnScope n_is_barred ["pair", "place"] (defScope (top 25)) := ⟨rfl, rfl, rfl, by decide +kernel, rfl, by decide +kernel, by decide +kernel⟩
theorem ok_is_barred {P : Program} {K : PySem.W.Frag} {mg : Str → Option Value} {base : Heap} {G : List (Addr × List V)} {f : Addr} {fd : FuncData} (F : FnP K "is_barred" (top 25) f fd) (hm : mg "is_barred" = some (.ref f))
    (d_is_place : D0 P Wd.w K mg base "_is_place" 3 2 (g_is_place G) (f_is_place G)) (d_open_places : D0 P Wd.w K mg base "open_places" 5 1 (g_open_places G) (f_open_places G)) :
    D0 P Wd.w K mg base "is_barred" 6 2 (g_is_barred G) (f_is_barred G) :=
  fn_D0 (k := 5) F sc_is_barred hm (F.bindsN fun _ _ _ _ _ _ us hl => match us, hl with | [_, _], _ => rfl) (by decide) rfl rfl fun cdv A outer s H E B =>
  (ds_cons (ds_if (dt_not (dt_tr B (de_fnD B d_is_place (by decide) rfl rfl 0 [] rfl (dr_cons (de_var (pv 0)) (dr_cons (de_var (pv 1)) dr_nil)))))
  (ds_one ds_no)
  ds_nil)
  (ds_one (ds_ret (de_ni B (de_var (pv 1)) (de_fnD B d_open_places (by decide) rfl rfl 0 [] rfl (dr_cons (de_var (pv 0)) dr_nil))))))
def n_law : List Str := ["_law_script", "_law_h", "_law_turn", "_law_one", "_law_other", "_law_found", "_law_many", "_law_i", "_law_j", "_law_due", "_law_row", "_law_lock", "_law_takes", "_law_step"]
theorem sc_law : FnScope n_law ["_law_script"] (defScope (top 36)) := ⟨rfl, rfl, rfl, by decide +kernel, rfl, by decide +kernel, by decide +kernel⟩
theorem ok_law {P : Program} {K : PySem.W.Frag} {mg : Str → Option Value} {base : Heap} {G : List (Addr × List V)} {f : Addr} {fd : FuncData} (F : FnP K "law" (top 36) f fd)
    (m_isinstance : mg "isinstance" = none) (m_len : mg "len" = none) (m_list : mg "list" = none) (m_range : mg "range" = none) (m_sorted : mg "sorted" = none) (m_tuple : mg "tuple" = none) (k_Pair : MkD P Wd.w K mg base "Pair" 4 3 G (f_iniPair G)) (d_mix : DMix P Wd.w K mg base "_law_mix" 1 G 4 b_mix1 b_mix2) (d_pairs : D0 P Wd.w K mg base "_law_pairs" 4 2 (g_pairs G) (f_pairs G)) (d_blocks : D0 P Wd.w K mg base "blocks" 3 1 (g_blocks G) (f_blocks G)) (d_alike : ∀ n, D0 P Wd.w K mg base "_law_alike" (0 + n + 1) 2 (g_alike G) (f_alike G n)) (d_open : D0 P Wd.w K mg base "_law_open" 2 3 (g_open G) (f_open G)) (d_is_barred : D0 P Wd.w K mg base "is_barred" 6 2 (g_is_barred G) (f_is_barred G)) :
    FnOk P Wd.w K mg base CX0 8 f fd ["_law_script"] (FSp0 K (g_law G) (f_law G) 1) :=
  fn_L0 (k := 7) F sc_law (by decide) rfl rfl fun cdv A outer s H E B =>
  (ds_cons (ds_mixD B (bnd_of rfl) (n1_of rfl) (show 1 ∉ ([] : List Nat) by decide) d_mix (by decide) rfl (dr_cons (de_var (pv 0)) (dr_cons de_int dr_nil)) fun t pt => ps_set (i := 1) sc_law.nd rfl (Or.inl rfl) pt)
  (ds_cons (ds_for PassesOwn.never B.calm (di_rng1 rfl m_range (da_cons de_int da_nil)) (dg_name (pg_name (i := 2) sc_law.nd rfl (Or.inl rfl)) (noSlot_of rfl))
  (ds_cons (ds_asg (de_fnD B d_pairs (by decide) rfl rfl 2 [(0, 0), (1, 1)] rfl (dr_own (i := 1) rfl (pv 1) (dr_cons de_int dr_nil))) (dg_tup B.K rfl (pg_tup B.calm (dgs_cons (dg_name (pg_name (i := 3) sc_law.nd rfl (Or.inl rfl)) (noSlot_of rfl)) (dgs_cons (dg_name (pg_name (i := 4) sc_law.nd rfl (Or.inl rfl)) (noSlot_of rfl)) dgs_nil)))))
  (ds_cons (ds_set (ps_set (i := 5) sc_law.nd rfl (Or.inl rfl) (de_fnD B d_blocks (by decide) rfl rfl 0 [] rfl (dr_cons (de_make B k_Pair (by decide) rfl (da_cons (de_var (pv 3)) (da_cons (de_var (pv 4)) da_nil))) dr_nil))) (noSlot_of rfl))
  (ds_cons (ds_if (dt_w (dw_or (dt_not (dt_tr B (de_isB (B := .list) B.K (de_var (pv 5)) rfl m_isinstance rfl m_list rfl))) (dw_or1 (dt_not (dt_tr B (de_fnD B (d_alike 6) (by decide) rfl rfl 0 [] rfl (dr_cons (de_var (pv 5)) (dr_cons (de_sorted B rfl m_sorted (da_cons (de_var (pv 5)) da_nil)) dr_nil))))))))
  (ds_one (ds_ret de_bl))
  ds_nil)
  (ds_cons (ds_set (ps_set (i := 6) sc_law.nd rfl (Or.inl rfl) de_int) (noSlot_of rfl))
  (ds_cons (ds_for PassesOwn.never B.calm (di_rng1 rfl m_range (da_cons (de_add B (de_len B rfl m_len (da_cons (de_var (pv 3)) da_nil)) de_int) da_nil)) (dg_name (pg_name (i := 7) sc_law.nd rfl (Or.inr rfl)) (noSlot_of rfl))
  (ds_one (ds_for PassesOwn.never B.calm (di_rng1 rfl m_range (da_cons (de_add B (de_len B rfl m_len (da_cons (de_var (pv 4)) da_nil)) de_int) da_nil)) (dg_name (pg_name (i := 8) sc_law.nd rfl (Or.inr rfl)) (noSlot_of rfl))
  (ds_cons (ds_set (ps_set (i := 9) sc_law.nd rfl (Or.inl rfl) (de_not (de_fnD B d_open (by decide) rfl rfl 0 [] rfl (dr_cons (de_var (pv 3)) (dr_cons (de_var (pv 4)) (dr_cons (de_tup (da_cons (de_var (pv 7)) (da_cons (de_var (pv 8)) da_nil))) dr_nil)))))) (noSlot_of rfl))
  (ds_cons (ds_if (dt_not (dt_tr B (de_fnD B (d_alike 6) (by decide) rfl rfl 0 [] rfl (dr_cons (de_fnD B d_is_barred (by decide) rfl rfl 0 [] rfl (dr_cons (de_make B k_Pair (by decide) rfl (da_cons (de_var (pv 3)) (da_cons (de_var (pv 4)) da_nil))) (dr_cons (de_tup (da_cons (de_var (pv 7)) (da_cons (de_var (pv 8)) da_nil))) dr_nil))) (dr_cons (de_var (pv 9)) dr_nil)))))
  (ds_one (ds_ret de_bl))
  ds_nil)
  (ds_one (ds_if (dt_ne B (de_var (pv 9)) (de_ne B (de_lc (own := [("_law_row", 10)]) (pe_lc (own := [("_law_row", 10)]) B.calm sc_law.nd (di_any B.K (de_var (pv 5))) (blkOk_by (N := n_law) (sc := defScope (top 36)) (by decide +kernel)) (fun _ _ _ _ _ => (dg_name (pg_name (i := 10) sc_law.nd rfl (Or.inl rfl)) (noSlot_of rfl))) (fun _ _ _ _ _ => (dts_one (dt_w (dw_and (dt_chain op_le sem_le op_le sem_le (de_at (Bd.blk B) (de_var (pv 10)) de_int fun _ _ => rfl) (de_var (pv 7)) (de_at (Bd.blk B) (de_var (pv 10)) de_int fun _ _ => rfl)) (dw_and1 (dt_chain op_le sem_le op_le sem_le (de_at (Bd.blk B) (de_var (pv 10)) de_int fun _ _ => rfl) (de_var (pv 8)) (de_at (Bd.blk B) (de_var (pv 10)) de_int fun _ _ => rfl))))))) (fun _ _ _ _ _ => (de_var (pv 10)))) (ns_of rfl) (sub_of rfl)) (de_lst da_nil)))
  (ds_one (ds_ret de_bl))
  ds_nil)))))))
  (ds_cons (ds_for PassesOwn.never B.calm (di_rng1 rfl m_range (da_cons de_int da_nil)) (dg_name (pg_name (i := 11) sc_law.nd rfl (Or.inr rfl)) (noSlot_of rfl))
  (ds_cons (ds_setLc (ps_setLc (i := 12) (own := [("_law_row", 10)]) B.calm sc_law.nd rfl rfl (sw_true rfl rfl rfl (by decide +kernel)) (di_any B.K (de_lst (da_cons (de_var (pv 3)) (da_cons (de_var (pv 4)) da_nil)))) (blkOk_by (N := n_law) (sc := defScope (top 36)) (by decide +kernel)) (fun _ _ _ _ _ => (dg_name (pg_name (i := 10) sc_law.nd rfl (Or.inl rfl)) (noSlot_of rfl))) (fun _ _ _ _ _ => dts_nil) (fun _ _ _ _ _ => (de_len (Bd.blk B) (by rfl) m_len (da_cons (de_lc (own := [("_law_step", 13)]) (pe_lc (own := [("_law_step", 13)]) (Bd.blk B).calm sc_law.nd (di_any (Bd.blk B).K (de_var (pv 10))) (blkOk_by (by rfl)) (fun _ _ _ _ _ => (dg_name (pg_name (i := 13) sc_law.nd rfl (Or.inl rfl)) (noSlot_of rfl))) (fun _ _ _ _ _ => (dts_one (dt_eq (Bd.blk (Bd.blk B)) (de_var (pv 13)) (de_tup (da_cons de_str (da_cons (de_var (pv 11)) da_nil)))))) (fun _ _ _ _ _ => (de_var (pv 13)))) (ns_of rfl) (sub_of rfl)) da_nil)))) (noSlot_of rfl) (ns_of rfl) (sub_of rfl))
  (ds_one (ds_set (ps_set (i := 6) sc_law.nd rfl (Or.inl rfl) (de_add B (de_var (pv 6)) (de_mul B (de_at B (de_var (pv 12)) de_int fun _ _ => rfl) (de_at B (de_var (pv 12)) de_int fun _ _ => rfl)))) (noSlot_of rfl)))))
  (ds_cons (ds_for PassesOwn.never B.calm (di_any B.K (de_var (pv 5))) (dg_name (pg_name (i := 10) sc_law.nd rfl (Or.inl rfl)) (noSlot_of rfl))
  (ds_cons (ds_if (dt_w (dw_or (dt_not (dt_tr B (de_isB (B := .tuple) B.K (de_var (pv 10)) rfl m_isinstance rfl m_tuple rfl))) (dw_or (dt_ne B (de_len B rfl m_len (da_cons (de_var (pv 10)) da_nil)) de_int) (dw_or1 (dt_ne B (de_at B (de_var (pv 3)) (de_sub B (de_at B (de_var (pv 10)) de_int fun _ _ => rfl) de_int) fun _ _ => rfl) (de_tup (da_cons de_str (da_cons (de_at B (de_var (pv 10)) de_int fun _ _ => rfl) da_nil))))))))
  (ds_one (ds_ret de_bl))
  ds_nil)
  (ds_cons (ds_if (dt_w (dw_or (dt_ne B (de_at B (de_var (pv 4)) (de_sub B (de_at B (de_var (pv 10)) de_int fun _ _ => rfl) de_int) fun _ _ => rfl) (de_tup (da_cons de_str (da_cons (de_at B (de_var (pv 10)) de_int fun _ _ => rfl) da_nil)))) (dw_or1 (dt_ne B (de_at B (de_var (pv 3)) (de_at B (de_var (pv 10)) de_int fun _ _ => rfl) fun _ _ => rfl) (de_tup (da_cons de_str (da_cons (de_at B (de_var (pv 10)) de_int fun _ _ => rfl) da_nil)))))))
  (ds_one (ds_ret de_bl))
  ds_nil)
  (ds_one (ds_if (dt_ne B (de_at B (de_var (pv 4)) (de_at B (de_var (pv 10)) de_int fun _ _ => rfl) fun _ _ => rfl) (de_tup (da_cons de_str (da_cons (de_at B (de_var (pv 10)) de_int fun _ _ => rfl) da_nil))))
  (ds_one (ds_ret de_bl))
  ds_nil)))))
  (ds_one (ds_if (dt_ne B (de_len B rfl m_len (da_cons (de_var (pv 5)) da_nil)) (de_var (pv 6)))
  (ds_one (ds_ret de_bl))
  ds_nil))))))))))
  (ds_one (ds_ret de_bl))))
end HD
namespace HD
open PySem PySem.Spec PyProof.Rows L2 Sh
def fn : List Hk.Fp := [fD 28 "_law_mix", fD 29 "_law_next", fD 31 "_law_pick", fD 32 "_law_program", fD 33 "_law_pairs", fD 13 "hold_times", fD 16 "blocks", fD 10 "held_behind", fD 7 "is_number", fD 8 "is_step", fD 9 "can_follow", fD 11 "check_program", fM 15 0 "Pair" "__init__" "Pair.__init__", fD 30 "_law_alike", fD 34 "_law_held", fD 35 "_law_open", fD 26 "_is_place", fD 12 "all_held", fD 21 "share_lock", fD 20 "joined_by", fD 22 "step_to", fD 23 "moves_from", fD 19 "open_standings", fD 18 "open_places", fD 25 "is_barred", fD 36 "law", fG 15 1 "Pair" "one" "Pair.one", fG 15 2 "Pair" "other" "Pair.other"]
def fa : List He.Fa := [.free "any", .free "bool", .free "enumerate", .free "int", .free "isinstance", .free "len", .free "list", .free "max", .free "range", .free "sorted", .free "str", .free "tuple", .int "MOST_LOCK" 3, .int "MOST_STEPS" 12, .cls "Pair", .noat "Pair" "_one", .noat "Pair" "_other", .glo "_law_mix", .glo "_law_next", .glo "_law_pick", .glo "_law_program", .glo "_law_pairs", .glo "hold_times", .glo "blocks", .glo "held_behind", .glo "is_number", .glo "is_step", .glo "can_follow", .glo "check_program", .glo "Pair", .mkr "Pair", .glo "_law_alike", .glo "_law_held", .glo "_law_open", .glo "_is_place", .glo "all_held", .glo "share_lock", .glo "joined_by", .glo "step_to", .glo "moves_from", .glo "open_standings", .glo "open_places", .glo "is_barred", .glo "law"]
def ex (K : Hk.Fg) : Bool := Hk.allB fa K && Hk.propB "Pair" "one" K && Hk.propB "Pair" "other" K
abbrev R : PySem.W.OpenRow := PySem.W.OpenLaw.row PySem.Challenge.rw_gridlocks_k02_whole_blocks
abbrev hk : PySem.W.Hook := Hk.hook 6 ex fn
def ob (s : PySem.W.SharedT) : Hk.Tell := Hk.tellG 6 ex fn (HandSHeadRun.getT s)
theorem ob_eq (s : PySem.W.SharedT) : ob s = hk.obs s.abs := Hk.tellG_eq (HandSHeadRun.getT_eq s)
theorem run (w : World) : HandSHeadRun.RunEq R (PySem.W.view R.prog [36]) hk ob 8000 ("GridError" :: "BadProgram" :: "BadPlace" :: "MOST_STEPS" :: "MOST_LOCK" :: "is_number" :: "is_step" :: "can_follow" :: "held_behind" :: "check_program" :: "all_held" :: "hold_times" :: "Pair" :: "blocks" :: "open_places" :: "open_standings" :: "joined_by" :: "share_lock" :: "step_to" :: "moves_from" :: "is_barred" :: "_is_place" :: "_law_mix" :: "_law_next" :: "_law_alike" :: "_law_pick" :: "_law_program" :: "_law_pairs" :: "_law_held" :: "_law_open" :: [] : List Str) w := by
  intro os
  kernel_rfl
theorem facts [Wd] {P : Program} {K : PySem.W.Frag} {h : Heap} {mg : Str → Option Value} {f : Addr} (X : K.In h) (G : h.Ns mainGlobals mg) (hfa : mg ("law" : Str) = some (.ref f)) (c : Hk.Says ex fn K) :
    ∃ fd : FuncData, (∀ (s : Shared) (v : Value), BindsTo s fd ⟨[v], []⟩ [("_law_script", v)]) ∧ ∀ base : Heap, FnOk P Wd.w K mg base CX0 8 f fd ["_law_script"] (FSp0 K (g_law []) (f_law []) 1) := by
  have e0 := c.more
  have e1 : (Hk.allB fa K && Hk.propB "Pair" "one" K && Hk.propB "Pair" "other" K) = true := e0
  obtain ⟨e1, ex_other⟩ := Bool.and_eq_true_iff.mp e1
  obtain ⟨e1, ex_one⟩ := Bool.and_eq_true_iff.mp e1
  have fc : ∀ (i : Nat) {z : He.Fa}, fa[i]? = some z → z.ok K = true := fun i z e => Hk.allB_at e1 i e
  obtain ⟨fd_law, F_law⟩ := c.def_ 25 (d := fD 36 "law") rfl
  have el := hfa.symm.trans (He.glo_ok X G (fc 43 rfl))
  cases el
  have bl := FunD.bindsA (ps := ["_law_script"]) F_law fun _ _ _ _ _ _ us hl => match us, hl with | [_], _ => rfl
  refine ⟨fd_law, fun s v => bl s [v] rfl, fun base => ?_⟩
  have m_any : mg "any" = none := He.free_ok X G (fc 0 rfl)
  have m_bool : mg "bool" = none := He.free_ok X G (fc 1 rfl)
  have m_enumerate : mg "enumerate" = none := He.free_ok X G (fc 2 rfl)
  have m_int : mg "int" = none := He.free_ok X G (fc 3 rfl)
  have m_isinstance : mg "isinstance" = none := He.free_ok X G (fc 4 rfl)
  have m_len : mg "len" = none := He.free_ok X G (fc 5 rfl)
  have m_list : mg "list" = none := He.free_ok X G (fc 6 rfl)
  have m_max : mg "max" = none := He.free_ok X G (fc 7 rfl)
  have m_range : mg "range" = none := He.free_ok X G (fc 8 rfl)
  have m_sorted : mg "sorted" = none := He.free_ok X G (fc 9 rfl)
  have m_str : mg "str" = none := He.free_ok X G (fc 10 rfl)
  have m_tuple : mg "tuple" = none := He.free_ok X G (fc 11 rfl)
  have m_MOST_LOCK : ∃ t, mg "MOST_LOCK" = some (.int 3 t) := He.int_ok X G (fc 12 rfl)
  have m_MOST_STEPS : ∃ t, mg "MOST_STEPS" = some (.int 12 t) := He.int_ok X G (fc 13 rfl)
  obtain ⟨fd_one, F_one⟩ := c.def_ 26 (d := fG 15 1 "Pair" "one" "Pair.one") rfl
  have c_one : ClsF K "Pair" "_one" := ⟨He.cls_ok (fc 14 rfl), He.noat_ok (fc 15 rfl)⟩
  have p_one : PropD P Wd.w K mg base "Pair" "one" "_one" := prop_of c_one (Hk.propB_ok ex_one) F_one (N := ["self"]) ⟨rfl, rfl, rfl, by decide +kernel, rfl, by decide +kernel, by decide +kernel⟩ rfl rfl (F_one.bindsN fun _ _ _ _ _ _ us hl => match us, hl with | [_], _ => rfl)
  obtain ⟨fd_other, F_other⟩ := c.def_ 27 (d := fG 15 2 "Pair" "other" "Pair.other") rfl
  have c_other : ClsF K "Pair" "_other" := ⟨He.cls_ok (fc 14 rfl), He.noat_ok (fc 16 rfl)⟩
  have p_other : PropD P Wd.w K mg base "Pair" "other" "_other" := prop_of c_other (Hk.propB_ok ex_other) F_other (N := ["self"]) ⟨rfl, rfl, rfl, by decide +kernel, rfl, by decide +kernel, by decide +kernel⟩ rfl rfl (F_other.bindsN fun _ _ _ _ _ _ us hl => match us, hl with | [_], _ => rfl)
  obtain ⟨fd_mix, F_mix⟩ := c.def_ 0 (d := fD 28 "_law_mix") rfl
  have d_mix : DMix P Wd.w K mg base "_law_mix" 1 [] 4 b_mix1 b_mix2 := ok_mix F_mix (He.glo_ok X G (fc 17 rfl)) m_int m_list
  obtain ⟨fd_next, F_next⟩ := c.def_ 1 (d := fD 29 "_law_next") rfl
  have d_next : D0 P Wd.w K mg base "_law_next" 1 2 (g_next []) (f_next []) := ok_next F_next (He.glo_ok X G (fc 18 rfl)) m_int m_len m_max
  obtain ⟨fd_pick, F_pick⟩ := c.def_ 2 (d := fD 31 "_law_pick") rfl
  have d_pick : D0 P Wd.w K mg base "_law_pick" 2 2 (g_pick []) (f_pick []) := ok_pick F_pick (He.glo_ok X G (fc 19 rfl)) m_len d_next
  obtain ⟨fd_program, F_program⟩ := c.def_ 3 (d := fD 32 "_law_program") rfl
  have d_program : D0 P Wd.w K mg base "_law_program" 3 2 (g_program []) (f_program []) := ok_program F_program (He.glo_ok X G (fc 20 rfl)) m_len m_range m_tuple d_next d_pick
  obtain ⟨fd_pairs, F_pairs⟩ := c.def_ 4 (d := fD 33 "_law_pairs") rfl
  have d_pairs : D0 P Wd.w K mg base "_law_pairs" 4 2 (g_pairs []) (f_pairs []) := ok_pairs F_pairs (He.glo_ok X G (fc 21 rfl)) d_program d_pick
  obtain ⟨fd_hold_times, F_hold_times⟩ := c.def_ 5 (d := fD 13 "hold_times") rfl
  have d_hold_times : D0 P Wd.w K mg base "hold_times" 1 1 (g_hold_times []) (f_hold_times []) := ok_hold_times F_hold_times (He.glo_ok X G (fc 22 rfl)) m_enumerate
  obtain ⟨fd_blocks, F_blocks⟩ := c.def_ 6 (d := fD 16 "blocks") rfl
  have d_blocks : D0 P Wd.w K mg base "blocks" 3 1 (g_blocks []) (f_blocks []) := ok_blocks F_blocks (He.glo_ok X G (fc 23 rfl)) m_sorted p_one p_other d_hold_times
  obtain ⟨fd_held_behind, F_held_behind⟩ := c.def_ 7 (d := fD 10 "held_behind") rfl
  have d_held_behind : D0 P Wd.w K mg base "held_behind" 1 2 (g_held_behind []) (f_held_behind []) := ok_held_behind F_held_behind (He.glo_ok X G (fc 24 rfl)) m_tuple
  obtain ⟨fd_is_number, F_is_number⟩ := c.def_ 8 (d := fD 7 "is_number") rfl
  have d_is_number : D0 P Wd.w K mg base "is_number" 1 2 (g_is_number []) (f_is_number []) := ok_is_number F_is_number (He.glo_ok X G (fc 25 rfl)) m_bool m_int m_isinstance
  obtain ⟨fd_is_step, F_is_step⟩ := c.def_ 9 (d := fD 8 "is_step") rfl
  have d_is_step : D0 P Wd.w K mg base "is_step" 2 1 (g_is_step []) (f_is_step []) := ok_is_step F_is_step (He.glo_ok X G (fc 26 rfl)) m_isinstance m_len m_tuple m_MOST_LOCK d_is_number
  obtain ⟨fd_can_follow, F_can_follow⟩ := c.def_ 10 (d := fD 9 "can_follow") rfl
  have d_can_follow : D0 P Wd.w K mg base "can_follow" 1 2 (g_can_follow []) (f_can_follow []) := ok_can_follow F_can_follow (He.glo_ok X G (fc 27 rfl)) 
  obtain ⟨fd_check_program, F_check_program⟩ := c.def_ 11 (d := fD 11 "check_program") rfl
  have d_check_program : D0 P Wd.w K mg base "check_program" 3 2 (g_check_program []) (f_check_program []) := ok_check_program F_check_program (He.glo_ok X G (fc 28 rfl)) m_enumerate m_isinstance m_len m_tuple m_MOST_STEPS d_can_follow d_is_step d_held_behind
  obtain ⟨fd_iniPair, F_iniPair⟩ := c.def_ 12 (d := fM 15 0 "Pair" "__init__" "Pair.__init__") rfl
  have k_Pair : MkD P Wd.w K mg base "Pair" 4 3 [] (f_iniPair []) := ok_iniPair F_iniPair (He.glo_ok X G (fc 29 rfl)) (He.mkr_ok (fc 30 rfl)) ⟨He.cls_ok (fc 14 rfl), He.noat_ok (fc 15 rfl)⟩ ⟨He.cls_ok (fc 14 rfl), He.noat_ok (fc 16 rfl)⟩ d_check_program
  obtain ⟨fd_alike, F_alike⟩ := c.def_ 13 (d := fD 30 "_law_alike") rfl
  have d_alike : ∀ n, D0 P Wd.w K mg base "_law_alike" (0 + n + 1) 2 (g_alike []) (f_alike [] n) := ok_alike F_alike (He.glo_ok X G (fc 31 rfl)) m_bool m_int m_isinstance m_len m_list m_range m_str m_tuple
  obtain ⟨fd_held, F_held⟩ := c.def_ 14 (d := fD 34 "_law_held") rfl
  have d_held : D0 P Wd.w K mg base "_law_held" 1 2 (g_held []) (f_held []) := ok_held F_held (He.glo_ok X G (fc 32 rfl)) m_sorted m_tuple
  obtain ⟨fd_open, F_open⟩ := c.def_ 15 (d := fD 35 "_law_open") rfl
  have d_open : D0 P Wd.w K mg base "_law_open" 2 3 (g_open []) (f_open []) := ok_open F_open (He.glo_ok X G (fc 33 rfl)) m_len d_held
  obtain ⟨fd_is_place, F_is_place⟩ := c.def_ 16 (d := fD 26 "_is_place") rfl
  have d_is_place : D0 P Wd.w K mg base "_is_place" 3 2 (g_is_place []) (f_is_place []) := ok_is_place F_is_place (He.glo_ok X G (fc 34 rfl)) m_isinstance m_len m_tuple p_other p_one d_is_number
  obtain ⟨fd_all_held, F_all_held⟩ := c.def_ 17 (d := fD 12 "all_held") rfl
  have d_all_held : D0 P Wd.w K mg base "all_held" 2 1 (g_all_held []) (f_all_held []) := ok_all_held F_all_held (He.glo_ok X G (fc 35 rfl)) d_held_behind
  obtain ⟨fd_share_lock, F_share_lock⟩ := c.def_ 18 (d := fD 21 "share_lock") rfl
  have d_share_lock : D0 P Wd.w K mg base "share_lock" 1 2 (g_share_lock []) (f_share_lock []) := ok_share_lock F_share_lock (He.glo_ok X G (fc 36 rfl)) m_any
  obtain ⟨fd_joined_by, F_joined_by⟩ := c.def_ 19 (d := fD 20 "joined_by") rfl
  have d_joined_by : D0 P Wd.w K mg base "joined_by" 3 2 (g_joined_by []) (f_joined_by []) := ok_joined_by F_joined_by (He.glo_ok X G (fc 37 rfl)) m_enumerate d_all_held d_share_lock
  obtain ⟨fd_step_to, F_step_to⟩ := c.def_ 20 (d := fD 22 "step_to") rfl
  have d_step_to : D0 P Wd.w K mg base "step_to" 1 2 (g_step_to []) (f_step_to []) := ok_step_to F_step_to (He.glo_ok X G (fc 38 rfl)) 
  obtain ⟨fd_moves_from, F_moves_from⟩ := c.def_ 21 (d := fD 23 "moves_from") rfl
  have d_moves_from : D0 P Wd.w K mg base "moves_from" 2 2 (g_moves_from []) (f_moves_from []) := ok_moves_from F_moves_from (He.glo_ok X G (fc 39 rfl)) m_len m_range d_step_to
  obtain ⟨fd_open_standings, F_open_standings⟩ := c.def_ 22 (d := fD 19 "open_standings") rfl
  have d_open_standings : D0 P Wd.w K mg base "open_standings" 4 1 (g_open_standings []) (f_open_standings []) := ok_open_standings F_open_standings (He.glo_ok X G (fc 40 rfl)) d_joined_by d_moves_from
  obtain ⟨fd_open_places, F_open_places⟩ := c.def_ 23 (d := fD 18 "open_places") rfl
  have d_open_places : D0 P Wd.w K mg base "open_places" 5 1 (g_open_places []) (f_open_places []) := ok_open_places F_open_places (He.glo_ok X G (fc 41 rfl)) p_other p_one d_open_standings
  obtain ⟨fd_is_barred, F_is_barred⟩ := c.def_ 24 (d := fD 25 "is_barred") rfl
  have d_is_barred : D0 P Wd.w K mg base "is_barred" 6 2 (g_is_barred []) (f_is_barred []) := ok_is_barred F_is_barred (He.glo_ok X G (fc 42 rfl)) d_is_place d_open_places
  exact ok_law F_law m_isinstance m_len m_list m_range m_sorted m_tuple k_Pair d_mix d_pairs d_blocks d_alike d_open d_is_barred
theorem entry [Wd] {K : PySem.W.Frag} {H : Hp} {a : Addr} {ns : List Int} {Q : VK} {E : XK} (hs : SqL K H a (ns.map V.int)) (h : ∃ μ, f_law [] [some (.scr ns)] [.hid, .hid] = some (.ok (.bl true) μ)) (q : ∀ H, Q (.bl true) H) : FSp0 K (g_law []) (f_law []) 1 [.ref a] H Q E := by
  obtain ⟨μ, e⟩ := h
  refine ⟨rfl, H, [some (.scr ns)], [.hid, .hid], [none, none], ?_, ?_⟩
  rotate_left
  · rw [e]
    intro v F' H' r hv
    rw [show v = V.bl true from hv]
    exact q H'
  · have no : ∀ (k : Nat) (z : Addr), ([none, none] : List (Option Addr))[k]? = some (some z) → False := fun k z hz => by
      have := List.mem_of_getElem? hz
      simp at this
    refine ⟨Evl.Ex.refl _, rfl, fun i d hd => ?_, rfl, fun k l z h1 _ => (no k z h1).elim, fun k z h1 => (no k z h1).elim, fun k o ho hn => ?_, fun k z h1 => (no k z h1).elim, fun p hp => nomatch hp⟩
    · match i, hd with
      | 0, hd => cases hd; exact ⟨.ref a, rfl, a, rfl, hs⟩
    · have := List.mem_of_getElem? ho
      simp at this
      rw [this] at hn
      exact hn.elim
end HD
set_option maxHeartbeats 4000000
namespace HD
open Sh
variable [Wd]
/-! ### plain functions evaluated -/
theorem outMu0 : ∀ (μ : Mu) (j : Nat) (μc : Mu), outMu [] μc j μ = μ
  | [], _, _ => rfl
  | o :: t, j, μc => by show o :: outMu [] μc (j + 1) t = o :: t; rw [outMu0 t]
/-- a call with data alone -/
theorem mFn_ok {g : Sg} {n np : Nat} {fm : Fm} {l : Mx (List Ar)} {env : Env} {μ μ1 μ2 : Mu} {al : List Ar} {d : D} (h1 : l env μ = some (.ok al μ1)) (h2 : al.length = np) (h3 : fm (al.map arD) (inL .hid [] μ1 0 n) = some (.ok d μ2)) : mFn g n np [] fm l env μ = some (.ok d μ1) := by
  unfold mFn bnd
  rw [h1]
  have a : (arOk g al μ1 [] && decide (al.length = np)) = true := by rw [h2]; simp [arOk]
  simp only [a, if_true, h3, outMu0]
@[scoped simp] theorem mFn0 {g : Sg} {n np : Nat} {fm : Fm} {l : Mx (List Ar)} {env : Env} {μ : Mu} : mFn g n np [] (noErr fm) l env μ = (match l env μ with
    | some (.ok al μ1) => if al.length = np then (match fm (al.map arD) (inL .hid [] μ1 0 n) with
      | some (.ok d _) => some (.ok d μ1)
      | _ => none) else none
    | some (.err x fs m) => some (.err x fs m)
    | none => none) := by
  unfold mFn bnd
  cases l env μ with
  | none => rfl
  | some r => cases r with
    | err _ _ _ => rfl
    | ok al μ1 =>
      simp only [arOk, Bool.true_and, decide_eq_true_eq]
      by_cases h : al.length = np
      · simp only [h, if_true, noErr]
        cases fm (al.map arD) (inL .hid [] μ1 0 n) with
        | none => rfl
        | some r => cases r with
          | err _ _ _ => rfl
          | ok d m => simp only [outMu0]
      · simp only [h, if_false]
section
variable {α β : Type} {f f1 f2 f3 : Em} {p q : Mx Bool} {env : Env} {μ : Mu} {s t : Sm} {g g' : D → D → Option D} {m : Mx α} {kk : α → Mx β} {ks : α → Sm} {l : Mx (List D)} {r : Mx (List Ar)} {lo hi : Option Em}
@[scoped simp] theorem ap_bnd : bnd m kk env μ = (match m env μ with
  | none => none
  | some (.ok a μ') => kk a env μ'
  | some (.err x fs μ') => some (.err x fs μ')) := rfl
@[scoped simp] theorem ap_lift {o : Option α} : lift o env μ = (match o with
  | none => none
  | some a => some (.ok a μ)) := rfl
@[scoped simp] theorem ap_ret {a : α} : Sh.ret a env μ = some (.ok a μ) := rfl
@[scoped simp] theorem ap_mVar {i : Nat} : mVar i env μ = (match env[i]? with
  | some (some d) => some (.ok d μ)
  | _ => none) := rfl
@[scoped simp] theorem ap_mBin : mBin g f1 f2 env μ = bnd f1 (fun x => bnd f2 fun y => lift (g x y)) env μ := rfl
@[scoped simp] theorem ap_mTest : mTest f env μ = bnd f (fun d => lift (asB d)) env μ := rfl
@[scoped simp] theorem ap_mTru : mTru f env μ = bnd f (fun d => lift (truth d)) env μ := rfl
@[scoped simp] theorem ap_mNot : mNot f env μ = bnd f (fun d => lift ((asB d).map fun b => .bl (!b))) env μ := rfl
@[scoped simp] theorem ap_mAnd : mAnd f1 f2 env μ = bnd f1 (fun d => bnd (lift (asB d)) fun b => if b = true then f2 else Sh.ret (.bl false)) env μ := rfl
@[scoped simp] theorem ap_mOr : mOr f1 f2 env μ = bnd f1 (fun d => bnd (lift (asB d)) fun b => if b = true then Sh.ret (.bl true) else f2) env μ := rfl
@[scoped simp] theorem ap_bNot : bNot p env μ = bnd p (fun b => Sh.ret (!b)) env μ := rfl
@[scoped simp] theorem ap_bAnd : bAnd p q env μ = bnd p (fun b => if b = true then q else Sh.ret false) env μ := rfl
@[scoped simp] theorem ap_bOr : bOr p q env μ = bnd p (fun b => if b = true then Sh.ret true else q) env μ := rfl
@[scoped simp] theorem ap_mIf : mIf p f1 f2 env μ = bnd p (fun b => if b = true then f1 else f2) env μ := rfl
@[scoped simp] theorem ap_mChain : mChain g g' f1 f2 f3 env μ = bnd f1 (fun x => bnd f2 fun y => bnd (lift ((g x y).bind asB)) fun b => if b = true then bnd f3 fun z => lift (g' y z) else Sh.ret (.bl false)) env μ := rfl
@[scoped simp] theorem ap_mNil : mNil env μ = some (.ok [] μ) := rfl
@[scoped simp] theorem ap_mCons : mCons f l env μ = bnd f (fun d => bnd l fun ds => Sh.ret (d :: ds)) env μ := rfl
@[scoped simp] theorem ap_mStar : mStar f l env μ = bnd f (fun d => bnd (lift (asSeq d)) fun xs => bnd l fun ds => Sh.ret (xs ++ ds)) env μ := rfl
@[scoped simp] theorem ap_mTup : mTup l env μ = bnd l (fun ds => lift (gd (szb ds.length) (.tup ds))) env μ := rfl
@[scoped simp] theorem ap_mLst : mLst l env μ = bnd l (fun ds => lift (gd (szb ds.length) (.lst ds))) env μ := rfl
@[scoped simp] theorem ap_mCall {h : List D → Option D} : mCall h l env μ = bnd l (fun ds => lift (h ds)) env μ := rfl
@[scoped simp] theorem ap_mIt : mIt f env μ = bnd f (fun d => lift (items d)) env μ := rfl
@[scoped simp] theorem ap_mIsB {T : BT} : mIsB T f env μ = bnd f (fun d => lift ((isBT T d).map D.bl)) env μ := rfl
@[scoped simp] theorem ap_mSl : mSl f lo hi env μ = bnd f (fun d => bnd (mPart lo) fun i => bnd (mPart hi) fun j => lift (dSl d i j)) env μ := rfl
@[scoped simp] theorem ap_mPartN : mPart none env μ = some (.ok none μ) := rfl
@[scoped simp] theorem ap_mPartS : mPart (some f) env μ = bnd f (fun d => lift ((asI d).map some)) env μ := rfl
@[scoped simp] theorem ap_mRng {h : List D → Option (List D)} : mRng h l env μ = bnd l (fun ds => lift (h ds)) env μ := rfl
@[scoped simp] theorem ap_mEnum {k : Int} : mEnum k l env μ = bnd l (fun ds => lift (gEnum k ds)) env μ := rfl
@[scoped simp] theorem ap_mFld {x y : PySem.Str} : mFld x y f env μ = bnd f (fun d => lift (fldD x y d)) env μ := rfl
@[scoped simp] theorem ap_mNeg : mNeg f env μ = bnd f (fun d => lift (match d with | .int i => some (.int (-i)) | _ => none)) env μ := rfl
@[scoped simp] theorem ap_rNil : rNil env μ = some (.ok [] μ) := rfl
@[scoped simp] theorem ap_rCons : rCons f r env μ = bnd f (fun d => bnd r fun x => Sh.ret (.inl d :: x)) env μ := rfl
@[scoped simp] theorem ap_pYes : pYes env μ = some (.ok true μ) := rfl
@[scoped simp] theorem ap_sBnd : sBnd m ks env μ = (match m env μ with
  | none => none
  | some (.ok a μ') => ks a env μ'
  | some (.err x fs μ') => some (.er x fs env μ')) := rfl
@[scoped simp] theorem ap_sSeq : sSeq s t env μ = (match s env μ with
  | some (.nx env' μ') => t env' μ'
  | r => r) := rfl
@[scoped simp] theorem ap_sNext : sNext env μ = some (.nx env μ) := rfl
@[scoped simp] theorem ap_sNo : sNo env μ = none := rfl
@[scoped simp] theorem ap_sRet : sRet f env μ = sBnd f (fun d env μ => some (.rt d env μ)) env μ := rfl
@[scoped simp] theorem ap_sIf : sIf p s t env μ = sBnd p (fun b => if b = true then s else t) env μ := rfl
@[scoped simp] theorem ap_sAsg {A : Am} : sAsg f A env μ = sBnd f (fun d env μ => (A d env).map fun env' => .nx env' μ) env μ := rfl
@[scoped simp] theorem ap_sExp : sExp f env μ = sBnd f (fun _ env μ => some (.nx env μ)) env μ := rfl
@[scoped simp] theorem ap_ite {b : Prop} [Decidable b] {x y : Mx α} : (if b then x else y) env μ = if b then x env μ else y env μ := by split <;> rfl
@[scoped simp] theorem ap_site {b : Prop} [Decidable b] {x y : Sm} : (if b then x else y) env μ = if b then x env μ else y env μ := by split <;> rfl
@[scoped simp] theorem ap_aName {i : Nat} {d : D} : aName i d env = some (env.set i (some d)) := rfl
@[scoped simp] theorem ap_fnS {N : Nat} {a : List (Option D)} : fnS N s a μ = (match s (a ++ List.replicate (N - a.length) none) μ with
  | some (.nx _ μ') => some (.ok .non μ')
  | some (.rt d _ μ') => some (.ok d μ')
  | some (.er x fs _ μ') => some (.err x fs μ')
  | _ => none) := rfl
@[scoped simp] theorem ap_fnG {g : Sg} {N : Nat} {a : List (Option D)} : fnG g N s a μ = if fullB g μ = true then fnS N s a μ else none := rfl
end
section
variable {i j : Int} {a b : Bool} {x y : PySem.Str} {xs ys : List D} {d e : D} {n : Nat}
@[scoped simp] theorem q1 : deq (.int i) (.int j) = (i == j) := by unfold deq; rfl
@[scoped simp] theorem q2 : deq (.str x) (.str y) = (x == y) := by unfold deq; rfl
@[scoped simp] theorem q3 : deq (.tup xs) (.tup ys) = deqs xs ys := by unfold deq; rfl
@[scoped simp] theorem q4 : deq (.lst xs) (.lst ys) = deqs xs ys := by unfold deq; rfl
@[scoped simp] theorem q5 : deq .non .non = true := by unfold deq; rfl
@[scoped simp] theorem q6 : deq (.bl a) (.bl b) = (a == b) := by unfold deq; rfl
@[scoped simp] theorem q7 : deq (.tup xs) (.lst ys) = false := by unfold deq; rfl
@[scoped simp] theorem q8 : deq (.lst xs) (.tup ys) = false := by unfold deq; rfl
@[scoped simp] theorem q9 : deq (.str x) (.tup ys) = false := by unfold deq; rfl
@[scoped simp] theorem q10 : deq (.tup xs) (.str y) = false := by unfold deq; rfl
@[scoped simp] theorem q11 : deq (.int i) (.tup ys) = false := by unfold deq; rfl
@[scoped simp] theorem q12 : deq (.tup xs) (.int j) = false := by unfold deq; rfl
@[scoped simp] theorem q13 : deq .non (.tup ys) = false := by unfold deq; rfl
@[scoped simp] theorem q14 : deq (.tup xs) .non = false := by unfold deq; rfl
@[scoped simp] theorem q15 : deqs [] [] = true := by unfold deqs; rfl
@[scoped simp] theorem q16 : deqs (d :: xs) (e :: ys) = (deq d e && deqs xs ys) := by rw [deqs]
@[scoped simp] theorem q17 : deqs [] (e :: ys) = false := by unfold deqs; rfl
@[scoped simp] theorem q18 : deqs (d :: xs) [] = false := by unfold deqs; rfl
@[scoped simp] theorem f1 : fit (.int i) n = true := by unfold fit; rfl
@[scoped simp] theorem f2 : fit (.str x) n = PySem.PyData.strOk x := by unfold fit; rfl
@[scoped simp] theorem f3 : fit (.bl a) n = true := by unfold fit; rfl
@[scoped simp] theorem f4 : fit .non n = true := by unfold fit; rfl
@[scoped simp] theorem f5 : fit (.tup xs) n = (Nat.blt 0 n && fits xs (n - 1)) := by rw [fit]
@[scoped simp] theorem f6 : fit (.lst xs) n = (Nat.blt 0 n && fits xs (n - 1)) := by rw [fit]
@[scoped simp] theorem f7 : fits [] n = true := by unfold fits; rfl
@[scoped simp] theorem f8 : fits (d :: xs) n = (fit d n && fits xs n) := by rw [fits]
end
@[scoped simp] theorem at0 {α : Type} {a : α} {r : List α} : L2.atI (a :: r) 0 = some a := by
  have : (0 : Int) < (r.length : Int) + 1 := by omega
  simp [L2.atI, L2.ixN, this]
@[scoped simp] theorem at1 {α : Type} {a b : α} {r : List α} : L2.atI (a :: b :: r) 1 = some b := by
  have : (1 : Int) < (r.length : Int) + 1 + 1 := by omega
  simp [L2.atI, L2.ixN, this]
@[scoped simp] theorem at2 {α : Type} {a b c : α} {r : List α} : L2.atI (a :: b :: c :: r) 2 = some c := by
  have : (2 : Int) < (r.length : Int) + 1 + 1 + 1 := by omega
  simp [L2.atI, L2.ixN, this]
@[scoped simp] theorem at3 {α : Type} {a b c d : α} {r : List α} : L2.atI (a :: b :: c :: d :: r) 3 = some d := by
  have : (3 : Int) < (r.length : Int) + 1 + 1 + 1 + 1 := by omega
  simp [L2.atI, L2.ixN, this]
@[scoped simp] theorem at4 {α : Type} {a b c d e : α} {r : List α} : L2.atI (a :: b :: c :: d :: e :: r) 4 = some e := by
  have : (4 : Int) < (r.length : Int) + 1 + 1 + 1 + 1 + 1 := by omega
  simp [L2.atI, L2.ixN, this]
@[scoped simp] theorem u0  : truth .non = some false := rfl
@[scoped simp] theorem u1 {b : Bool} : truth (.bl b) = some b := rfl
@[scoped simp] theorem u2 {i : Int} : truth (.int i) = some (i != 0) := rfl
@[scoped simp] theorem u3 {xs : List D} : truth (.lst xs) = some !xs.isEmpty := rfl
@[scoped simp] theorem u4 {xs : List D} : truth (.tup xs) = some !xs.isEmpty := rfl
@[scoped simp] theorem u5 {b : Bool} : asB (.bl b) = some b := rfl
@[scoped simp] theorem u6 {xs : List D} : asSeq (.tup xs) = some xs := rfl
@[scoped simp] theorem u7 {xs : List D} : asSeq (.lst xs) = some xs := rfl
@[scoped simp] theorem u8 {xs : List D} : items (.lst xs) = some xs := rfl
@[scoped simp] theorem u9 {xs : List D} : items (.tup xs) = some xs := rfl
@[scoped simp] theorem u10 {ns : List Int} : items (.scr ns) = some (ns.map D.int) := rfl
@[scoped simp] theorem u11 {kvs : Kvs} : items (.dct true kvs) = some (kvs.map fun p => D.tup (p.1.map keyD)) := rfl
@[scoped simp] theorem u12 {d : D} : arD (.inl d) = some d := rfl
@[scoped simp] theorem u13 {k : Nat} : arD (.inr k) = none := rfl
@[scoped simp] theorem u14 {xs : List D} {i : Int} : dIx (.lst xs) (.int i) = L2.atI xs i := rfl
@[scoped simp] theorem u15 {xs : List D} {i : Int} : dIx (.tup xs) (.int i) = L2.atI xs i := rfl
@[scoped simp] theorem u16 {fz : Bool} {kvs : Kvs} {ks : List D} : dIx (.dct fz kvs) (.tup ks) = (keyOf ks).bind fun k => dlook kvs k := rfl
@[scoped simp] theorem u17 {α : Type} {b : Bool} {d : α} : gd b d = if b = true then some d else none := rfl
@[scoped simp] theorem u18 {n : Nat} : szb n = decide (n ≤ 100000) := rfl
@[scoped simp] theorem u19  : isBT .int .non = some false := rfl
@[scoped simp] theorem u20 {b : Bool} : isBT .int (.bl b) = some true := rfl
@[scoped simp] theorem u21 {i : Int} : isBT .int (.int i) = some true := rfl
@[scoped simp] theorem u22 {s : PySem.Str} : isBT .int (.str s) = some false := rfl
@[scoped simp] theorem u23 {xs : List D} : isBT .int (.lst xs) = some false := rfl
@[scoped simp] theorem u24 {xs : List D} : isBT .int (.tup xs) = some false := rfl
@[scoped simp] theorem u25  : isBT .bool .non = some false := rfl
@[scoped simp] theorem u26 {b : Bool} : isBT .bool (.bl b) = some true := rfl
@[scoped simp] theorem u27 {i : Int} : isBT .bool (.int i) = some false := rfl
@[scoped simp] theorem u28 {s : PySem.Str} : isBT .bool (.str s) = some false := rfl
@[scoped simp] theorem u29 {xs : List D} : isBT .bool (.lst xs) = some false := rfl
@[scoped simp] theorem u30 {xs : List D} : isBT .bool (.tup xs) = some false := rfl
@[scoped simp] theorem u31  : isBT .str .non = some false := rfl
@[scoped simp] theorem u32 {b : Bool} : isBT .str (.bl b) = some false := rfl
@[scoped simp] theorem u33 {i : Int} : isBT .str (.int i) = some false := rfl
@[scoped simp] theorem u34 {s : PySem.Str} : isBT .str (.str s) = some true := rfl
@[scoped simp] theorem u35 {xs : List D} : isBT .str (.lst xs) = some false := rfl
@[scoped simp] theorem u36 {xs : List D} : isBT .str (.tup xs) = some false := rfl
@[scoped simp] theorem u37  : isBT .tuple .non = some false := rfl
@[scoped simp] theorem u38 {b : Bool} : isBT .tuple (.bl b) = some false := rfl
@[scoped simp] theorem u39 {i : Int} : isBT .tuple (.int i) = some false := rfl
@[scoped simp] theorem u40 {s : PySem.Str} : isBT .tuple (.str s) = some false := rfl
@[scoped simp] theorem u41 {xs : List D} : isBT .tuple (.lst xs) = some false := rfl
@[scoped simp] theorem u42 {xs : List D} : isBT .tuple (.tup xs) = some true := rfl
@[scoped simp] theorem u43  : isBT .list .non = some false := rfl
@[scoped simp] theorem u44 {b : Bool} : isBT .list (.bl b) = some false := rfl
@[scoped simp] theorem u45 {i : Int} : isBT .list (.int i) = some false := rfl
@[scoped simp] theorem u46 {s : PySem.Str} : isBT .list (.str s) = some false := rfl
@[scoped simp] theorem u47 {xs : List D} : isBT .list (.lst xs) = some true := rfl
@[scoped simp] theorem u48 {xs : List D} : isBT .list (.tup xs) = some false := rfl
@[scoped simp] theorem u49 {ns : List Int} : isBT .int (.gt ns) = some false := rfl
@[scoped simp] theorem u50 {ns : List Int} : isBT .bool (.gt ns) = some false := rfl
@[scoped simp] theorem u51 {ns : List Int} : isBT .str (.gt ns) = some false := rfl
@[scoped simp] theorem u52 {ns : List Int} : isBT .tuple (.gt ns) = some true := rfl
@[scoped simp] theorem u53 {ns : List Int} : isBT .list (.gt ns) = some false := rfl
@[scoped simp] theorem u54  : un .non = .non := rfl
@[scoped simp] theorem u55 {b : Bool} : un (.bl b) = .bl b := rfl
@[scoped simp] theorem u56 {i : Int} : un (.int i) = .int i := rfl
@[scoped simp] theorem u57 {s : PySem.Str} : un (.str s) = .str s := rfl
@[scoped simp] theorem u58 {xs : List D} : un (.lst xs) = .lst xs := rfl
@[scoped simp] theorem u59 {xs : List D} : un (.tup xs) = .tup xs := rfl
@[scoped simp] theorem u60 {b : Bool} {k : Kvs} : un (.dct b k) = .dct b k := rfl
@[scoped simp] theorem u61 {ns : List Int} : un (.gt ns) = .tup (ns.map D.int) := rfl
@[scoped simp] theorem u62 {i j : Int} : dLe (.int i) (.int j) = some (.bl (decide (i ≤ j))) := rfl
@[scoped simp] theorem u63 {x y : D} : dEq x y = gd (fit2 x y) (.bl (deq (un x) (un y))) := rfl
@[scoped simp] theorem u64 {x y : D} : dNe x y = gd (fit2 x y) (.bl (!deq (un x) (un y))) := rfl
@[scoped simp] theorem u65 {x y : D} : fit2 x y = (fit (un x) 64 && fit (un y) 64) := rfl
@[scoped simp] theorem u66 {n : Bool} {x : D} {ys : List D} : dIn n x (.lst ys) = gd (fit x 64 && fit (.lst ys) 64) (.bl (n != ys.any fun y => deq y x)) := rfl
@[scoped simp] theorem u67 {n : Bool} {x : D} {ys : List D} : dIn n x (.tup ys) = gd (fit x 64 && fit (.tup ys) 64) (.bl (n != ys.any fun y => deq y x)) := rfl
@[scoped simp] theorem u68 {n fz : Bool} {x : D} {kvs : Kvs} : dIn n x (.dct fz kvs) = dInK n kvs x := rfl
@[scoped simp] theorem u69 {xs : List D} : gLen [.lst xs] = some (.int xs.length) := rfl
@[scoped simp] theorem u70 {xs : List D} : gLen [.tup xs] = some (.int xs.length) := rfl
@[scoped simp] theorem u71 {xs : List Int} : gLen [.scr xs] = some (.int xs.length) := rfl
@[scoped simp] theorem u72 {xs : List D} : gTuple [.lst xs] = some (.tup xs) := rfl
@[scoped simp] theorem u73 {xs : List D} : gTuple [.tup xs] = some (.tup xs) := rfl
@[scoped simp] theorem u74 {α : Type} {z : α} {mp : Mp} {l : List α} {j : Nat} : inL z mp l j 0 = [] := rfl
@[scoped simp] theorem u75 {α : Type} {z : α} {mp : Mp} {l : List α} {j n : Nat} : inL z mp l j (n + 1) = (match lkI mp j with | some k => l.getD k z | none => z) :: inL z mp l (j + 1) n := rfl
@[scoped simp] theorem u76 {j : Nat} : lkI [] j = none := rfl
@[scoped simp] theorem u77 {j a b : Nat} {r : Mp} : lkI ((a, b) :: r) j = if a = j then some b else lkI r j := rfl
@[scoped simp] theorem u78 {g : Sg} {μ : Mu} : fullB g μ = g.ps.all fun k => match μ[k]? with | some .hid => false | some _ => true | none => false := rfl
@[scoped simp] theorem v_is_number (v m : Int) : f_is_number [] [some (.int v), some (.int m)] [] = some (.ok (.bl (decide (0 ≤ v) && decide (v ≤ m))) []) := by
  by_cases h1 : 0 ≤ v <;> simp [f_is_number, g_is_number, b_is_number, h1]
/-- the steps -/
inductive Stp where
  | tk (l : Int) | lv (l : Int) | wk
deriving DecidableEq
def Stp.d : Stp → D
  | .tk l => .tup [.str "take", .int l]
  | .lv l => .tup [.str "leave", .int l]
  | .wk => .tup [.str "work"]
def lockOk : Stp → Bool
  | .tk l => decide (0 ≤ l) && decide (l ≤ 3)
  | .lv l => decide (0 ≤ l) && decide (l ≤ 3)
  | .wk => true
@[scoped simp] theorem s1 : PySem.PyData.strOk ("take" : PySem.Str) = true := by decide +kernel
@[scoped simp] theorem s2 : PySem.PyData.strOk ("leave" : PySem.Str) = true := by decide +kernel
@[scoped simp] theorem s3 : PySem.PyData.strOk ("work" : PySem.Str) = true := by decide +kernel
@[scoped simp] theorem n12 : (("take" : PySem.Str) == "leave") = false := by decide +kernel
@[scoped simp] theorem n13 : (("take" : PySem.Str) == "work") = false := by decide +kernel
@[scoped simp] theorem n21 : (("leave" : PySem.Str) == "take") = false := by decide +kernel
@[scoped simp] theorem n23 : (("leave" : PySem.Str) == "work") = false := by decide +kernel
@[scoped simp] theorem n31 : (("work" : PySem.Str) == "take") = false := by decide +kernel
@[scoped simp] theorem n32 : (("work" : PySem.Str) == "leave") = false := by decide +kernel
def iDs (ns : List Int) : List D := ns.map D.int
theorem fits_ints (n : Nat) : ∀ ns : List Int, fits (iDs ns) n = true
  | [] => by unfold iDs fits; rfl
  | x :: r => by
    show (fit (.int x) n && fits (iDs r) n) = true
    rw [fits_ints n r]
    unfold fit; rfl
theorem any_ints (l : Int) : ∀ ns : List Int, ((iDs ns).any fun y => deq y (.int l)) = decide (l ∈ ns)
  | [] => by simp [iDs]
  | x :: r => by
    show (deq (.int x) (.int l) || (iDs r).any fun y => deq y (.int l)) = _
    rw [any_ints l r]
    unfold deq
    by_cases h : x = l
    · subst h; simp
    · have h' : ¬ l = x := fun z => h z.symm
      simp [h, h']
theorem ints_len (ns : List Int) : (iDs ns).length = ns.length := List.length_map ..
/-- the turns of a comprehension whose parts say nothing else -/
theorem lcS_pure {A : Am} {p : Mx Bool} {f : Em} {env : Env} (pb : D → Bool) (h : D → D) : ∀ (ds acc : List D) (μ : Mu), (∀ d ∈ ds, ∃ e, A d env = some e ∧ p e μ = some (.ok (pb d) μ) ∧ (pb d = true → f e μ = some (.ok (h d) μ))) → acc.length + ds.length ≤ 100000 →
    lcS A p f env ds acc μ = some (acc ++ (ds.filter pb).map h, μ)
  | [], acc, μ, _, _ => by simp [lcS]
  | d :: r, acc, μ, H, hl => by
    obtain ⟨e, h1, h2, h3⟩ := H d List.mem_cons_self
    rw [lcS_cons]
    unfold lcT
    have hl : acc.length + (r.length + 1) ≤ 100000 := hl
    cases q : pb d with
    | false =>
      rw [q] at h2
      simp only [h1, h2, Option.bind_some]
      rw [lcS_pure pb h r acc μ (fun d hd => H d (List.mem_cons_of_mem _ hd)) (by omega)]
      simp [q]
    | true =>
      rw [q] at h2
      have hd : decide (acc.length < 100000) = true := decide_eq_true (by omega)
      simp only [h1, h2, h3 q, hd, if_true, Option.bind_some]
      rw [lcS_pure pb h r (acc ++ [h d]) μ (fun d hd => H d (List.mem_cons_of_mem _ hd)) (by simp; omega)]
      simp [q]
theorem mLc_pure {vs : List Nat} {it : Mx (List D)} {A : Am} {p : Mx Bool} {f : Em} {env : Env} {μ μ1 : Mu} {ds : List D} (pb : D → Bool) (h : D → D) (hi : it env μ = some (.ok ds μ1)) (hl : ds.length ≤ 100000)
    (H : ∀ d ∈ ds, ∃ e, A d (wipeE env vs) = some e ∧ p e μ1 = some (.ok (pb d) μ1) ∧ (pb d = true → f e μ1 = some (.ok (h d) μ1))) : mLc vs it A p f env μ = some (.ok (.lst ((ds.filter pb).map h)) μ1) := by
  unfold mLc Sh.bnd
  simp only [hi]
  rw [lcS_pure pb h ds [] μ1 H (by simpa using hl)]
  rfl
/-- a loop by its state -/
theorem forS_inv {A : Am} {s : Sm} {ds0 : List D} (P : Nat → Env → Mu → Prop) : ∀ (ds : List D) (i : Nat) (e : Env) (m : Mu), ds0.drop i = ds → (∀ j d e m, ds0[j]? = some d → P j e m → ∃ e1, A d e = some e1 ∧ ∃ e' m', (s e1 m = some (.nx e' m') ∨ s e1 m = some (.ct e' m')) ∧ P (j + 1) e' m') → P i e m →
    i + ds.length = ds0.length → ∃ e' m', forS A s ds e m = some (.nx e' m') ∧ P ds0.length e' m'
  | [], i, e, m, _, _, hp, hl => by
    have : i = ds0.length := by simpa using hl
    subst this
    exact ⟨e, m, rfl, hp⟩
  | d :: r, i, e, m, hd, H, hp, hl => by
    have hi : i < ds0.length := by
      have : i + (r.length + 1) = ds0.length := hl
      omega
    have h0 : ds0[i]? = some d := by
      have := congrArg (fun l : List D => l[0]?) hd
      simpa [List.getElem?_drop] using this
    obtain ⟨e1, h1, e2, m2, h2, h3⟩ := H i d e m h0 hp
    have hd2 : ds0.drop (i + 1) = r := by
      have := congrArg List.tail hd
      simpa [List.tail_drop] using this
    obtain ⟨e3, m3, h4, h5⟩ := forS_inv P r (i + 1) e2 m2 hd2 H h3 (by have : i + (r.length + 1) = ds0.length := hl; omega)
    refine ⟨e3, m3, ?_, h5⟩
    unfold forS
    rcases h2 with h2 | h2 <;> simp only [h1, h2] <;> exact h4
@[scoped simp] theorem v_is_step (s : Stp) : f_is_step [] [some s.d] [] = some (.ok (.bl (lockOk s)) []) := by
  cases s <;> simp [f_is_step, g_is_step, b_is_step, Stp.d, lockOk, v_is_number]
/-- may a step follow -/
def okAt (held : List Int) : Stp → Bool
  | .tk l => decide (l ∉ held)
  | .lv l => decide (l ∈ held)
  | .wk => true
def heldB (held : List Int) : Stp → List Int
  | .tk l => held ++ [l]
  | .lv l => held.filter fun x => x != l
  | .wk => held
@[scoped simp] theorem v_can_follow (held : List Int) (s : Stp) : f_can_follow [] [some (.tup (iDs held)), some s.d] [] = some (.ok (.bl (okAt held s)) []) := by
  cases s <;> simp [f_can_follow, g_can_follow, b_can_follow, Stp.d, okAt, fits_ints, any_ints]
theorem filter_ints (p : Int → Bool) (q : D → Bool) (h : ∀ i, q (.int i) = p i) : ∀ ns : List Int, (iDs ns).filter q = iDs (ns.filter p)
  | [] => rfl
  | x :: r => by
    show ((D.int x) :: iDs r).filter q = _
    rw [List.filter_cons, List.filter_cons, h, filter_ints p q h r]
    cases p x <;> rfl
theorem v_held_behind (held : List Int) (s : Stp) (hl : held.length ≤ 1000) : f_held_behind [] [some (.tup (iDs held)), some s.d] [] = some (.ok (.tup (iDs (heldB held s))) []) := by
  cases s with
  | tk l => 
    have h : (held.length + 1 ≤ 100000) := by omega
    simp [f_held_behind, g_held_behind, b_held_behind, Stp.d, heldB, iDs, h]
  | wk => simp [f_held_behind, g_held_behind, b_held_behind, Stp.d, heldB]
  | lv l =>
    have key := mLc_pure (vs := [2]) (it := mIt (mVar 0)) (A := aName 2) (p := t0_held_behind []) (f := mVar 2) (env := [some (.tup (iDs held)), some (Stp.lv l).d, none]) (μ := []) (μ1 := []) (ds := iDs held)
      (fun d => match d with | .int x => x != l | _ => false) id (by simp) (by rw [ints_len]; omega) (fun d hd => by
        obtain ⟨x, _, rfl⟩ := List.mem_map.mp hd
        simp [wipeE, Stp.d, bne, t0_held_behind])
    have e : (iDs held).filter (fun d => match d with | .int x => x != l | _ => false) = iDs (held.filter fun x => x != l) := filter_ints _ _ (fun _ => rfl) held
    rw [e] at key
    simp only [Stp.d] at key
    simp [f_held_behind, g_held_behind, b_held_behind, Stp.d, heldB, key]
theorem flat_len {α β : Type} (f : α → List β) (k : Nat) : ∀ l : List α, (∀ x ∈ l, (f x).length ≤ k) → (l.flatMap f).length ≤ l.length * k
  | [], _ => by simp
  | x :: l, h => by
    rw [List.flatMap_cons, List.length_append, List.length_cons, Nat.succ_mul]
    have := flat_len f k l fun y hy => h y (List.mem_cons_of_mem _ hy)
    have := h x List.mem_cons_self
    omega
theorem dInts_map : ∀ n : List Int, dInts (n.map D.int) = some n
  | [] => rfl
  | x :: n => by
    show (dInts (D.int x :: n.map D.int)) = _
    simp [dInts, dInts_map n]

end HD
namespace HD
open Sh
variable [Wd]
/-! ### whole programs -/
def hAt (p : List Stp) (j : Nat) : List Int := (p.take j).foldl heldB []
structure Valid (p : List Stp) : Prop where
  len : p.length ≤ 12
  ok : ∀ (j : Nat) (s : Stp), p[j]? = some s → lockOk s = true ∧ okAt (hAt p j) s = true
  fin : hAt p p.length = []
theorem hAt_zero (p : List Stp) : hAt p 0 = [] := rfl
theorem hAt_succ {p : List Stp} {j : Nat} {s : Stp} (h : p[j]? = some s) : hAt p (j + 1) = heldB (hAt p j) s := by
  unfold hAt
  rw [List.take_succ, h, Option.toList_some, List.foldl_append]
  rfl
theorem heldB_len (h : List Int) (s : Stp) : (heldB h s).length ≤ h.length + 1 := by
  cases s with
  | tk l => simp [heldB]
  | lv l => have := List.length_filter_le (fun x => x != l) h; simp only [heldB]; omega
  | wk => simp [heldB]
theorem hAt_len (p : List Stp) : ∀ j, j ≤ p.length → (hAt p j).length ≤ j
  | 0, _ => Nat.le_refl _
  | j + 1, h => by
    have hj : p[j]? = some p[j] := List.getElem?_eq_getElem (by omega)
    rw [hAt_succ hj]
    have := hAt_len p j (by omega)
    have := heldB_len (hAt p j) p[j]
    omega
def encP (p : List Stp) : D := .tup (p.map Stp.d)
theorem enumD_inv {k : Int} {ds : List D} {j : Nat} {d : D} (h : (enumD k 0 ds)[j]? = some d) : ∃ x, ds[j]? = some x ∧ d = .tup [.int (k + (j : Nat)), x] := by
  have hj : j < ds.length := by rw [← enumD_len k ds 0]; exact lt_of_at h
  have hx : ds[j]? = some ds[j] := List.getElem?_eq_getElem hj
  have := enumD_at k ds 0 j _ hx
  rw [h] at this
  exact ⟨_, hx, by rw [Option.some.inj this, Nat.zero_add]⟩
theorem map_at {p : List Stp} {j : Nat} {d : D} (h : (p.map Stp.d)[j]? = some d) : ∃ s, p[j]? = some s ∧ d = s.d := by
  rw [List.getElem?_map] at h
  obtain ⟨s, h1, h2⟩ := Option.map_eq_some_iff.mp h
  exact ⟨s, h1, h2.symm⟩
@[scoped simp] theorem ap_sFor {it : Mx (List D)} {A : Am} {s : Sm} {env : Env} {μ : Mu} : sFor it A s env μ = sBnd it (fun ds => forS A s ds) env μ := rfl
@[scoped simp] theorem ap_aTup {As : List Am} {ds : List D} {env : Env} : aTup As (.tup ds) env = aAll As ds env := rfl
@[scoped simp] theorem ap_aAll {A : Am} {As : List Am} {d : D} {ds : List D} {env : Env} : aAll (A :: As) (d :: ds) env = (A d env).bind (fun e => aAll As ds e) := rfl
@[scoped simp] theorem ap_aNil {env : Env} : aAll [] [] env = some env := rfl
theorem v_check_program {p : List Stp} (v : Valid p) (w : Int) : f_check_program [] [some (encP p), some (.int w)] [] = some (.ok .non []) := by
  have hl := v.len
  have loop : ∃ e' m', forS (aTup [aName 3, aName 4]) (l0_check_program []) (enumD 0 0 (p.map Stp.d)) [some (encP p), some (.int w), some (.tup []), none, none] [] = some (.nx e' m') ∧
      (m' = [] ∧ ∃ x y, e' = [some (encP p), some (.int w), some (.tup (iDs (hAt p (enumD 0 0 (p.map Stp.d)).length))), x, y]) := by
    refine forS_inv (ds0 := enumD 0 0 (p.map Stp.d)) (fun j e m => m = [] ∧ ∃ x y, e = [some (encP p), some (.int w), some (.tup (iDs (hAt p j))), x, y]) _ 0 _ _ rfl ?_ ⟨rfl, none, none, rfl⟩ (by simp)
    rintro j d e m hd ⟨rfl, x, y, rfl⟩
    obtain ⟨z, hz, rfl⟩ := enumD_inv hd
    obtain ⟨s, hs, rfl⟩ := map_at hz
    obtain ⟨h1, h2⟩ := v.ok j s hs
    have hj : j < p.length := lt_of_at hs
    have h3 := hAt_len p j (by omega)
    refine ⟨_, rfl, [some (encP p), some (.int w), some (.tup (iDs (hAt p (j + 1)))), some (.int (0 + (j : Nat))), some s.d], [], .inl ?_, rfl, _, _, rfl⟩
    rw [hAt_succ hs]
    simp [l0_check_program, h1, h2, v_held_behind _ s (show (hAt p j).length ≤ 1000 by omega)]
  obtain ⟨e', m', h1, rfl, x, y, rfl⟩ := loop
  rw [enumD_len, List.length_map, v.fin] at h1
  have hl2 : ¬ (12 < (p.length : Int)) := by omega
  simp only [encP] at h1
  simp [f_check_program, g_check_program, b_check_program, encP, dGt, gEnum, hl2, h1, iDs]

end HD
namespace HD
open Sh
variable [Wd]
theorem noMs_map {α : Type} {f : α → D} (h : ∀ x, noM (f x) = true) : ∀ l : List α, noMs (l.map f) = true
  | [] => rfl
  | x :: l => Bool.and_eq_true_iff.mpr ⟨h x, noMs_map h l⟩
theorem noM_iD (ns : List Int) : noM (.tup (iDs ns)) = true := noMs_map (fun _ => rfl) ns
/-- the held ones behind 0, 1, .. n steps -/
def hRow (p : List Stp) (n : Nat) : List D := (List.range (n + 1)).map fun i => .tup (iDs (hAt p i))
theorem hRow_len (p : List Stp) (n : Nat) : (hRow p n).length = n + 1 := by unfold hRow; simp
theorem hRow_at {p : List Stp} {n i : Nat} (h : i ≤ n) : (hRow p n)[i]? = some (.tup (iDs (hAt p i))) := by
  unfold hRow
  rw [List.getElem?_map, List.getElem?_range (by omega)]
  rfl
theorem hRow_succ (p : List Stp) (n : Nat) : hRow p (n + 1) = hRow p n ++ [.tup (iDs (hAt p (n + 1)))] := by
  unfold hRow
  rw [List.range_succ (n := n + 1), List.map_append]
  rfl
theorem hRow_last (p : List Stp) (n : Nat) : L2.atI (hRow p n) (-1) = some (.tup (iDs (hAt p n))) := by
  unfold L2.atI L2.ixN
  rw [hRow_len]
  have h1 : ¬ (0 : Int) ≤ -1 := by decide
  have h2 : -(((n + 1 : Nat) : Int)) ≤ -1 := by omega
  rw [if_neg h1, if_pos h2, Option.bind_some, show (-1 + ((n + 1 : Nat) : Int)).toNat = n by omega]
  exact hRow_at (Nat.le_refl _)
theorem v_all_held {p : List Stp} (hl : p.length ≤ 12) : f_all_held [] [some (encP p)] [.hid, .hid, .hid] = some (.ok (.lst (hRow p p.length)) [.hid, .hid, .hid]) := by
  have loop : ∃ e' m', forS (aName 2) (l0_all_held []) (p.map Stp.d) [some (encP p), none, none] [.hid, .hid, .lst (hRow p 0)] = some (.nx e' m') ∧
      (m' = [.hid, .hid, .lst (hRow p (p.map Stp.d).length)] ∧ ∃ x, e' = [some (encP p), none, x]) := by
    refine forS_inv (ds0 := p.map Stp.d) (fun j e m => m = [.hid, .hid, .lst (hRow p j)] ∧ ∃ x, e = [some (encP p), none, x]) _ 0 _ _ rfl ?_ ⟨rfl, none, rfl⟩ (by simp)
    rintro j d e m hd ⟨rfl, x, rfl⟩
    obtain ⟨s, hs, rfl⟩ := map_at hd
    have hj : j < p.length := lt_of_at hs
    have h3 := hAt_len p j (by omega)
    refine ⟨_, rfl, [some (encP p), none, some s.d], [.hid, .hid, .lst (hRow p (j + 1))], .inl ?_, rfl, _, rfl⟩
    have h4 : j + 1 < 100000 := by omega
    have e1 := hRow_last p j
    rw [hRow_succ, hAt_succ hs]
    simp [l0_all_held, sApp, obL, mView, obD, e1, hRow_len, h4, v_held_behind _ s (show (hAt p j).length ≤ 1000 by omega), noM_iD]
  obtain ⟨e', m', h1, rfl, x, rfl⟩ := loop
  rw [List.length_map] at h1
  have e0 : hRow p 0 = [.tup []] := rfl
  rw [e0] at h1
  simp only [encP] at h1
  simp [f_all_held, g_all_held, b_all_held, encP, sOwn, sMul, fOwn, oLst, fNil, setD, noMs, noM, h1, sFrz, frzD]

end HD
namespace HD
open Sh
variable [Wd]
theorem klook_kput : ∀ (T : Kds) (k k' : L2.Key) (d : D), klook (kput T k d) k' = if k = k' then some d else klook T k'
  | [], k, k', d => by simp [kput, klook]
  | (j, e) :: r, k, k', d => by
    unfold kput
    by_cases q : j = k
    · rw [if_pos q]
      unfold klook
      subst q
      by_cases z : j = k'
      · rw [if_pos z, if_pos z]
      · rw [if_neg z, if_neg z, if_neg z]
    · rw [if_neg q]
      unfold klook
      by_cases z : j = k'
      · rw [if_pos z, if_pos z, if_neg (fun w => q (z.trans w.symm))]
      · rw [if_neg z, if_neg z]; exact klook_kput r k k' d
theorem kput_len : ∀ (T : Kds) (k : L2.Key) (d : D), (kput T k d).length ≤ T.length + 1
  | [], k, d => Nat.le_refl _
  | (j, e) :: r, k, d => by
    unfold kput
    by_cases q : j = k
    · rw [if_pos q]; simp
    · rw [if_neg q]; have := kput_len r k d; simp; omega
/-- the number of the step that took l last, ahead of place j -/
def tkAt (p : List Stp) : Nat → Int → Int
  | 0, _ => 0
  | j + 1, l => if p[j]? = some (.tk l) then ((j : Nat) : Int) + 1 else tkAt p j l
/-- the times of holding that end ahead of place j -/
def fnd (p : List Stp) : Nat → List (Int × Int × Int)
  | 0 => []
  | j + 1 => match p[j]? with
    | some (.lv l) => fnd p j ++ [(l, tkAt p j l, ((j : Nat) : Int))]
    | _ => fnd p j
def e3 (t : Int × Int × Int) : D := .tup [.int t.1, .int t.2.1, .int t.2.2]
theorem fnd_len (p : List Stp) : ∀ j, (fnd p j).length ≤ j
  | 0 => Nat.le_refl _
  | j + 1 => by
    unfold fnd
    have := fnd_len p j
    split
    · simp; omega
    · omega
theorem mem_heldB {h : List Int} {s : Stp} {l : Int} : l ∈ heldB h s ↔ match s with
    | .tk m => l ∈ h ∨ l = m
    | .lv m => l ∈ h ∧ l ≠ m
    | .wk => l ∈ h := by
  cases s <;> simp [heldB]
theorem v_hold_times {p : List Stp} (v : Valid p) : ∃ T, f_hold_times [] [some (encP p)] [.hid, .hid, .hid, .hid] = some (.ok (.lst ((fnd p p.length).map e3)) [.hid, .hid, T, .hid]) := by
  have hl := v.len
  have loop : ∃ e' m', forS (aTup [aName 3, aName 4]) (l0_hold_times []) (enumD 1 0 (p.map Stp.d)) [some (encP p), none, none, none, none] [.hid, .hid, .dk [], .lst []] = some (.nx e' m') ∧
      ((∃ T, m' = [.hid, .hid, .dk T, .lst ((fnd p (enumD 1 0 (p.map Stp.d)).length).map e3)] ∧ T.length ≤ (enumD 1 0 (p.map Stp.d)).length ∧ ∀ l, l ∈ hAt p (enumD 1 0 (p.map Stp.d)).length → klook T (.inl l) = some (.int (tkAt p (enumD 1 0 (p.map Stp.d)).length l))) ∧ ∃ x y, e' = [some (encP p), none, none, x, y]) := by
    refine forS_inv (ds0 := enumD 1 0 (p.map Stp.d)) (fun j e m => (∃ T, m = [.hid, .hid, .dk T, .lst ((fnd p j).map e3)] ∧ T.length ≤ j ∧ ∀ l, l ∈ hAt p j → klook T (.inl l) = some (.int (tkAt p j l))) ∧ ∃ x y, e = [some (encP p), none, none, x, y]) _ 0 _ _ rfl ?_ ⟨⟨[], rfl, Nat.le_refl _, fun l hl => nomatch hl⟩, none, none, rfl⟩ (by simp)
    rintro j d e m hd ⟨⟨T, rfl, hT, hk⟩, x, y, rfl⟩
    obtain ⟨z, hz, rfl⟩ := enumD_inv hd
    obtain ⟨s, hs, rfl⟩ := map_at hz
    obtain ⟨h1, h2⟩ := v.ok j s hs
    have hj : j < p.length := lt_of_at hs
    have hT2 : T.length < 100000 := by omega
    have hF := fnd_len p j
    have hF2 : (fnd p j).length < 100000 := by omega
    cases s with
    | wk =>
      refine ⟨_, rfl, [some (encP p), none, none, some (.int (1 + (j : Nat))), some (Stp.wk).d], [.hid, .hid, .dk T, .lst ((fnd p j).map e3)], .inl ?_, ⟨T, ?_, by omega, fun l hl => ?_⟩, _, _, rfl⟩
      · simp [l0_hold_times, Stp.d]
      · simp [fnd, hs]
      · rw [hAt_succ hs] at hl
        rw [hk l hl]
        simp [tkAt, hs]
    | tk m =>
      refine ⟨_, rfl, [some (encP p), none, none, some (.int (1 + (j : Nat))), some (Stp.tk m).d], [.hid, .hid, .dk (kput T (.inl m) (.int (1 + (j : Nat)))), .lst ((fnd p j).map e3)], .inl ?_, ⟨kput T (.inl m) (.int (1 + (j : Nat))), ?_, ?_, fun l hl => ?_⟩, _, _, rfl⟩
      · simp [l0_hold_times, Stp.d, sPutK, obD', keyI, noM, hT2]
      · simp [fnd, hs]
      · have := kput_len T (.inl m) (.int (1 + (j : Nat))); omega
      · rw [klook_kput]
        by_cases q : m = l
        · subst q
          rw [if_pos rfl]
          simp [tkAt, hs, Int.add_comm]
        · have q' : ¬ (Sum.inl m : L2.Key) = Sum.inl l := fun z => q (Sum.inl.inj z)
          rw [if_neg q']
          rw [hAt_succ hs, mem_heldB] at hl
          rcases hl with hl | hl
          · rw [hk l hl]
            simp [tkAt, hs, q]
          · exact (q hl.symm).elim
    | lv m =>
      have hm : m ∈ hAt p j := by simpa [okAt] using h2
      refine ⟨_, rfl, [some (encP p), none, none, some (.int (1 + (j : Nat))), some (Stp.lv m).d], [.hid, .hid, .dk T, .lst ((fnd p j).map e3 ++ [e3 (m, tkAt p j m, ((j : Nat) : Int))])], .inl ?_, ⟨T, ?_, by omega, fun l hl => ?_⟩, _, _, rfl⟩
      · have e1 : (1 : Int) + (j : Nat) - 1 = (j : Nat) := by omega
        simp [l0_hold_times, Stp.d, sApp, obL, mGetK, obD', keyI, hk m hm, dSub, noM, noMs, hF2, e3, e1]
      · simp [fnd, hs]
      · rw [hAt_succ hs, mem_heldB] at hl
        rw [hk l hl.1]
        have : ¬ Stp.lv m = Stp.tk l := by simp
        simp [tkAt, hs]
  obtain ⟨e', m', h1, ⟨T, rfl, _, _⟩, x, y, rfl⟩ := loop
  rw [enumD_len, List.length_map] at h1
  refine ⟨.dk T, ?_⟩
  simp only [encP] at h1
  simp [f_hold_times, g_hold_times, b_hold_times, encP, sOwnK, sOwn, sMul, fOwn, oLst, fNil, setD, noMs, gEnum, h1, sFrz, frzD]

end HD
namespace HD
open Sh
variable [Wd]
/-! ### pairs -/
theorem x1 : (("Pair" : PySem.Str) = "Pair") = True := eq_self _
@[scoped simp] theorem x2 : ¬ ("_one" : PySem.Str) = "_other" := by decide +kernel
@[scoped simp] theorem x3 : ¬ ("_other" : PySem.Str) = "_one" := by decide +kernel
@[scoped simp] theorem x4 : (("_one" : PySem.Str) == "_other") = false := by decide +kernel
@[scoped simp] theorem x5 : (("_other" : PySem.Str) == "_one") = false := by decide +kernel
theorem noM_d (s : Stp) : noM s.d = true := by cases s <;> rfl
@[scoped simp] theorem noM_encP (p : List Stp) : noM (encP p) = true := noMs_map noM_d p
def pairD (p q : List Stp) : D := .ins "Pair" [("_one", encP p), ("_other", encP q)]
theorem v_ini {p q : List Stp} (vp : Valid p) (vq : Valid q) : f_iniPair [] [none, some (encP p), some (encP q)] [.hid, .ins "Pair" []] = some (.ok .non [.hid, .ins "Pair" [("_one", encP p), ("_other", encP q)]]) := by
  simp [f_iniPair, g_iniPair, gIni, b_iniPair, v_check_program vp, v_check_program vq, sFldS, obI, putD]
theorem v_make {p q : List Stp} (vp : Valid p) (vq : Valid q) {l : Mx (List D)} {env : Env} {μ μ' : Mu} (h : l env μ = some (.ok [encP p, encP q] μ')) : mMake "Pair" 3 (f_iniPair []) l env μ = some (.ok (pairD p q) μ') := by
  unfold mMake
  rw [ap_bnd, h]
  simp [v_ini vp vq, made, pairD]
@[scoped simp] theorem v_one (p q : List Stp) : fldD "Pair" "_one" (pairD p q) = some (encP p) := by simp [fldD, pairD, List.lookup]
@[scoped simp] theorem v_other (p q : List Stp) : fldD "Pair" "_other" (pairD p q) = some (encP q) := by simp [fldD, pairD, List.lookup]
/-! ### a comprehension of two fors -/
theorem lc2S_pure {A : Am} {p : Mx Bool} {it1 : Mx (List D)} {vs1 : List Nat} {A1 : Am} {p1 : Mx Bool} {f : Em} {env : Env} (E : D → Env) (ds1 : List D) (pb : D → D → Bool) (h : D → D → D) (B : Nat) : ∀ (ds acc : List D) (μ : Mu),
    (∀ d ∈ ds, A d env = some (E d) ∧ p (E d) μ = some (.ok true μ) ∧ it1 (E d) μ = some (.ok ds1 μ) ∧ ∀ d1 ∈ ds1, ∃ e, A1 d1 (wipeE (E d) vs1) = some e ∧ p1 e μ = some (.ok (pb d d1) μ) ∧ (pb d d1 = true → f e μ = some (.ok (h d d1) μ))) →
    acc.length + ds.length * ds1.length ≤ 100000 → lc2S A p it1 vs1 A1 p1 f env ds acc μ = some (acc ++ ds.flatMap fun d => (ds1.filter (pb d)).map (h d), μ)
  | [], acc, μ, _, _ => by simp [lc2S]
  | d :: r, acc, μ, H, hl => by
    obtain ⟨h1, h2, h3, h4⟩ := H d List.mem_cons_self
    have hl2 : acc.length + (r.length * ds1.length + ds1.length) ≤ 100000 := by
      have : (d :: r).length * ds1.length = r.length * ds1.length + ds1.length := by rw [List.length_cons, Nat.succ_mul]
      omega
    have hf : (ds1.filter (pb d)).length ≤ ds1.length := List.length_filter_le _ _
    unfold lc2S
    simp only [h1, h2, h3]
    rw [lcS_pure (pb d) (h d) ds1 acc μ h4 (by omega)]
    simp only [Option.bind_some]
    rw [lc2S_pure E ds1 pb h B r _ μ (fun d hd => H d (List.mem_cons_of_mem _ hd)) (by rw [List.length_append, List.length_map]; omega)]
    simp

end HD
namespace HD
open Sh
variable [Wd]
theorem hold_few {p : List Stp} (v : Valid p) : ∀ j, j ≤ p.length → 2 * (fnd p j).length + (hAt p j).length ≤ j
  | 0, _ => Nat.le_refl _
  | j + 1, hj => by
    have ih := hold_few v j (by omega)
    have hs : p[j]? = some p[j] := List.getElem?_eq_getElem (by omega)
    obtain ⟨h1, h2⟩ := v.ok j _ hs
    rw [hAt_succ hs]
    unfold fnd
    rw [hs]
    generalize p[j] = s at *
    cases s with
    | tk l => simp only [heldB, List.length_append, List.length_singleton]; omega
    | wk => simp only [heldB]; omega
    | lv l =>
      have hm : l ∈ hAt p j := by simpa [okAt] using h2
      have hlt : ((hAt p j).filter fun x => x != l).length < (hAt p j).length := by
        refine Nat.lt_of_le_of_ne (List.length_filter_le _ _) fun e => ?_
        have := List.length_filter_eq_length_iff.mp e l hm
        simp at this
      simp only [heldB, List.length_append, List.length_singleton]
      omega
theorem fnd_six {p : List Stp} (v : Valid p) : (fnd p p.length).length ≤ 6 := by
  have := hold_few v p.length (Nat.le_refl _)
  have := v.len
  omega
/-! ### blocks -/
def rowsL (p q : List Stp) : List (List Int) := (fnd p p.length).flatMap fun t => ((fnd q q.length).filter fun u => u.1 == t.1).map fun u => [t.1, t.2.1, t.2.2, u.2.1, u.2.2]
theorem tkAt_bd (p : List Stp) (l : Int) : ∀ j, 0 ≤ tkAt p j l ∧ tkAt p j l ≤ j
  | 0 => by simp [tkAt]
  | j + 1 => by
    unfold tkAt
    have := tkAt_bd p l j
    split
    · omega
    · omega
theorem fnd_bd {p : List Stp} (v : Valid p) : ∀ j, j ≤ p.length → ∀ t ∈ fnd p j, (0 ≤ t.1 ∧ t.1 ≤ 3) ∧ (0 ≤ t.2.1 ∧ t.2.1 ≤ 12) ∧ (0 ≤ t.2.2 ∧ t.2.2 ≤ 12)
  | 0, _, t, h => nomatch h
  | j + 1, hj, t, h => by
    have hl := v.len
    have ih := fnd_bd v j (by omega)
    have hs : p[j]? = some p[j] := List.getElem?_eq_getElem (by omega)
    obtain ⟨h1, h2⟩ := v.ok j _ hs
    unfold fnd at h
    rw [hs] at h
    generalize p[j] = s at *
    cases s with
    | tk l => exact ih t h
    | wk => exact ih t h
    | lv l =>
      rcases List.mem_append.mp h with h | h
      · exact ih t h
      · rw [List.mem_singleton.mp h]
        have := tkAt_bd p l j
        have : 0 ≤ l ∧ l ≤ 3 := by simpa [lockOk] using h1
        refine ⟨this, ?_, ?_⟩ <;> simp only <;> omega
theorem okT_rows {p q : List Stp} (vp : Valid p) (vq : Valid q) : ∀ r ∈ rowsL p q, r.length = 5 ∧ okT 5 r = true := by
  intro r hr
  obtain ⟨t, ht, hr⟩ := List.mem_flatMap.mp hr
  obtain ⟨u, hu, rfl⟩ := List.mem_map.mp hr
  have b1 := fnd_bd vp _ (Nat.le_refl _) t ht
  have b2 := fnd_bd vq _ (Nat.le_refl _) u (List.mem_filter.mp hu).1
  refine ⟨rfl, ?_⟩
  have c : cB = 1099511627776 := rfl
  simp [okT, c]
  omega
theorem rows_few {p q : List Stp} (vp : Valid p) (vq : Valid q) : (rowsL p q).length ≤ 36 := by
  have h1 := fnd_six vp
  have h2 := fnd_six vq
  have := flat_len (fun t : Int × Int × Int => ((fnd q q.length).filter fun u => u.1 == t.1).map fun u => [t.1, t.2.1, t.2.2, u.2.1, u.2.2]) 6 (fnd p p.length) fun x hx => by
    rw [List.length_map]
    exact Nat.le_trans (List.length_filter_le _ _) h2
  have h3 : (fnd p p.length).length * 6 ≤ 6 * 6 := Nat.mul_le_mul_right 6 h1
  exact Nat.le_trans this h3
theorem dTups_map : ∀ L : List (List Int), dTups (L.map tupI) = some L
  | [] => rfl
  | n :: L => by
    show dTups (tupI n :: L.map tupI) = _
    simp [dTups, tupI, dInts_map n]
    exact dTups_map L
theorem gSort_rows {L : List (List Int)} {k : Nat} (h : ∀ r ∈ L, r.length = k ∧ okT k r = true) (hk : 1 ≤ k) (hl : L.length < 64) : gSort [.lst (L.map tupI)] = some (.lst ((sortK (TS.code cB) L).map tupI)) := by
  cases L with
  | nil => rfl
  | cons n L =>
    have e1 : dInts ((n :: L).map tupI) = none := rfl
    have hn := (h n List.mem_cons_self).1
    have c : (decide (1 ≤ n.length) && (n :: L).all (okT n.length) && decide ((n :: L).length < 64)) = true := by
      rw [hn]
      have h2 : (n :: L).all (okT k) = true := List.all_eq_true.mpr fun r hr => (h r hr).2
      rw [h2, decide_eq_true hk, decide_eq_true hl]
      rfl
    show (match dInts ((n :: L).map tupI) with
      | some ns => some (D.lst ((sortK id ns).map D.int))
      | none => match dTups ((n :: L).map tupI) with
        | some [] => none
        | some (n :: ns) => if (decide (1 ≤ n.length) && (n :: ns).all (okT n.length) && decide ((n :: ns).length < 64)) = true then some (.lst ((sortK (TS.code cB) (n :: ns)).map tupI)) else none
        | none => none) = _
    rw [e1, dTups_map]
    simp only
    rw [if_pos c]
theorem v_blocks {p q : List Stp} (vp : Valid p) (vq : Valid q) : f_blocks [] [some (pairD p q)] [] = some (.ok (.lst ((sortK (TS.code cB) (rowsL p q)).map tupI)) []) := by
  obtain ⟨T1, h1⟩ := v_hold_times vp
  obtain ⟨T2, h2⟩ := v_hold_times vq
  have six1 := fnd_six vp
  have six2 := fnd_six vq
  have key : lc2S (aTup [aName 1, aName 2, aName 3]) pYes (i0_blocks []) [4, 5, 6] (aTup [aName 4, aName 5, aName 6]) (t0_blocks []) (e0_blocks []) (wipeE [some (pairD p q), none, none, none, none, none, none] [1, 2, 3, 4, 5, 6]) ((fnd p p.length).map e3) [] [] =
      some ((rowsL p q).map tupI, []) := by
    have := lc2S_pure (A := aTup [aName 1, aName 2, aName 3]) (p := pYes) (it1 := i0_blocks []) (vs1 := [4, 5, 6]) (A1 := aTup [aName 4, aName 5, aName 6]) (p1 := t0_blocks []) (f := e0_blocks []) (env := wipeE [some (pairD p q), none, none, none, none, none, none] [1, 2, 3, 4, 5, 6])
      (fun d => match d with | .tup [a, b, c] => [some (pairD p q), some a, some b, some c, none, none, none] | _ => []) ((fnd q q.length).map e3)
      (fun d d1 => match d, d1 with | .tup (.int a :: _), .tup (.int b :: _) => b == a | _, _ => false)
      (fun d d1 => match d, d1 with | .tup [a, b, c], .tup [_, e, f] => .tup [a, b, c, e, f] | _, _ => .non) 0 ((fnd p p.length).map e3) [] [] (fun d hd => by
        obtain ⟨t, ht, rfl⟩ := List.mem_map.mp hd
        refine ⟨by simp [e3, wipeE], rfl, by simp [i0_blocks, e3, h2], fun d1 hd1 => ?_⟩
        obtain ⟨u, hu, rfl⟩ := List.mem_map.mp hd1
        refine ⟨[some (pairD p q), some (.int t.1), some (.int t.2.1), some (.int t.2.2), some (.int u.1), some (.int u.2.1), some (.int u.2.2)], by simp [e3, wipeE], by simp [t0_blocks, e3], fun _ => by simp [e0_blocks, e3]⟩)
      (by
        simp only [List.length_map, List.length_nil, Nat.zero_add]
        have : (fnd p p.length).length * (fnd q q.length).length ≤ 6 * 6 := Nat.mul_le_mul six1 six2
        omega)
    rw [this, List.nil_append]
    congr 2
    unfold rowsL
    rw [List.flatMap_map, List.map_flatMap]
    congr 1
    funext t
    rw [List.filter_map, List.map_map, List.map_map]
    rfl
  have hg := gSort_rows (okT_rows vp vq) (by omega) (Nat.lt_of_le_of_lt (rows_few vp vq) (by omega))
  simp [f_blocks, g_blocks, b_blocks, mLc2, h1, key, hg]

end HD
namespace HD
open Sh
variable [Wd]
/-! ### parts, one by one -/
theorem atI_of {α : Type} {l : List α} {i : Int} {x : α} (h0 : 0 ≤ i) (h : l[i.toNat]? = some x) : L2.atI l i = some x := by
  have hl := lt_of_at h
  unfold L2.atI L2.ixN
  rw [if_pos h0, if_pos (by omega), Option.bind_some]
  exact h
theorem rng_len (lo : Int) (n : Nat) : (rng lo n).length = n := by unfold rng; simp
theorem rngE {lo : Int} {n j : Nat} {d : D} (h : (rng lo n)[j]? = some d) : j < n ∧ d = .int (lo + (j : Int)) := by
  have hj := lt_of_at h
  rw [rng_len] at hj
  unfold rng at h
  rw [List.getElem?_map, List.getElem?_range hj] at h
  exact ⟨hj, (Option.some.inj h).symm⟩
/-- a loop over a range, by its state -/
theorem rng_inv {A : Am} {s : Sm} {n : Nat} (P : Nat → Env → Mu → Prop) (e0 : Env) (m0 : Mu) (h0 : P 0 e0 m0) (h : ∀ j e m, j < n → P j e m → ∃ e1, A (.int (j : Nat)) e = some e1 ∧ ∃ e' m', s e1 m = some (.nx e' m') ∧ P (j + 1) e' m') :
    ∃ e' m', forS A s (rng 0 n) e0 m0 = some (.nx e' m') ∧ P n e' m' := by
  have := forS_inv (A := A) (s := s) (ds0 := rng 0 n) P (rng 0 n) 0 e0 m0 rfl (fun j d e m hd hp => by
    obtain ⟨hj, rfl⟩ := rngE hd
    rw [Int.zero_add]
    obtain ⟨e1, h1, e', m', h2, h3⟩ := h j e m hj hp
    exact ⟨e1, h1, e', m', .inl h2, h3⟩) h0 (by rw [Nat.zero_add])
  rwa [rng_len] at this
theorem gRng_ok (n : Nat) (h : n < 100000) : gRng1 [.int (n : Int)] = some (rng 0 n) := by
  have h2 : (-100000 : Int) < n ∧ (n : Int) < 100000 := by omega
  simp [gRng1, h2]
theorem asg_at {f : Em} {i : Nat} {env : Env} {μ μ' : Mu} {d : D} (h : f env μ = some (.ok d μ')) : sAsg f (aName i) env μ = some (.nx (env.set i (some d)) μ') := by
  rw [ap_sAsg, ap_sBnd, h]; rfl
theorem seq_at {s t : Sm} {env env' : Env} {μ μ' : Mu} (h : s env μ = some (.nx env' μ')) : sSeq s t env μ = t env' μ' := by rw [ap_sSeq, h]
theorem if_no {p : Mx Bool} {s t : Sm} {env : Env} {μ μ' : Mu} (h : p env μ = some (.ok false μ')) : sIf p s t env μ = t env μ' := by rw [ap_sIf, ap_sBnd, h]; rfl
theorem for_at {it : Mx (List D)} {A : Am} {s : Sm} {env : Env} {μ μ' : Mu} {ds : List D} (h : it env μ = some (.ok ds μ')) : sFor it A s env μ = forS A s ds env μ' := by rw [ap_sFor, ap_sBnd, h]
theorem asg2_at {f : Em} {i j : Nat} {env : Env} {μ μ' : Mu} {d e : D} (h : f env μ = some (.ok (.tup [d, e]) μ')) : sAsg f (aTup [aName i, aName j]) env μ = some (.nx ((env.set i (some d)).set j (some e)) μ') := by
  rw [ap_sAsg, ap_sBnd, h]; rfl
theorem dlook_cons {r : Kvs} {j k : List L2.Key} {e : D} : dlook ((j, e) :: r) k = if j = k then some e else dlook r k := rfl
theorem dput_cons {r : Kvs} {j k : List L2.Key} {e d : D} : dput ((j, e) :: r) k d = if j = k then (j, d) :: r else (j, e) :: dput r k d := rfl
theorem dlook_put : ∀ (T : Kvs) (k k' : List L2.Key) (d : D), dlook (dput T k d) k' = if k = k' then some d else dlook T k'
  | [], k, k', d => rfl
  | (j, e) :: r, k, k', d => by
    rw [dput_cons, dlook_cons]
    by_cases h : j = k
    · subst h
      rw [if_pos rfl, dlook_cons]
      by_cases h2 : j = k'
      · rw [if_pos h2, if_pos h2]
      · rw [if_neg h2, if_neg h2, if_neg h2]
    · rw [if_neg h, dlook_cons, dlook_put r k k' d]
      by_cases h2 : j = k'
      · subst h2
        rw [if_pos rfl, if_neg (fun z => h z.symm), if_pos rfl]
      · rw [if_neg h2, if_neg h2]
theorem bin_at {op : D → D → Option D} {f g : Em} {env : Env} {μ μ1 μ2 : Mu} {a b c : D} (h1 : f env μ = some (.ok a μ1)) (h2 : g env μ1 = some (.ok b μ2)) (h3 : op a b = some c) : mBin op f g env μ = some (.ok c μ2) := by
  rw [ap_mBin, ap_bnd, h1]
  simp only
  rw [ap_bnd, h2]
  simp only
  rw [ap_lift, h3]
theorem it_at {f : Em} {env : Env} {μ μ1 : Mu} {d : D} {ds : List D} (h1 : f env μ = some (.ok d μ1)) (h2 : items d = some ds) : mIt f env μ = some (.ok ds μ1) := by
  rw [ap_mIt, ap_bnd, h1]
  simp only
  rw [ap_lift, h2]
theorem bnd_at {α β : Type} {f : Mx α} {g : α → Mx β} {env : Env} {μ μ1 : Mu} {a : α} (h1 : f env μ = some (.ok a μ1)) : bnd f g env μ = g a env μ1 := by rw [ap_bnd, h1]
theorem test_at {f : Em} {env : Env} {μ μ1 : Mu} {b : Bool} (h1 : f env μ = some (.ok (.bl b) μ1)) : mTest f env μ = some (.ok b μ1) := by
  rw [ap_mTest, ap_bnd, h1]; rfl
theorem tru_at {f : Em} {env : Env} {μ μ1 : Mu} {d : D} {b : Bool} (h1 : f env μ = some (.ok d μ1)) (h2 : truth d = some b) : mTru f env μ = some (.ok b μ1) := by
  rw [ap_mTru, ap_bnd, h1]
  simp only
  rw [ap_lift, h2]
theorem call_at {g : List D → Option D} {l : Mx (List D)} {env : Env} {μ μ1 : Mu} {ds : List D} {d : D} (h1 : l env μ = some (.ok ds μ1)) (h2 : g ds = some d) : mCall g l env μ = some (.ok d μ1) := by
  rw [ap_mCall, ap_bnd, h1]
  simp only
  rw [ap_lift, h2]
theorem ret_at {f : Em} {env : Env} {μ μ1 : Mu} {d : D} (h1 : f env μ = some (.ok d μ1)) : sRet f env μ = some (.rt d env μ1) := by
  rw [ap_sRet, ap_sBnd, h1]
theorem fn0_at {g : Sg} {n np : Nat} {fm : Fm} {l : Mx (List Ar)} {env : Env} {μ μ1 μ2 : Mu} {ds : List D} {d : D} (h1 : l env μ = some (.ok (ds.map Sum.inl) μ1)) (h2 : ds.length = np) (h3 : fm (ds.map some) (List.replicate n .hid) = some (.ok d μ2)) : mFn g n np [] (noErr fm) l env μ = some (.ok d μ1) := by
  have e : inL Ob.hid [] μ1 0 n = List.replicate n .hid := by
    have : ∀ (n j : Nat), inL Ob.hid [] μ1 j n = List.replicate n .hid := fun n => by
      induction n with
      | zero => intro j; rfl
      | succ n ih => intro j; show Ob.hid :: inL Ob.hid [] μ1 (j + 1) n = _; rw [ih]; rfl
    exact this n 0
  have e2 : (ds.map Sum.inl : List Ar).map arD = ds.map some := by rw [List.map_map]; rfl
  rw [mFn0, h1]
  simp only [List.length_map, h2, if_true, e, e2, h3]
theorem fn_run {g : Sg} {N : Nat} {body : Sm} {args : List (Option D)} {μ μ' : Mu} {d : D} {env : Env} (hf : fullB g μ = true) (h : body (args ++ List.replicate (N - args.length) none) μ = some (.rt d env μ')) : fnG g N body args μ = some (.ok d μ') := by
  unfold fnG fnS
  rw [if_pos hf, h]
theorem dput_len : ∀ (T : Kvs) (k : List L2.Key) (d : D), (dput T k d).length ≤ T.length + 1
  | [], _, _ => Nat.le_refl _
  | (j, e) :: r, k, d => by
    unfold dput
    split
    · simp
    · have := dput_len r k d
      simp only [List.length_cons]; omega
theorem view_at {α : Type} {chk : α → Bool} {k i : Nat} {f : Mx α} {env : Env} {μ μ' : Mu} {o : Ob} {d0 : D} {d : α} (h0 : μ[k]? = some o) (h1 : obD o = some d0) (h2 : f (env.set i (some d0)) (μ.set k .hid) = some (.ok d μ')) (h3 : chk d = true) (h4 : k < μ'.length) : mView chk k i f env μ = some (.ok d (μ'.set k o)) := by
  have e : (chk d && decide (k < μ'.length)) = true := by rw [h3, decide_eq_true h4]; rfl
  unfold mView
  simp only [h0, h1, h2, e, if_true]
theorem if_yes {p : Mx Bool} {s t : Sm} {env : Env} {μ μ' : Mu} (h : p env μ = some (.ok true μ')) : sIf p s t env μ = s env μ' := by rw [ap_sIf, ap_sBnd, h]; rfl
theorem take_succ' {α : Type} {l : List α} {t : Nat} {x : α} (h : l[t]? = some x) : l.take (t + 1) = l.take t ++ [x] := by rw [List.take_succ, h]; rfl
theorem one_at {f : Em} {env : Env} {μ μ' : Mu} {d : D} (h : f env μ = some (.ok d μ')) : mCons f mNil env μ = some (.ok [d] μ') := by
  rw [ap_mCons]
  exact (bnd_at h).trans rfl
theorem plus_one {f : Em} {env : Env} {μ μ' : Mu} {n : Nat} (h : f env μ = some (.ok (.int (n : Int)) μ')) (hn : n < 1000) : (mRng gRng1 (mCons (mBin dAdd f (Sh.ret (.int 1))) mNil)) env μ = some (.ok (rng 0 (n + 1)) μ') := by
  have e := gRng_ok (n + 1) (by omega)
  have b := bin_at (op := dAdd) (c := .int ((n + 1 : Nat) : Int)) (g := Sh.ret (.int 1)) (b := .int 1) (μ2 := μ') h rfl rfl
  rw [ap_mRng]
  refine (bnd_at (one_at b)).trans ?_
  rw [ap_lift, e]
theorem len_at {f : Em} {env : Env} {μ μ' : Mu} {d : D} {n : Int} (h : f env μ = some (.ok d μ')) (hg : gLen [d] = some (.int n)) : mCall gLen (mCons f mNil) env μ = some (.ok (.int n) μ') := by
  exact call_at (one_at h) hg
theorem lcS_state {β : Type} {A : Am} {p : Mx Bool} {f : Em} {env : Env} (b : β → D) (pb : β → Bool) (h : β → D) (P : Mu → Prop) : ∀ (L : List β) (acc : List D) (μ : Mu), (∀ x ∈ L, ∀ μ, P μ → ∃ e μ', A (b x) env = some e ∧ p e μ = some (.ok (pb x) μ') ∧ f e μ' = some (.ok (h x) μ') ∧ P μ') → acc.length + L.length ≤ 100000 → P μ →
    ∃ μ', lcS A p f env (L.map b) acc μ = some (acc ++ (L.filter pb).map h, μ') ∧ P μ'
  | [], acc, μ, _, _, hp => ⟨μ, by simp [lcS], hp⟩
  | x :: r, acc, μ, H, hl, hp => by
    obtain ⟨e, μ1, h1, h2, h3, h4⟩ := H x List.mem_cons_self μ hp
    have hl : acc.length + (r.length + 1) ≤ 100000 := hl
    rw [List.map_cons, lcS_cons]
    unfold lcT
    cases q : pb x with
    | false =>
      rw [q] at h2
      simp only [h1, h2, Option.bind_some]
      obtain ⟨μ', g1, g2⟩ := lcS_state b pb h P r acc μ1 (fun y hy => H y (List.mem_cons_of_mem _ hy)) (by omega) h4
      exact ⟨μ', by rw [g1]; simp [q], g2⟩
    | true =>
      rw [q] at h2
      have hd : decide (acc.length < 100000) = true := decide_eq_true (by omega)
      simp only [h1, h2, h3, hd, if_true, Option.bind_some]
      obtain ⟨μ', g1, g2⟩ := lcS_state b pb h P r (acc ++ [h x]) μ1 (fun y hy => H y (List.mem_cons_of_mem _ hy)) (by simp; omega) h4
      exact ⟨μ', by rw [g1]; simp [q], g2⟩
theorem nodup_len {α : Type} [DecidableEq α] : ∀ (l m : List α), l.Nodup → (∀ x ∈ l, x ∈ m) → l.length ≤ m.length
  | [], _, _, _ => Nat.zero_le _
  | x :: l, m, nd, h => by
    obtain ⟨n1, n2⟩ := List.nodup_cons.mp nd
    have hx := h x List.mem_cons_self
    have := nodup_len l (m.erase x) n2 fun y hy => by
      have hne : y ≠ x := fun e => n1 (by rw [← e]; exact hy)
      exact (List.mem_erase_of_ne hne).mpr (h y (List.mem_cons_of_mem _ hy))
    rw [List.length_erase_of_mem hx] at this
    have hpos : 0 < m.length := List.length_pos_of_mem hx
    rw [List.length_cons]
    omega
theorem mem_put : ∀ {T : Kvs} {k : List L2.Key} {d : D} {z : List L2.Key × D}, z ∈ dput T k d → z = (k, d) ∨ z ∈ T
  | [], k, d, z, h => by
    have : z = (k, d) := by simpa [dput] using h
    exact .inl this
  | (j, e) :: r, k, d, z, h => by
    rw [dput_cons] at h
    by_cases q : j = k
    · rw [if_pos q] at h
      rcases List.mem_cons.mp h with w | w
      · exact .inl (by rw [w, q])
      · exact .inr (List.mem_cons_of_mem _ w)
    · rw [if_neg q] at h
      rcases List.mem_cons.mp h with w | w
      · exact .inr (by rw [w]; exact List.mem_cons_self)
      · rcases mem_put w with w | w
        · exact .inl w
        · exact .inr (List.mem_cons_of_mem _ w)
theorem mem_look : ∀ {T : Kvs} {k : List L2.Key} {d : D}, dlook T k = some d → (k, d) ∈ T
  | (j, e) :: r, k, d, h => by
    rw [dlook_cons] at h
    by_cases q : j = k
    · rw [if_pos q] at h; cases h; rw [q]; exact List.mem_cons_self
    · rw [if_neg q] at h; exact List.mem_cons_of_mem _ (mem_look h)
theorem put_at {k : Nat} {fk fv : Em} {env : Env} {μ μ1 : Mu} {v kd : D} {key : List L2.Key} {T : Kvs} (h1 : fv env μ = some (.ok v μ1)) (h2 : μ1[k]? = some (.dct T)) (h3 : fk env μ1 = some (.ok kd μ1)) (h4 : tupKey kd = some key) (h5 : noM v = true) (h6 : T.length < 100000) :
    sPut k fk fv env μ = some (.nx env (μ1.set k (.dct (dput T key v)))) := by
  have hz : decide (T.length < 100000) = true := decide_eq_true h6
  unfold sPut
  rw [ap_sBnd, h1]
  simp only [h2, obK]
  rw [ap_sBnd, h3]
  simp only [h2, obK, h4, h5, hz, Bool.and_self, if_true]
theorem app_at {k : Nat} {f : Em} {env : Env} {μ μ1 : Mu} {o : Ob} {L : List D} {d : D} (h0 : μ[k]? = some (.lst L)) (h1 : f env μ = some (.ok d μ1)) (h2 : μ1[k]? = some (.lst L)) (h3 : noM d = true) (h4 : L.length < 100000) : sApp k f env μ = some (.nx env (μ1.set k (.lst (L ++ [d])))) := by
  have hz : decide (L.length < 100000) = true := decide_eq_true h4
  unfold sApp
  simp only [h0, obL]
  rw [ap_sBnd, h1]
  simp only [h2, obL, h3, hz, Bool.and_self, if_true]
theorem var_at {env : Env} {μ : Mu} {i : Nat} {d : D} (h : env[i]? = some (some d)) : mVar i env μ = some (.ok d μ) := by rw [ap_mVar, h]
theorem atI_nat {α : Type} {l : List α} (w : Nat) : L2.atI l ((w : Nat) : Int) = l[w]? := by
  unfold L2.atI L2.ixN
  rw [if_pos (by omega)]
  by_cases h : w < l.length
  · rw [if_pos (by omega), Option.bind_some]; rfl
  · rw [if_neg (by omega), Option.bind_none, List.getElem?_eq_none (by omega)]
theorem lcS_on {A : Am} {p : Mx Bool} {f : Em} {env : Env} {β : Type} (b : β → D) (pb : β → Bool) (h : β → D) : ∀ (L : List β) (acc : List D) (μ : Mu), (∀ y ∈ L, ∃ e, A (b y) env = some e ∧ p e μ = some (.ok (pb y) μ) ∧ (pb y = true → f e μ = some (.ok (h y) μ))) → acc.length + L.length ≤ 100000 →
    lcS A p f env (L.map b) acc μ = some (acc ++ (L.filter pb).map h, μ)
  | [], acc, μ, _, _ => by simp [lcS]
  | d :: r, acc, μ, H, hl => by
    obtain ⟨e, h1, h2, h3⟩ := H d List.mem_cons_self
    rw [List.map_cons, lcS_cons]
    unfold lcT
    have hl : acc.length + (r.length + 1) ≤ 100000 := hl
    cases q : pb d with
    | false =>
      rw [q] at h2
      simp only [h1, h2, Option.bind_some]
      rw [lcS_on b pb h r acc μ (fun d hd => H d (List.mem_cons_of_mem _ hd)) (by omega)]
      simp [q]
    | true =>
      rw [q] at h2
      have hd : decide (acc.length < 100000) = true := decide_eq_true (by omega)
      simp only [h1, h2, h3 q, hd, if_true, Option.bind_some]
      rw [lcS_on b pb h r (acc ++ [h d]) μ (fun d hd => H d (List.mem_cons_of_mem _ hd)) (by simp; omega)]
      simp [q]
/-- a comprehension over things of a kind -/
theorem mLc_on {vs : List Nat} {it : Mx (List D)} {A : Am} {p : Mx Bool} {f : Em} {env : Env} {μ μ1 : Mu} {β : Type} {L : List β} (b : β → D) (pb : β → Bool) (h : β → D) (hi : it env μ = some (.ok (L.map b) μ1)) (hl : L.length ≤ 100000)
    (H : ∀ y ∈ L, ∃ e, A (b y) (wipeE env vs) = some e ∧ p e μ1 = some (.ok (pb y) μ1) ∧ (pb y = true → f e μ1 = some (.ok (h y) μ1))) : mLc vs it A p f env μ = some (.ok (.lst ((L.filter pb).map h)) μ1) := by
  unfold mLc Sh.bnd
  simp only [hi]
  rw [lcS_on b pb h L [] μ1 H (by simpa using hl)]
  rfl
/-- .. without a test -/
theorem mLc_all {vs : List Nat} {it : Mx (List D)} {A : Am} {f : Em} {env : Env} {μ μ1 : Mu} {β : Type} {L : List β} (b : β → D) (h : β → D) (hi : it env μ = some (.ok (L.map b) μ1)) (hl : L.length ≤ 100000)
    (H : ∀ y ∈ L, ∃ e, A (b y) (wipeE env vs) = some e ∧ f e μ1 = some (.ok (h y) μ1)) : mLc vs it A pYes f env μ = some (.ok (.lst (L.map h)) μ1) := by
  have := mLc_on (p := pYes) b (fun _ => true) h hi hl fun y hy => let ⟨e, h1, h2⟩ := H y hy; ⟨e, h1, rfl, fun _ => h2⟩
  rwa [List.filter_eq_self.mpr fun _ _ => rfl] at this
/-- a loop over things of a kind, by its state -/
theorem forS_on {A : Am} {s : Sm} {β : Type} (b : β → D) {L : List β} (P : Nat → Env → Mu → Prop) (e0 : Env) (m0 : Mu) (h0 : P 0 e0 m0) (h : ∀ j y e m, L[j]? = some y → P j e m → ∃ e1, A (b y) e = some e1 ∧ ∃ e' m', s e1 m = some (.nx e' m') ∧ P (j + 1) e' m') :
    ∃ e' m', forS A s (L.map b) e0 m0 = some (.nx e' m') ∧ P L.length e' m' := by
  have := forS_inv (A := A) (s := s) (ds0 := L.map b) P (L.map b) 0 e0 m0 rfl (fun j d e m hd hp => by
    rw [List.getElem?_map] at hd
    obtain ⟨y, hy, rfl⟩ := Option.map_eq_some_iff.mp hd
    obtain ⟨e1, h1, e', m', h2, h3⟩ := h j y e m hy hp
    exact ⟨e1, h1, e', m', .inl h2, h3⟩) h0 (by rw [Nat.zero_add])
  rwa [List.length_map] at this
/-! slices -/
theorem cut_to {xs : List D} {w : Nat} (h : w ≤ xs.length) : cutD xs none (some (w : Int)) = xs.take w := by
  unfold cutD
  rw [HT.sIx_none, HT.sIx_nat, List.drop_zero, Nat.sub_zero, Nat.min_eq_left h]
theorem cut_from {xs : List D} {w : Nat} (h : w ≤ xs.length) : cutD xs (some (w : Int)) none = xs.drop w := by
  unfold cutD
  rw [HT.sIx_none, HT.sIx_nat, Nat.min_eq_left h]
  exact List.take_of_length_le (by rw [List.length_drop]; omega)
theorem own_at {k i : Nat} {g : Mx Ob} {env : Env} {μ μ1 : Mu} {o : Ob} (h : g env μ = some (.ok o μ1)) (hk : k < μ1.length) (hi : i < env.length) : sOwn k i g env μ = some (.nx (env.set i none) (μ1.set k o)) := by
  have e : fOwn g fNil env μ = some (.ok [.inr o] μ1) := (bnd_at h).trans rfl
  unfold sOwn sMul
  rw [ap_sBnd, e]
  simp [setD, hk, hi]
theorem lst_at {l : Mx (List D)} {env : Env} {μ μ1 : Mu} {ds : List D} (h : l env μ = some (.ok ds μ1)) (hn : noMs ds = true) (hz : ds.length ≤ 100000) : oLst l env μ = some (.ok (.lst ds) μ1) := by
  unfold oLst
  refine (bnd_at h).trans ?_
  rw [ap_lift, hn]
  simp [gd, szb, hz]

end HD
namespace HD
open Sh
variable [Wd]
/-! ### open and barred places -/
def shr (a b : List Int) : Bool := a.any fun l => decide (l ∈ b)
theorem dBls_map (f : Int → Bool) : ∀ ns : List Int, dBls (ns.map fun n => .bl (f n)) = some (ns.map f)
  | [] => rfl
  | n :: ns => by
    show dBls (.bl (f n) :: ns.map fun n => .bl (f n)) = _
    simp [dBls, dBls_map f ns]
theorem v_share_lock (a b : List Int) (hl : a.length ≤ 1000) : f_share_lock [] [some (.tup (iDs a)), some (.tup (iDs b))] [] = some (.ok (.bl (shr a b)) []) := by
  have key := mLc_pure (vs := [2]) (it := mIt (mVar 0)) (A := aName 2) (p := pYes) (f := e0_share_lock []) (env := [some (.tup (iDs a)), some (.tup (iDs b)), none]) (μ := []) (μ1 := []) (ds := iDs a)
    (fun _ => true) (fun d => match d with | .int x => .bl (decide (x ∈ b)) | _ => .non) (by simp) (by rw [ints_len]; omega) (fun d hd => by
      obtain ⟨x, _, rfl⟩ := List.mem_map.mp hd
      refine ⟨[some (.tup (iDs a)), some (.tup (iDs b)), some (.int x)], by simp [wipeE], rfl, fun _ => by simp [e0_share_lock, fits_ints, any_ints]⟩)
  have e : ((iDs a).filter fun _ => true).map (fun d => match d with | .int x => D.bl (decide (x ∈ b)) | _ => .non) = a.map fun x => D.bl (decide (x ∈ b)) := by
    have e0 : (iDs a).filter (fun _ => true) = iDs a := List.filter_eq_self.mpr fun _ _ => rfl
    rw [e0]
    show ((a.map D.int).map _) = _
    rw [List.map_map]
    rfl
  rw [e] at key
  simp [f_share_lock, g_share_lock, b_share_lock, key, gAny, dBls_map, shr, List.any_map]
theorem dput_new : ∀ {T : Kvs} {k : List L2.Key} {d : D}, k ∉ T.map (·.1) → dput T k d = T ++ [(k, d)]
  | [], _, _, _ => rfl
  | (j, e) :: r, k, d, h => by
    rw [List.map_cons, List.mem_cons, not_or] at h
    unfold dput
    rw [if_neg (fun z => h.1 z.symm), dput_new h.2]
    rfl
theorem dlook_some : ∀ {T : Kvs} {k : List L2.Key}, (dlook T k).isSome = true ↔ k ∈ T.map (·.1)
  | [], _ => by simp [dlook]
  | (j, e) :: r, k => by
    unfold dlook
    by_cases q : j = k
    · rw [if_pos q]; simp [q]
    · have q' : ¬ k = j := fun z => q z.symm
      rw [if_neg q, dlook_some]; simp [q']
theorem dlook_at : ∀ {T : Kvs} {k : List L2.Key} {d : D}, (T.map (·.1)).Nodup → (k, d) ∈ T → dlook T k = some d
  | (j, e) :: r, k, d, nd, h => by
    obtain ⟨n1, n2⟩ := List.nodup_cons.mp (show (j :: r.map (·.1)).Nodup from nd)
    unfold dlook
    rcases List.mem_cons.mp h with z | z
    · cases z; rw [if_pos rfl]
    · have : j ≠ k := fun e => n1 (by rw [e]; exact List.mem_map_of_mem (f := (·.1)) z)
      rw [if_neg this]
      exact dlook_at n2 z
/-- a dict comprehension whose keys are new ones: the pairs in their order -/
theorem dcS_new {β : Type} {A : Am} {p : Mx Bool} {fk fv : Em} {env : Env} (b : β → D) (pb : β → Bool) (ky : β → List L2.Key) (vl : β → D) (inj : ∀ x y, ky x = ky y → x = y) : ∀ (L : List β) (acc : Kvs) (μ : Mu), L.Nodup →
    (∀ y ∈ L, ∃ e, A (b y) env = some e ∧ p e μ = some (.ok (pb y) μ) ∧ (pb y = true → ∃ kd, fk e μ = some (.ok kd μ) ∧ tupKey kd = some (ky y) ∧ fv e μ = some (.ok (vl y) μ))) →
    acc.length + L.length ≤ 100000 → (∀ y ∈ L, ky y ∉ acc.map (·.1)) → dcS A p fk fv env (L.map b) acc μ = some (acc ++ (L.filter pb).map (fun y => (ky y, vl y)), μ)
  | [], acc, μ, _, _, _, _ => by simp [dcS]
  | y :: r, acc, μ, nd, H, hl, hn => by
    obtain ⟨e, h1, h2, h3⟩ := H y List.mem_cons_self
    obtain ⟨n1, n2⟩ := List.nodup_cons.mp nd
    have hl : acc.length + (r.length + 1) ≤ 100000 := hl
    rw [List.map_cons]
    unfold dcS dcT
    cases q : pb y with
    | false =>
      rw [q] at h2
      simp only [h1, h2, Option.bind_some]
      rw [dcS_new b pb ky vl inj r acc μ n2 (fun z hz => H z (List.mem_cons_of_mem _ hz)) (by omega) (fun z hz => hn z (List.mem_cons_of_mem _ hz))]
      simp [q]
    | true =>
      rw [q] at h2
      obtain ⟨kd, g1, g2, g3⟩ := h3 q
      have hd : decide (acc.length < 100000) = true := decide_eq_true (by omega)
      simp only [h1, h2, g1, g2, g3, hd, if_true, Option.bind_some]
      rw [dput_new (hn y List.mem_cons_self)]
      rw [dcS_new b pb ky vl inj r _ μ n2 (fun z hz => H z (List.mem_cons_of_mem _ hz)) (by rw [List.length_append]; simp only [List.length_cons, List.length_nil]; omega) (fun z hz => by
        rw [List.map_append, List.mem_append, not_or]
        refine ⟨hn z (List.mem_cons_of_mem _ hz), fun w => ?_⟩
        have w : ky z = ky y := by simpa using w
        exact n1 (by rw [← inj _ _ w]; exact hz))]
      simp [q]
/-- .. of two fors -/
theorem dc2S_new {α β : Type} {A : Am} {p : Mx Bool} {it1 : Mx (List D)} {vs1 : List Nat} {A1 : Am} {p1 : Mx Bool} {fk fv : Em} {env : Env} (a : α → D) (b : β → D) (E : α → Env) (L1 : List β) (pb : α → β → Bool) (ky : α → β → List L2.Key) (vl : α → β → D)
    (S : α → Prop) (n1 : L1.Nodup) (inj : ∀ x y x' y', S x → S x' → ky x y = ky x' y' → x = x' ∧ y = y') : ∀ (L : List α) (acc : Kvs) (μ : Mu), L.Nodup → (∀ x ∈ L, S x) →
    (∀ x ∈ L, A (a x) env = some (E x) ∧ p (E x) μ = some (.ok true μ) ∧ it1 (E x) μ = some (.ok (L1.map b) μ) ∧ ∀ y ∈ L1, ∃ e, A1 (b y) (wipeE (E x) vs1) = some e ∧ p1 e μ = some (.ok (pb x y) μ) ∧ (pb x y = true → ∃ kd, fk e μ = some (.ok kd μ) ∧ tupKey kd = some (ky x y) ∧ fv e μ = some (.ok (vl x y) μ))) →
    acc.length + L.length * L1.length ≤ 100000 → (∀ x ∈ L, ∀ y ∈ L1, ky x y ∉ acc.map (·.1)) →
    dc2S A p it1 vs1 A1 p1 fk fv env (L.map a) acc μ = some (acc ++ L.flatMap fun x => (L1.filter (pb x)).map fun y => (ky x y, vl x y), μ)
  | [], acc, μ, _, _, _, _, _ => by simp [dc2S]
  | x :: r, acc, μ, nd, hS, H, hl, hn => by
    have sx := hS x List.mem_cons_self
    obtain ⟨h1, h2, h3, h4⟩ := H x List.mem_cons_self
    obtain ⟨m1, m2⟩ := List.nodup_cons.mp nd
    have hl2 : acc.length + (r.length * L1.length + L1.length) ≤ 100000 := by
      have : (x :: r).length * L1.length = r.length * L1.length + L1.length := by rw [List.length_cons, Nat.succ_mul]
      omega
    rw [List.map_cons]
    unfold dc2S
    simp only [h1, h2, h3]
    rw [dcS_new b (pb x) (ky x) (vl x) (fun y z e => (inj _ _ _ _ sx sx e).2) L1 acc μ n1 h4 (by omega) (hn x List.mem_cons_self)]
    simp only [Option.bind_some]
    have lf : (L1.filter (pb x)).length ≤ L1.length := List.length_filter_le _ _
    rw [dc2S_new a b E L1 pb ky vl S n1 inj r _ μ m2 (fun z hz => hS z (List.mem_cons_of_mem _ hz)) (fun z hz => H z (List.mem_cons_of_mem _ hz)) (by rw [List.length_append, List.length_map]; omega) (fun z hz y hy => by
      rw [List.map_append, List.mem_append, not_or]
      refine ⟨hn z (List.mem_cons_of_mem _ hz) y hy, fun w => ?_⟩
      rw [List.map_map] at w
      obtain ⟨y', _, e⟩ := List.mem_map.mp w
      have := (inj x y' z y sx (hS z (List.mem_cons_of_mem _ hz)) e).1
      exact m1 (by rw [this]; exact hz))]
    simp
theorem enum_hRow (p : List Stp) (n : Nat) : enumD 0 0 (hRow p n) = (List.range (n + 1)).map fun i => .tup [.int ((i : Nat) : Int), .tup (iDs (hAt p i))] := by
  apply List.ext_getElem?
  intro i
  by_cases hi : i ≤ n
  · rw [enumD_at 0 _ 0 i _ (hRow_at hi), List.getElem?_map, List.getElem?_range (by omega), Nat.zero_add, Int.zero_add]
    rfl
  · rw [List.getElem?_eq_none (by rw [enumD_len, hRow_len]; omega), List.getElem?_eq_none (by rw [List.length_map, List.length_range]; omega)]

/-! ### the grid of some programs -/
abbrev Fnd := List (List Nat × List Int)
def kyN (s : List Nat) : List L2.Key := s.map fun n : Nat => (Sum.inl ((n : Nat) : Int) : L2.Key)
def stD (s : List Nat) : D := .tup (s.map fun n => .int ((n : Nat) : Int))
theorem kyN_inj {s t : List Nat} (h : kyN s = kyN t) : s = t := by
  unfold kyN at h
  refine List.map_inj_right ?_ |>.mp h
  intro a b e
  simp only [Sum.inl.injEq] at e
  omega
theorem keyOf_nats : ∀ s : List Nat, keyOf (s.map fun n => .int ((n : Nat) : Int)) = some (kyN s)
  | [] => rfl
  | n :: s => by
    show (keyOf (s.map fun n => D.int ((n : Nat) : Int))).map (Sum.inl ((n : Nat) : Int) :: ·) = _
    rw [keyOf_nats s]
    rfl
theorem kyN_D (s : List Nat) : (kyN s).map keyD = s.map fun n => .int ((n : Nat) : Int) := by
  unfold kyN
  rw [List.map_map]
  rfl
def fnK (L : Fnd) : Kvs := L.map fun x => (kyN x.1, .tup (iDs x.2))
/-- a further program -/
def joinP (L : Fnd) (p : List Stp) : Fnd := L.flatMap fun x => ((List.range (p.length + 1)).filter fun j => !shr x.2 (hAt p j)).map fun j => (x.1 ++ [j], x.2 ++ hAt p j)
theorem nodup_of_map {α β : Type} {f : α → β} : ∀ {l : List α}, (l.map f).Nodup → l.Nodup
  | [], _ => List.nodup_nil
  | x :: l, h => by
    obtain ⟨h1, h2⟩ := List.nodup_cons.mp (show (f x :: l.map f).Nodup from h)
    exact List.nodup_cons.mpr ⟨fun z => h1 (List.mem_map_of_mem z), nodup_of_map h2⟩
theorem map_inj_of {α β : Type} {f : α → β} : ∀ {l : List α}, (l.map f).Nodup → ∀ {x y : α}, x ∈ l → y ∈ l → f x = f y → x = y
  | a :: l, h, x, y, hx, hy, e => by
    obtain ⟨h1, h2⟩ := List.nodup_cons.mp (show (f a :: l.map f).Nodup from h)
    rcases List.mem_cons.mp hx with e1 | hx
    · rcases List.mem_cons.mp hy with e2 | hy
      · rw [e1, e2]
      · exact (h1 (by rw [← e1, e]; exact List.mem_map_of_mem hy)).elim
    · rcases List.mem_cons.mp hy with e2 | hy
      · exact (h1 (by rw [← e2, ← e]; exact List.mem_map_of_mem hx)).elim
      · exact map_inj_of h2 hx hy e
theorem joinP_len (L : Fnd) (p : List Stp) : (joinP L p).length ≤ L.length * (p.length + 1) := by
  unfold joinP
  refine flat_len _ _ _ fun x _ => ?_
  rw [List.length_map]
  exact Nat.le_trans (List.length_filter_le _ _) (by rw [List.length_range]; omega)
theorem flat_nodupS {α γ : Type} (g : α → List γ) : ∀ L : List α, L.Nodup → (∀ x ∈ L, (g x).Nodup) → (∀ x ∈ L, ∀ y ∈ L, ∀ u, u ∈ g x → u ∈ g y → x = y) → (L.flatMap g).Nodup
  | [], _, _, _ => List.nodup_nil
  | x :: L, h, hg, hk => by
    obtain ⟨h1, h2⟩ := List.nodup_cons.mp h
    rw [List.flatMap_cons, List.nodup_append]
    refine ⟨hg x List.mem_cons_self, flat_nodupS g L h2 (fun y hy => hg y (List.mem_cons_of_mem _ hy)) (fun y hy z hz => hk y (List.mem_cons_of_mem _ hy) z (List.mem_cons_of_mem _ hz)), fun u hu v hv e => ?_⟩
    obtain ⟨y, hy, hv⟩ := List.mem_flatMap.mp hv
    subst e
    exact h1 (by rw [hk x List.mem_cons_self y (List.mem_cons_of_mem _ hy) u hu hv]; exact hy)
theorem joinP_nodup {L : Fnd} (p : List Stp) (h : (L.map (·.1)).Nodup) : ((joinP L p).map (·.1)).Nodup := by
  unfold joinP
  rw [List.map_flatMap]
  refine flat_nodupS _ _ (nodup_of_map h) (fun x _ => ?_) (fun x hx y hy u hu hv => ?_)
  · rw [List.map_map]
    have h : ((List.range (p.length + 1)).filter fun j => !shr x.2 (hAt p j)).Nodup := List.nodup_range.filter _
    rw [List.nodup_iff_pairwise_ne] at h ⊢
    rw [List.pairwise_map]
    exact h.imp fun {a b} hab e => hab (by simpa using e)
  · rw [List.map_map] at hu hv
    obtain ⟨j, _, rfl⟩ := List.mem_map.mp hu
    obtain ⟨k, _, e⟩ := List.mem_map.mp hv
    have e : y.1 ++ [k] = x.1 ++ [j] := e
    exact map_inj_of h hx hy (List.append_inj_left' e rfl).symm
theorem v_joined_by {L : Fnd} {p : List Stp} (hp : p.length ≤ 12) (hL : (L.map (·.1)).Nodup) (few : L.length * (p.length + 1) ≤ 100000) (hh : ∀ x ∈ L, x.1.length ≤ 10 ∧ x.2.length ≤ 100) :
    f_joined_by [] [some (.dct true (fnK L)), some (encP p)] [] = some (.ok (.dct true (fnK (joinP L p))) []) := by
  have h1 := v_all_held hp
  have key : dc2S (aTup [aName 3, aName 4]) pYes (i0_joined_by []) [5, 6] (aTup [aName 5, aName 6]) (t0_joined_by []) (e0_joined_by []) (e1_joined_by []) (wipeE [some (.dct true (fnK L)), some (encP p), some (.lst (hRow p p.length)), none, none, none, none] [3, 4, 5, 6]) (L.map fun x => D.tup [stD x.1, .tup (iDs x.2)]) [] [] = some (fnK (joinP L p), []) := by
    refine (dc2S_new (fun x : List Nat × List Int => D.tup [stD x.1, .tup (iDs x.2)]) (fun j : Nat => D.tup [.int ((j : Nat) : Int), .tup (iDs (hAt p j))])
      (fun x => [some (.dct true (fnK L)), some (encP p), some (.lst (hRow p p.length)), some (stD x.1), some (.tup (iDs x.2)), none, none]) (List.range (p.length + 1)) (fun x j => !shr x.2 (hAt p j)) (fun x j => kyN (x.1 ++ [j])) (fun x j => .tup (iDs (x.2 ++ hAt p j))) (fun x => x ∈ L) List.nodup_range (fun x j y k hx hy e => ?i) _ _ _ (nodup_of_map hL) (fun _ h => h) (fun x hx => ?a) ?b (fun _ _ _ _ => by simp)).trans ?c
    case i =>
      have e := kyN_inj e
      have e2 := List.append_inj' e rfl
      exact ⟨map_inj_of hL hx hy e2.1, by simpa using e2.2⟩
    case c =>
      unfold joinP fnK
      rw [List.nil_append, List.map_flatMap]
      congr 3
      funext x
      rw [List.map_map]
      rfl
    case a =>
      obtain ⟨l1, l2⟩ := hh x hx
      refine ⟨by simp [wipeE], rfl, by simp [i0_joined_by, gEnum, enum_hRow], fun j hj => ?_⟩
      rw [List.mem_range] at hj
      have hl := hAt_len p j (by omega)
      refine ⟨[some (.dct true (fnK L)), some (encP p), some (.lst (hRow p p.length)), some (stD x.1), some (.tup (iDs x.2)), some (.int (j : Nat)), some (.tup (iDs (hAt p j)))], by simp [wipeE], ?_, fun _ => ⟨stD (x.1 ++ [j]), ?_, ?_, ?_⟩⟩
      · simp [t0_joined_by, v_share_lock _ _ (show x.2.length ≤ 1000 by omega)]
      · have z : x.1.length + 1 ≤ 100000 := by omega
        simp [e0_joined_by, stD, z]
      · exact keyOf_nats _
      · have z : x.2.length + (hAt p j).length ≤ 100000 := by omega
        simp [e1_joined_by, ints_len, z, iDs]
    case b =>
      rw [List.length_range, List.length_nil]
      omega
  have its : (fnK L).map (fun z => D.tup [D.tup (z.1.map keyD), z.2]) = L.map fun x => D.tup [stD x.1, .tup (iDs x.2)] := by
    unfold fnK
    rw [List.map_map]
    refine List.map_congr_left fun x _ => ?_
    show D.tup [D.tup ((kyN x.1).map keyD), _] = _
    rw [kyN_D]
    rfl
  simp only [wipeE, List.set_cons_succ, List.set_cons_zero] at key
  simp [f_joined_by, g_joined_by, b_joined_by, mDc2, h1, key, mItems, gItems, wipeE, its]

end HD
namespace HD
open Sh
variable [Wd]
/-! ### moves -/
def stp (s : List Nat) (w : Nat) : List Nat := s.set w (s.getD w 0 + 1)
theorem v_step_to {s : List Nat} {w : Nat} (hw : w < s.length) (hl : s.length ≤ 1000) : f_step_to [] [some (stD s), some (.int (w : Int))] [] = some (.ok (stD (stp s w)) []) := by
  have l0 : (s.map fun n => D.int ((n : Nat) : Int)).length = s.length := List.length_map ..
  have e1 : (mSl (mVar 0) none (some (mVar 1))) [some (stD s), some (.int (w : Int))] [] = some (.ok (.tup ((s.map fun n => D.int ((n : Nat) : Int)).take w)) []) := by
    simp [stD, dSl, asI, cut_to (xs := s.map fun n => D.int ((n : Nat) : Int)) (w := w) (by omega)]
  have e2 : (mBin dAdd (mBin dIx (mVar 0) (mVar 1)) (Sh.ret (.int 1))) [some (stD s), some (.int (w : Int))] [] = some (.ok (.int ((s.getD w 0 + 1 : Nat) : Int)) []) := by
    refine bin_at (bin_at rfl rfl (c := .int ((s.getD w 0 : Nat) : Int)) ?_) rfl rfl
    show L2.atI (s.map fun n => D.int ((n : Nat) : Int)) (w : Int) = _
    rw [atI_nat, List.getElem?_map, List.getElem?_eq_getElem hw, List.getD_eq_getElem?_getD, List.getElem?_eq_getElem hw]
    rfl
  have e3 : (mSl (mVar 0) (some (mBin dAdd (mVar 1) (Sh.ret (.int 1)))) none) [some (stD s), some (.int (w : Int))] [] = some (.ok (.tup ((s.map fun n => D.int ((n : Nat) : Int)).drop (w + 1))) []) := by
    have z := cut_from (xs := s.map fun n => D.int ((n : Nat) : Int)) (w := w + 1) (by omega)
    have z2 : ((w + 1 : Nat) : Int) = (w : Int) + 1 := by omega
    rw [z2] at z
    simp [stD, dSl, asI, dAdd, z]
  have e4 : stD (stp s w) = .tup ((s.map fun n => D.int ((n : Nat) : Int)).take w ++ D.int ((s.getD w 0 + 1 : Nat) : Int) :: (s.map fun n => D.int ((n : Nat) : Int)).drop (w + 1)) := by
    unfold stD stp
    rw [List.set_eq_take_append_cons_drop, if_pos hw, List.map_append, List.map_cons, List.map_take, List.map_drop]
  have lz : (((s.map fun n => D.int ((n : Nat) : Int)).take w).length + (((s.map fun n => D.int ((n : Nat) : Int)).drop (w + 1)).length + 1)) ≤ 100000 := by
    rw [List.length_take, List.length_drop]; omega
  rw [e4]
  unfold f_step_to b_step_to
  refine fn_run rfl (ret_at ?_)
  rw [ap_mTup, ap_bnd, ap_mStar, ap_bnd]
  simp only [List.length_cons, List.length_nil, List.replicate, List.append_nil, Nat.sub_self]
  rw [e1]
  simp only [asSeq, ap_bnd, ap_lift, ap_mCons, e2, ap_mStar, e3, ap_mNil, ap_ret, List.append_nil, List.length_append, List.length_cons, szb, gd, decide_eq_true lz, if_true]
/-- the moves from a standing to those of S -/
def mvN (S : List (List Nat)) (s : List Nat) : List (Nat × List Nat) := ((List.range s.length).map fun w => (w, stp s w)).filter fun m => decide (m.2 ∈ S)
def mvnD (m : Nat × List Nat) : D := .tup [.int (m.1 : Nat), stD m.2]
theorem fnK_look {L : Fnd} {s : List Nat} : (dlook (fnK L) (kyN s)).isSome = decide (s ∈ L.map (·.1)) := by
  rw [Bool.eq_iff_iff, dlook_some, decide_eq_true_eq]
  unfold fnK
  rw [List.map_map]
  constructor
  · intro h
    obtain ⟨x, hx, e⟩ := List.mem_map.mp h
    have e := kyN_inj (s := x.1) (t := s) e
    exact List.mem_map.mpr ⟨x, hx, e⟩
  · intro h
    obtain ⟨x, hx, e⟩ := List.mem_map.mp h
    exact List.mem_map.mpr ⟨x, hx, by rw [← e]; rfl⟩
theorem v_moves_from (L : Fnd) {s : List Nat} (hl : s.length ≤ 1000) : f_moves_from [] [some (.dct true (fnK L)), some (stD s)] [] = some (.ok (.lst ((mvN (L.map (·.1)) s).map mvnD)) []) := by
  have it1 : (mRng gRng1 (mCons (mCall gLen (mCons (mVar 1) mNil)) mNil)) [some (.dct true (fnK L)), some (stD s), none, none, none] [] = some (.ok ((List.range s.length).map fun w => D.int ((w : Nat) : Int)) []) := by
    rw [ap_mRng]
    refine (bnd_at (one_at (len_at (d := stD s) (n := (s.length : Int)) rfl (by unfold stD; simp [gLen])))).trans ?_
    rw [ap_lift, gRng_ok _ (by omega)]
    unfold rng
    simp
  have k1 := mLc_all (vs := [3]) (A := aName 3) (f := e0_moves_from []) (env := [some (.dct true (fnK L)), some (stD s), none, none, none]) (fun w : Nat => D.int ((w : Nat) : Int)) (fun w => mvnD (w, stp s w)) it1 (by rw [List.length_range]; omega) fun w hw => by
    rw [List.mem_range] at hw
    refine ⟨_, rfl, ?_⟩
    have := v_step_to hw hl
    simp [e0_moves_from, wipeE, this, mvnD]
  have it2 : (mIt (mVar 2)) [some (.dct true (fnK L)), some (stD s), some (.lst ((List.range s.length).map fun w => mvnD (w, stp s w))), none, none] [] = some (.ok (((List.range s.length).map fun w => (w, stp s w)).map mvnD) []) := by
    refine it_at rfl ?_
    rw [List.map_map]
    rfl
  have k2 := mLc_on (vs := [3, 4]) (A := aTup [aName 3, aName 4]) (p := t0_moves_from []) (f := e1_moves_from []) mvnD (fun m => decide (m.2 ∈ L.map (·.1))) mvnD it2 (by simp; omega) fun m hm => by
    refine ⟨_, rfl, ?_, fun _ => ?_⟩
    · rw [← fnK_look]
      simp [t0_moves_from, wipeE, mvnD, dInK, stD, keyOf_nats]
    · simp [e1_moves_from, wipeE, mvnD]
  unfold f_moves_from b_moves_from
  refine fn_run rfl ((seq_at (asg_at k1)).trans (ret_at ?_))
  exact k2
/-- the grid: each standing with its moves -/
def gridN (S : List (List Nat)) : Kvs := S.map fun s => (kyN s, .lst ((mvN S s).map mvnD))
def openF (ps : List (List Stp)) : Fnd := ps.foldl joinP [([], [])]
def openN (ps : List (List Stp)) : List (List Nat) := (openF ps).map (·.1)
theorem openF_snoc (ps : List (List Stp)) (p : List Stp) : openF (ps ++ [p]) = joinP (openF ps) p := by unfold openF; rw [List.foldl_append]; rfl
theorem openF_nodup : ∀ ps : List (List Stp), ((openF ps).map (·.1)).Nodup := by
  intro ps
  unfold openF
  have : ∀ (ps : List (List Stp)) (L : Fnd), (L.map (·.1)).Nodup → ((ps.foldl joinP L).map (·.1)).Nodup := fun ps => by
    induction ps with
    | nil => intro L h; exact h
    | cons p ps ih => intro L h; exact ih _ (joinP_nodup p h)
  exact this ps _ (by simp)
theorem openF_lens : ∀ (ps : List (List Stp)), (∀ p ∈ ps, p.length ≤ 12) → ∀ x ∈ openF ps, x.1.length = ps.length ∧ x.2.length ≤ ps.length * 12 := by
  intro ps
  unfold openF
  have : ∀ (ps : List (List Stp)) (L : Fnd) (n : Nat), (∀ p ∈ ps, p.length ≤ 12) → (∀ x ∈ L, x.1.length = n ∧ x.2.length ≤ n * 12) → ∀ x ∈ ps.foldl joinP L, x.1.length = n + ps.length ∧ x.2.length ≤ (n + ps.length) * 12 := fun ps => by
    induction ps with
    | nil => intro L n _ h x hx; exact h x hx
    | cons p ps ih =>
      intro L n hp h x hx
      have := ih (joinP L p) (n + 1) (fun q hq => hp q (List.mem_cons_of_mem _ hq)) (fun y hy => by
        unfold joinP at hy
        obtain ⟨z, hz, hy⟩ := List.mem_flatMap.mp hy
        obtain ⟨j, hj, rfl⟩ := List.mem_map.mp hy
        obtain ⟨h1, h2⟩ := h z hz
        have hj := List.mem_range.mp (List.mem_filter.mp hj).1
        have hl := hAt_len p j (by omega)
        have h12 := hp p List.mem_cons_self
        simp only [List.length_append, List.length_cons, List.length_nil]
        omega) x hx
      simp only [List.length_cons]
      omega
  intro hp x hx
  have := this ps [([], [])] 0 hp (by simp) x hx
  omega
theorem v_open_standings {ps : List (List Stp)} (hp : ∀ p ∈ ps, p.length ≤ 12) (h4 : ps.length ≤ 4) (few : ∀ k p, ps[k]? = some p → (openF (ps.take k)).length * (p.length + 1) ≤ 100000) (fewE : (openF ps).length ≤ 100000) :
    f_open_standings [] [some (.tup (ps.map encP))] [] = some (.ok (.dct true (gridN (openN ps))) []) := by
  have loop := forS_on (A := aName 2) (s := l0_open_standings []) encP (L := ps) (fun k e m => ∃ x2, e = [some (.tup (ps.map encP)), some (.dct true (fnK (openF (ps.take k)))), x2, none] ∧ m = []) [some (.tup (ps.map encP)), some (.dct true (fnK [([], [])])), none, none] [] ⟨none, rfl, rfl⟩ (fun k p e m hk ⟨x2, he, hm⟩ => by
    subst he hm
    refine ⟨_, rfl, _, _, asg_at (fn0_at (ds := [.dct true (fnK (openF (ps.take k))), encP p]) rfl rfl (v_joined_by (hp p (List.mem_of_getElem? hk)) (openF_nodup _) (few k p hk) fun x hx => ?_)), some (encP p), ?_, rfl⟩
    · have := openF_lens (ps.take k) (fun q hq => hp q (List.mem_of_mem_take hq)) x hx
      rw [List.length_take] at this
      have : min k ps.length ≤ 4 := by omega
      omega
    · rw [take_succ' hk, openF_snoc]; rfl)
  obtain ⟨e', m', h1, x2, rfl, rfl⟩ := loop
  rw [List.take_length] at h1
  have its : items (.dct true (fnK (openF ps))) = some ((openN ps).map stD) := by
    show some (((openF ps).map fun x => (kyN x.1, D.tup (iDs x.2))).map fun p => D.tup (p.1.map keyD)) = _
    rw [List.map_map]
    unfold openN
    rw [List.map_map]
    congr 1
    refine List.map_congr_left fun x _ => ?_
    show D.tup ((kyN x.1).map keyD) = _
    rw [kyN_D]
    rfl
  have key2 : dcS (aName 3) pYes (mVar 3) (e0_open_standings []) (wipeE [some (.tup (ps.map encP)), some (.dct true (fnK (openF ps))), x2, none] [3]) ((openN ps).map stD) [] [] = some (gridN (openN ps), []) := by
    have z : (openN ps).length ≤ 100000 := by
      unfold openN
      rw [List.length_map]; exact fewE
    refine (dcS_new (L := openN ps) stD (fun _ => true) kyN (fun s => .lst ((mvN (openN ps) s).map mvnD)) (fun x y e => kyN_inj e) [] [] (openF_nodup ps) (fun s hs => ?a) (by rw [List.length_nil, Nat.zero_add]; exact z) (fun _ _ => by simp)).trans ?c
    case c => rw [List.filter_eq_self.mpr fun _ _ => rfl]; rfl
    case a =>
      refine ⟨_, rfl, rfl, fun _ => ⟨stD s, rfl, keyOf_nats s, ?_⟩⟩
      obtain ⟨x, hx, rfl⟩ := List.mem_map.mp hs
      have := (openF_lens ps hp x hx).1
      exact fn0_at (ds := [.dct true (fnK (openF ps)), stD x.1]) rfl rfl (v_moves_from _ (by omega))
  have b1 : (mIt (mVar 0)) [some (.tup (ps.map encP)), some (.dct true (fnK [([], [])])), none, none] [] = some (.ok (ps.map encP) []) := it_at rfl rfl
  have b2 : (mIt (mVar 1)) [some (.tup (ps.map encP)), some (.dct true (fnK (openF ps))), x2, none] [] = some (.ok ((openN ps).map stD) []) := it_at rfl its
  have b3 : (sAsg (mD1 (mTup mNil) (mTup mNil)) (aName 1)) [some (.tup (ps.map encP)), none, none, none] [] = some (.nx [some (.tup (ps.map encP)), some (.dct true (fnK [([], [])])), none, none] []) := rfl
  have b4 : (mDc1 [3] (mIt (mVar 1)) (aName 3) pYes (mVar 3) (e0_open_standings [])) [some (.tup (ps.map encP)), some (.dct true (fnK (openF ps))), x2, none] [] = some (.ok (.dct true (gridN (openN ps))) []) := by
    unfold mDc1
    rw [bnd_at b2]
    simp only [key2]
  unfold f_open_standings b_open_standings
  exact fn_run rfl ((seq_at b3).trans ((seq_at ((for_at b1).trans h1)).trans (ret_at b4)))

end HD
namespace HD
open Sh
variable [Wd]
abbrev kyP (i j : Nat) : List L2.Key := [.inl (i : Int), .inl (j : Int)]
theorem kyP_inj (i j i' j' : Nat) (h : kyP i j = kyP i' j') : i = i' ∧ j = j' := by
  simp only [kyP, List.cons.injEq, Sum.inl.injEq, and_true] at h
  omega
/-- the open places, ascending -/
def opl (p q : List Stp) : List (Nat × Nat) := (List.range (p.length + 1)).flatMap fun i => ((List.range (q.length + 1)).filter fun j => !shr (hAt p i) (hAt q j)).map fun j => (i, j)
theorem opl_mem {p q : List Stp} {i j : Nat} : (i, j) ∈ opl p q ↔ i ≤ p.length ∧ j ≤ q.length ∧ shr (hAt p i) (hAt q j) = false := by
  unfold opl
  rw [List.mem_flatMap]
  constructor
  · rintro ⟨i', hi, h⟩
    obtain ⟨j', hj, e⟩ := List.mem_map.mp h
    cases e
    obtain ⟨h1, h2⟩ := List.mem_filter.mp hj
    rw [List.mem_range] at hi h1
    exact ⟨by omega, by omega, by simpa using h2⟩
  · rintro ⟨h1, h2, h3⟩
    exact ⟨i, List.mem_range.mpr (by omega), List.mem_map.mpr ⟨j, List.mem_filter.mpr ⟨List.mem_range.mpr (by omega), by simp [h3]⟩, rfl⟩⟩
theorem flat_nodup {α β γ : Type} (g : α → List γ) (k : γ → β) (hg : ∀ x, (g x).Nodup) (hk : ∀ x y u v, u ∈ g x → v ∈ g y → u = v → x = y) : ∀ L : List α, L.Nodup → (L.flatMap g).Nodup
  | [], _ => List.nodup_nil
  | x :: L, h => by
    obtain ⟨h1, h2⟩ := List.nodup_cons.mp h
    rw [List.flatMap_cons, List.nodup_append]
    refine ⟨hg x, flat_nodup g k hg hk L h2, fun u hu v hv e => ?_⟩
    obtain ⟨y, hy, hv⟩ := List.mem_flatMap.mp hv
    exact h1 (by rw [hk x y u v hu hv e]; exact hy)
theorem opl_nodup (p q : List Stp) : (opl p q).Nodup := by
  unfold opl
  refine flat_nodup (β := Nat) _ (fun _ => 0) (fun i => ?_) (fun x y u v hu hv e => ?_) _ List.nodup_range
  · have h : ((List.range (q.length + 1)).filter fun j => !shr (hAt p i) (hAt q j)).Nodup := List.nodup_range.filter _
    rw [List.nodup_iff_pairwise_ne, List.pairwise_map]
    exact h.imp fun {a b} hab e => hab (congrArg Prod.snd e)
  · obtain ⟨j, _, rfl⟩ := List.mem_map.mp hu
    obtain ⟨j', _, rfl⟩ := List.mem_map.mp hv
    exact congrArg Prod.fst e
theorem opl_few {p q : List Stp} (hp : p.length ≤ 12) (hq : q.length ≤ 12) : (opl p q).length ≤ 169 := by
  have := flat_len (fun i : Nat => ((List.range (q.length + 1)).filter fun j => !shr (hAt p i) (hAt q j)).map fun j => (i, j)) 13 (List.range (p.length + 1)) fun x _ => by
    rw [List.length_map]
    exact Nat.le_trans (List.length_filter_le _ _) (by rw [List.length_range]; omega)
  rw [List.length_range] at this
  have : (p.length + 1) * 13 ≤ 13 * 13 := Nat.mul_le_mul_right 13 (by omega)
  unfold opl
  omega
abbrev plD (i j : Int) : D := .tup [.int i, .int j]
def mvs (p q : List Stp) (i j : Nat) : List (Int × Nat × Nat) := [(0, i + 1, j), (1, i, j + 1)].filter fun m => decide ((m.2.1, m.2.2) ∈ opl p q)
def mvD (m : Int × Nat × Nat) : D := .tup [.int m.1, plD m.2.1 m.2.2]
/-- the grid: each open place with its moves -/
def gridK (p q : List Stp) : Kvs := (opl p q).map fun x => (kyP x.1 x.2, .lst ((mvs p q x.1 x.2).map mvD))
theorem openN_two (p q : List Stp) : openN [p, q] = (opl p q).map fun x => [x.1, x.2] := by
  have h1 : joinP [([], [])] p = (List.range (p.length + 1)).map fun i => ([i], hAt p i) := by
    unfold joinP
    rw [List.flatMap_cons, List.flatMap_nil, List.append_nil]
    have e : (List.range (p.length + 1)).filter (fun j => !shr [] (hAt p j)) = List.range (p.length + 1) := List.filter_eq_self.mpr fun _ _ => rfl
    show List.map _ ((List.range (p.length + 1)).filter fun j => !shr [] (hAt p j)) = _
    rw [e]
    rfl
  show (joinP (joinP [([], [])] p) q).map (·.1) = _
  rw [h1]
  unfold joinP opl
  rw [List.flatMap_map, List.map_flatMap, List.map_flatMap]
  congr 1
  funext i
  rw [List.map_map, List.map_map]
  rfl
theorem mvN_two (p q : List Stp) (i j : Nat) : (mvN ((opl p q).map fun x => [x.1, x.2]) [i, j]).map mvnD = (mvs p q i j).map mvD := by
  have e : ((List.range [i, j].length).map fun w => (w, stp [i, j] w)) = ([(0, i + 1, j), (1, i, j + 1)] : List (Int × Nat × Nat)).map fun m => (m.1.toNat, [m.2.1, m.2.2]) := rfl
  have f : ∀ m : Int × Nat × Nat, decide ([m.2.1, m.2.2] ∈ (opl p q).map fun x => [x.1, x.2]) = decide ((m.2.1, m.2.2) ∈ opl p q) := fun m => by
    rw [Bool.eq_iff_iff, decide_eq_true_eq, decide_eq_true_eq, List.mem_map]
    constructor
    · rintro ⟨x, hx, e⟩
      simp only [List.cons.injEq, and_true] at e
      rw [← e.1, ← e.2]; exact hx
    · intro h
      exact ⟨_, h, rfl⟩
  unfold mvN mvs
  rw [e, List.filter_map, List.map_map]
  have g : ((fun m : Nat × List Nat => decide (m.2 ∈ (opl p q).map fun x => [x.1, x.2])) ∘ fun m : Int × Nat × Nat => (m.1.toNat, [m.2.1, m.2.2])) = fun m => decide ((m.2.1, m.2.2) ∈ opl p q) := by
    funext m
    exact f m
  rw [g]
  refine List.map_congr_left fun m hm => ?_
  have hm := (List.mem_filter.mp hm).1
  simp only [List.mem_cons, List.not_mem_nil, or_false] at hm
  rcases hm with rfl | rfl <;> rfl
theorem gridN_two (p q : List Stp) : gridN (openN [p, q]) = gridK p q := by
  rw [openN_two]
  unfold gridN gridK
  rw [List.map_map]
  refine List.map_congr_left fun x _ => ?_
  show (kyN [x.1, x.2], D.lst ((mvN _ [x.1, x.2]).map mvnD)) = _
  rw [mvN_two]
  rfl
theorem openF_one (p : List Stp) : (openF [p]).length ≤ p.length + 1 := by
  have := joinP_len [([], [])] p
  simpa [openF] using this
theorem v_open_places {p q : List Stp} (vp : Valid p) (vq : Valid q) : f_open_places [] [some (pairD p q)] [] = some (.ok (.dct true (gridK p q)) []) := by
  have l1 := vp.len
  have l2 := vq.len
  have o1 := openF_one p
  have o2 := joinP_len (openF [p]) q
  have o2' : (openF [p, q]).length ≤ (openF [p]).length * (q.length + 1) := o2
  have o3 : (openF [p]).length * (q.length + 1) ≤ 13 * 13 := Nat.mul_le_mul (by omega) (by omega)
  have key := v_open_standings (ps := [p, q]) (fun x hx => by
    simp only [List.mem_cons, List.not_mem_nil, or_false] at hx
    rcases hx with rfl | rfl <;> assumption) (show 2 ≤ 4 by decide) (fun k x hk => by
      match k, hk with
      | 0, hk => cases hk; show 1 * (p.length + 1) ≤ _; omega
      | 1, hk => cases hk; show (openF [p]).length * (q.length + 1) ≤ _; omega
      | k + 2, hk => simp at hk) (by omega)
  rw [gridN_two] at key
  unfold f_open_places b_open_places
  exact fn_run rfl (ret_at (fn0_at (ds := [.tup [encP p, encP q]]) (by simp) rfl key))
theorem gridK_keys (p q : List Stp) : (gridK p q).map (·.1) = (opl p q).map fun x => kyP x.1 x.2 := by
  unfold gridK
  rw [List.map_map]
  rfl
theorem grid_look {p q : List Stp} {i j : Nat} : (dlook (gridK p q) (kyP i j)).isSome = decide ((i, j) ∈ opl p q) := by
  rw [Bool.eq_iff_iff, dlook_some, decide_eq_true_eq, gridK_keys]
  constructor
  · intro h
    obtain ⟨x, hx, e⟩ := List.mem_map.mp h
    obtain ⟨rfl, rfl⟩ := kyP_inj _ _ _ _ e
    exact hx
  · intro h
    exact List.mem_map.mpr ⟨(i, j), h, rfl⟩

end HD
namespace HD
open Sh
variable [Wd]
theorem v_is_place {p q : List Stp} (i j : Int) : f_is_place [] [some (pairD p q), some (.tup [.int i, .int j])] [] = some (.ok (.bl ((decide (0 ≤ i) && decide (i ≤ p.length)) && (decide (0 ≤ j) && decide (j ≤ q.length)))) []) := by
  by_cases h : (decide (0 ≤ i) && decide (i ≤ (p.length : Int))) = true
  · have h' := h
    simp only [Bool.and_eq_true, decide_eq_true_eq] at h'
    simp [f_is_place, g_is_place, b_is_place, encP, h'.1, h'.2]
  · have h' : ¬ (0 ≤ i ∧ i ≤ (p.length : Int)) := fun z => h (by simp [z.1, z.2])
    have e : (decide (0 ≤ i) && decide (i ≤ (p.length : Int))) = false := by simpa using h
    simp [f_is_place, g_is_place, b_is_place, encP, e, h']
theorem v_is_barred {p q : List Stp} (vp : Valid p) (vq : Valid q) {i j : Nat} (hi : i ≤ p.length) (hj : j ≤ q.length) : f_is_barred [] [some (pairD p q), some (.tup [.int (i : Nat), .int (j : Nat)])] [] = some (.ok (.bl (shr (hAt p i) (hAt q j))) []) := by
  have z := grid_look (p := p) (q := q) (i := i) (j := j)
  have e : decide ((i, j) ∈ opl p q) = !shr (hAt p i) (hAt q j) := by
    rw [Bool.eq_iff_iff, decide_eq_true_eq, opl_mem]
    simp [hi, hj]
  rw [e] at z
  simp [f_is_barred, g_is_barred, b_is_barred, v_is_place, hi, hj, v_open_places vp vq, dInK, keyOf]
  rw [show (dlook (gridK p q) [Sum.inl (i : Int), Sum.inl (j : Int)]).isNone = !(dlook (gridK p q) (kyP i j)).isSome by simp, z]
  simp

end HD
namespace HD
open Sh
variable [Wd]
/-! ### drawing -/
theorem dm {i j : Int} (h : 0 < j) : dMod (.int i) (.int j) = some (.int (i % j)) := by simp [dMod, h]
theorem dfv {i j : Int} (h : 0 < j) (h2 : j < 1073741824) : dFdiv (.int i) (.int j) = some (.int (i / j)) := by simp [dFdiv, h, h2]
theorem v_mix (ns : List Int) (seed : Int) : ∃ s, mixOut (sSeq b_mix1 b_mix2 (envOf 4 [some (.scr ns), some (.int seed)]) []) = some (s, ns) := by
  have loop : ∃ e' m', forS (aName 3) l0_mix (ns.map D.int) [some (.scr ns), some (.int seed), some (.int seed), none] [] = some (.nx e' m') ∧
      (m' = [] ∧ ∃ s x, e' = [some (.scr ns), some (.int seed), some (.int s), x]) := by
    refine forS_inv (ds0 := ns.map D.int) (fun j e m => m = [] ∧ ∃ s x, e = [some (.scr ns), some (.int seed), some (.int s), x]) _ 0 _ _ rfl ?_ ⟨rfl, seed, none, rfl⟩ (by simp)
    rintro j d e m hd ⟨rfl, s, x, rfl⟩
    rw [List.getElem?_map] at hd
    obtain ⟨n, _, rfl⟩ := Option.map_eq_some_iff.mp hd
    refine ⟨_, rfl, [some (.scr ns), some (.int seed), some (.int ((s * 48271 + n % 2147483629 + 1) % 2147483647)), some (.int n)], [], .inl ?_, rfl, _, some (.int n), rfl⟩
    simp [l0_mix, dMul, dAdd, dMod, gInt]
  obtain ⟨e', m', h1, rfl, s, x, rfl⟩ := loop
  refine ⟨s, ?_⟩
  simp [b_mix1, b_mix2, envOf, h1, mixOut, intAt, scrAt]
theorem iD_set (ns : List Int) (j : Nat) (v : Int) : (iDs ns).set j (.int v) = iDs (ns.set j v) := by unfold iDs; rw [List.map_set]
/-- the modulus -/
def mx (n : Nat) : Int := if ((n : Int) > 1) then (n : Int) else 1
theorem gmx (n : Nat) : gMax [.int 1, .int (n : Int)] = some (.int (mx n)) := rfl
theorem mx_pos (n : Nat) : 0 < mx n := by unfold mx; split <;> omega
theorem mx_le (n : Nat) : mx n ≤ n + 1 := by unfold mx; split <;> omega
theorem mx_is {n : Nat} (h : 0 < n) : mx n = n := by unfold mx; split <;> omega
/-- the cell that a draw reads -/
def cellA (ns : List Int) (i : Int) : Int := (ns ++ [0]).getD (i % mx ns.length).toNat 0
theorem cell_at (ns : List Int) (i : Int) : L2.atI (iDs ns ++ [.int 0]) (i % mx ns.length) = some (.int (cellA ns i)) := by
  have hm := mx_pos ns.length
  have m1 := Int.emod_nonneg i (Int.ne_of_gt hm)
  have m2 := Int.emod_lt_of_pos i hm
  have m3 := mx_le ns.length
  have e : iDs ns ++ [D.int 0] = iDs (ns ++ [0]) := by unfold iDs; rw [List.map_append]; rfl
  unfold cellA
  generalize i % mx ns.length = j at *
  have hj2 : j < ((iDs (ns ++ [0])).length : Int) := by rw [ints_len, List.length_append]; simp only [List.length_cons, List.length_nil]; omega
  rw [e]
  unfold L2.atI L2.ixN
  rw [if_pos m1, if_pos hj2, Option.bind_some]
  rw [ints_len] at hj2
  unfold iDs
  rw [List.getElem?_map, List.getElem?_eq_getElem (by omega), List.getD_eq_getElem?_getD, List.getElem?_eq_getElem (by omega)]
  rfl
theorem cell_nil (i : Int) : cellA [] i = 0 := by
  unfold cellA
  have : mx ([] : List Int).length = 1 := rfl
  rw [this, Int.emod_one]
  rfl
theorem szb_cell {ns : List Int} (h : ns.length ≤ 63) : szb ((iDs ns).length + 1) = true := by rw [ints_len]; exact decide_eq_true (by omega)
theorem pow18 : dPow (.int 10) (.int 18) = some (.int 1000000000000000000) := rfl
/-- a draw below cap -/
theorem v_next (s i : Int) (ns : List Int) (cap : Int) (h0 : 0 < cap) (h1 : cap < 1000000) (hn : ns.length ≤ 63) : ∃ r s' i' ns', (0 ≤ r ∧ r < cap ∧ ns'.length = ns.length) ∧ f_next [] [none, some (.int cap)] [.hl s i, .lst (iDs ns)] = some (.ok (.int r) [.hl s' i', .lst (iDs ns')]) := by
  have hl : (iDs ns).length = ns.length := ints_len ns
  have hc : cap < 1073741824 := by omega
  have hz : ns.length + 1 ≤ 100000 := by omega
  have hx := cell_at ns i
  by_cases big : (1000000000000000000 : Int) ≤ cellA ns i
  · have hpos' : 0 < ns.length := by
      cases ns with
      | nil => rw [cell_nil] at big; omega
      | cons a r => exact Nat.succ_pos _
    have hpos : 0 < (ns.length : Int) := by omega
    have k1 := Int.emod_nonneg i (Int.ne_of_gt hpos)
    have k2 := Int.emod_lt_of_pos i hpos
    have ki : L2.ixN ns.length (i % (ns.length : Int)) = some (i % (ns.length : Int)).toNat := by unfold L2.ixN; rw [if_pos k1, if_pos k2]
    refine ⟨cellA ns i % cap, s, i, ns.set (i % (ns.length : Int)).toNat (cellA ns i / cap), ⟨Int.emod_nonneg _ (by omega), Int.emod_lt_of_pos _ h0, by simp⟩, ?_⟩
    rw [← iD_set]
    simp [f_next, g_next, b_next, mHcat, isHl, obL, mHl, hlB, mHlen, hl, hz, gInt, gmx, dm (mx_pos ns.length), dm h0, hx, pow18, dGe, big, sHcell, dfv h0 hc, asI, dm hpos, ki, noM]
  · refine ⟨((s * 48271 + cellA ns i * 69621 + 11) % 2147483647 / 7) % cap, (s * 48271 + cellA ns i * 69621 + 11) % 2147483647, i + 1, ns, ⟨Int.emod_nonneg _ (by omega), Int.emod_lt_of_pos _ h0, rfl⟩, ?_⟩
    simp [f_next, g_next, b_next, mHcat, isHl, obL, mHl, hlB, mHlen, hl, hz, gInt, gmx, dm (mx_pos ns.length), dm h0, hx, pow18, dGe, big, sHset, asI, setHl, dMul, dAdd, dm (show (0 : Int) < 2147483647 by decide), dfv (show (0 : Int) < 7 by decide) (by decide)]

end HD
namespace HD
open Sh
variable [Wd]
/-! ### calls that draw -/
abbrev mpH : Mp := [(0, 0), (1, 1)]
theorem inL_hid (l : Mu) : ∀ (n j : Nat), 2 ≤ j → inL .hid mpH l j n = List.replicate n .hid
  | 0, _, _ => rfl
  | n + 1, j, h => by
    have e : lkI mpH j = none := by
      unfold mpH lkI
      rw [if_neg (by omega)]
      unfold lkI
      rw [if_neg (by omega)]
      rfl
    show (match lkI mpH j with | some k => l.getD k Ob.hid | none => Ob.hid) :: inL .hid mpH l (j + 1) n = _
    rw [e, inL_hid l n (j + 1) (by omega)]
    rfl
theorem outMu_hid (μc : Mu) : ∀ (r : Mu) (j : Nat), 2 ≤ j → outMu mpH μc j r = r
  | [], _, _ => rfl
  | o :: r, j, h => by
    have e : lkO mpH j = none := by
      unfold mpH lkO
      rw [if_neg (by omega)]
      unfold lkO
      rw [if_neg (by omega)]
      rfl
    show (match lkO mpH j with | some k => μc.getD k .hid | none => o) :: outMu mpH μc (j + 1) r = _
    rw [e, outMu_hid μc r (j + 1) (by omega)]
theorem mFnH {g : Sg} {k np : Nat} {fm : Fm} {l : Mx (List Ar)} {env : Env} {μ rest rc : Mu} {ds : List D} {s i s2 i2 : Int} {c c2 : List D} {d : D} (h : l env μ = some (.ok (.inr 0 :: ds.map Sum.inl) (.hl s i :: .lst c :: rest))) (g0 : g.sl[0]? = some (some 0)) (g1 : g.sl[1]? = some none) (hl : ds.length + 1 = np)
    (hf : fm (none :: ds.map some) (.hl s i :: .lst c :: List.replicate k .hid) = some (.ok d (.hl s2 i2 :: .lst c2 :: rc))) : mFn g (k + 2) np mpH (noErr fm) l env μ = some (.ok d (.hl s2 i2 :: .lst c2 :: rest)) := by
  unfold mFn bnd
  rw [h]
  have a1 : arOk g (Sum.inr 0 :: ds.map Sum.inl) (Ob.hl s i :: Ob.lst c :: rest) mpH = true := by
    simp [arOk, nhB, g0, g1, isOwn]
  have a2 : inL Ob.hid mpH (Ob.hl s i :: Ob.lst c :: rest) 0 (k + 2) = Ob.hl s i :: Ob.lst c :: List.replicate k Ob.hid := by
    show Ob.hl s i :: Ob.lst c :: inL Ob.hid mpH _ 2 k = _
    rw [inL_hid _ k 2 (by omega)]
  have a3 : List.map arD (Sum.inr 0 :: ds.map Sum.inl) = none :: ds.map some := by
    rw [List.map_cons, List.map_map]; rfl
  have a4 : decide ((Sum.inr 0 :: ds.map Sum.inl : List Ar).length = np) = true := decide_eq_true (by simpa using hl)
  simp only [a1, a4, Bool.and_self, if_true, a2, a3, noErr, hf]
  show some (Res.ok d (_ :: _ :: outMu mpH _ 2 rest)) = _
  rw [outMu_hid _ rest 2 (by omega)]
  rfl
theorem ap_rOwn {k : Nat} {l : Mx (List Ar)} {env : Env} {s i : Int} {r : Mu} : rOwn 0 l env (.hl s i :: r) = bnd l (fun x => Sh.ret (.inr 0 :: x)) env (.hl s i :: r) := rfl
/-- one of the things -/
theorem v_pick (s i : Int) (ns : List Int) (hn : ns.length ≤ 63) (ds : List D) (h0 : ds ≠ []) (h1 : ds.length < 1000) : ∃ d s' i' ns', (d ∈ ds ∧ ns'.length = ns.length) ∧ f_pick [] [none, some (.lst ds)] [.hl s i, .lst (iDs ns)] = some (.ok d [.hl s' i', .lst (iDs ns')]) := by
  have hpos : 0 < ds.length := by
    cases ds with
    | nil => exact (h0 rfl).elim
    | cons a r => exact Nat.succ_pos _
  obtain ⟨r, s', i', ns', ⟨r1, r2, r3⟩, e⟩ := v_next s i ns (ds.length : Int) (by omega) (by omega) hn
  have hr : r.toNat < ds.length := by omega
  have c := mFnH (g := g_next []) (k := 0) (np := 2) (fm := f_next []) (l := rOwn 0 (rCons (mCall gLen (mCons (mVar 1) mNil)) rNil)) (env := [none, some (.lst ds)]) (μ := [.hl s i, .lst (iDs ns)]) (rest := []) (ds := [.int ds.length]) (by simp [ap_rOwn]) rfl rfl rfl e
  have ha : L2.atI ds r = some ds[r.toNat] := by
    unfold L2.atI L2.ixN
    rw [if_pos r1, if_pos r2, Option.bind_some, List.getElem?_eq_getElem hr]
  refine ⟨ds[r.toNat], s', i', ns', ⟨List.getElem_mem hr, r3⟩, ?_⟩
  simp [f_pick, g_pick, b_pick, c, ha]

end HD
namespace HD
open Sh
variable [Wd]
/-! ### a drawn program -/
theorem hAt_app {p : List Stp} {s : Stp} {i : Nat} (h : i ≤ p.length) : hAt (p ++ [s]) i = hAt p i := by
  unfold hAt
  rw [List.take_append_of_le_length h]
theorem hAt_end (p : List Stp) (s : Stp) : hAt (p ++ [s]) (p.length + 1) = heldB (hAt p p.length) s := by
  have : (p ++ [s])[p.length]? = some s := by simp
  rw [hAt_succ this, hAt_app (Nat.le_refl _)]
/-- each step may follow -/
def Good (p : List Stp) : Prop := ∀ (j : Nat) (s : Stp), p[j]? = some s → lockOk s = true ∧ okAt (hAt p j) s = true
theorem Good.app {p : List Stp} {s : Stp} (g : Good p) (h1 : lockOk s = true) (h2 : okAt (hAt p p.length) s = true) : Good (p ++ [s]) := by
  intro j t ht
  by_cases q : j < p.length
  · rw [List.getElem?_append_left q] at ht
    rw [hAt_app (by omega)]
    exact g j t ht
  · have hj : j = p.length := by
      have := lt_of_at ht
      rw [List.length_append] at this
      simp only [List.length_cons, List.length_nil] at this
      omega
    subst hj
    have : t = s := by simpa using ht.symm
    subst this
    rw [hAt_app (Nat.le_refl _)]
    exact ⟨h1, h2⟩
theorem cut_filter : ∀ {l : List Int} {i : Nat} {x : Int}, l.Nodup → l[i]? = some x → l.take i ++ l.drop (i + 1) = l.filter fun y => y != x
  | [], i, x, _, h => by simp at h
  | a :: r, 0, x, nd, h => by
    obtain ⟨n1, n2⟩ := List.nodup_cons.mp nd
    have : a = x := by simpa using h
    subst this
    have e : r.filter (fun y => y != a) = r := List.filter_eq_self.mpr fun y hy => by
      have : y ≠ a := fun z => n1 (by rw [← z]; exact hy)
      simp [this]
    simp [e]
  | a :: r, i + 1, x, nd, h => by
    obtain ⟨n1, n2⟩ := List.nodup_cons.mp nd
    have h' : r[i]? = some x := by simpa using h
    have hne : a ≠ x := fun z => n1 (by rw [z]; exact List.mem_of_getElem? h')
    have ih := cut_filter n2 h'
    simp only [List.take_succ_cons, List.drop_succ_cons, List.cons_append, ih]
    simp [hne]
theorem cutN {α : Type} (i : Nat) : HT.sIx i i none = i := rfl
theorem cut_lo (xs : List D) (i : Nat) (h : i ≤ xs.length) : cutD xs none (some (i : Int)) = xs.take i := by
  unfold cutD
  rw [HT.sIx_none, HT.sIx_nat, List.drop_zero, Nat.min_eq_left h, Nat.sub_zero]
theorem cut_hi (xs : List D) (i : Nat) (h : i ≤ xs.length) : cutD xs (some (i : Int)) none = xs.drop i := by
  unfold cutD
  rw [HT.sIx_none, HT.sIx_nat, Nat.min_eq_left h]
  exact List.take_of_length_le (by rw [List.length_drop]; omega)
theorem iD_take (ns : List Int) (i : Nat) : (iDs ns).take i = iDs (ns.take i) := by unfold iDs; rw [List.map_take]
theorem iD_drop (ns : List Int) (i : Nat) : (iDs ns).drop i = iDs (ns.drop i) := by unfold iDs; rw [List.map_drop]
theorem iD_app (a b : List Int) : iDs a ++ iDs b = iDs (a ++ b) := by unfold iDs; rw [List.map_append]
theorem iD_noM (a : List Int) : noMs (iDs a) = true := noMs_map (fun _ => rfl) a
theorem deqs_nil (h : List Int) : deqs (iDs h) [] = decide (h = []) := by cases h <;> simp [iDs]
theorem noMs_steps (p : List Stp) : noMs (p.map Stp.d) = true := noMs_map noM_d p
/-- what stands between the turns -/
structure PSt (goal : Nat) (j : Nat) (p : List Stp) (held : List Int) : Prop where
  len : p.length = j
  good : Good p
  at_ : hAt p j = held
  room : held.length + j ≤ goal
  nd : held.Nodup
  bd : ∀ l ∈ held, 0 ≤ l ∧ l ≤ 3
theorem PSt.tk {goal j : Nat} {p : List Stp} {held : List Int} (s : PSt goal j p held) {l : Int} (h : l ∉ held) (hl : 0 ≤ l ∧ l ≤ 3) (hr : held.length + 1 + (j + 1) ≤ goal) : PSt goal (j + 1) (p ++ [.tk l]) (held ++ [l]) := by
  obtain ⟨rfl, g, a, r, n, b⟩ := s
  refine ⟨by simp, g.app (by simp [lockOk, hl.1, hl.2]) (by rw [a]; simp [okAt, h]), by rw [hAt_end, a]; rfl, by rw [List.length_append]; exact hr, ?_, fun x hx => ?_⟩
  · rw [List.nodup_append]
    exact ⟨n, by simp, fun x hx y hy => by rw [List.mem_singleton.mp hy]; exact fun e => h (e ▸ hx)⟩
  · rcases List.mem_append.mp hx with z | z
    · exact b x z
    · rw [List.mem_singleton.mp z]; exact hl
theorem PSt.lv {goal j : Nat} {p : List Stp} {held : List Int} (s : PSt goal j p held) {i : Nat} {l : Int} (h : held[i]? = some l) (hr : j + 1 ≤ goal + 1) : PSt goal (j + 1) (p ++ [.lv l]) (held.take i ++ held.drop (i + 1)) := by
  obtain ⟨rfl, g, a, r, n, b⟩ := s
  have hm := List.mem_of_getElem? h
  have bl := b l hm
  have hi := lt_of_at h
  have ln : (held.take i ++ held.drop (i + 1)).length + 1 = held.length := by
    rw [List.length_append, List.length_take, List.length_drop]; omega
  have hf := cut_filter n h
  refine ⟨by simp, g.app (by simp [lockOk, bl.1, bl.2]) (by rw [a]; simp [okAt, hm]), ?_, by omega, ?_, fun x hx => ?_⟩
  · rw [hAt_end, a, hf]; rfl
  · rw [hf]; exact n.filter _
  · rw [hf] at hx
    exact b x (List.mem_filter.mp hx).1
theorem PSt.wk {goal j : Nat} {p : List Stp} {held : List Int} (s : PSt goal j p held) (hr : held.length + (j + 1) ≤ goal) : PSt goal (j + 1) (p ++ [.wk]) held := by
  obtain ⟨rfl, g, a, r, n, b⟩ := s
  exact ⟨by simp, g.app rfl rfl, by rw [hAt_end, a]; rfl, hr, n, b⟩

end HD
namespace HD
open Sh
variable [Wd]
abbrev pE (most locks goal works k : Int) (a b c d : Option D) : Env := [none, some (.int most), none, none, some (.int locks), some (.int goal), some (.int works), some (.int k), a, b, c, d]
abbrev pM (s i : Int) (ns : List Int) (p : List Stp) (held : List Int) : Mu := [.hl s i, .lst (iDs ns), .lst (p.map Stp.d), .lst (iDs held)]
section
variable {most locks goal works k kind lock room : Int} {x11 : Option D} {s i : Int} {ns : List Int} {p : List Stp} {held : List Int}
theorem q1_at : q1_program [] (pE most locks goal works k (some (.int kind)) (some (.int lock)) (some (.int room)) x11) (pM s i ns p held) = some (.ok (decide (works ≤ kind) && (decide (lock ∉ held) && decide (1 < room))) (pM s i ns p held)) := by
  by_cases hA : works ≤ kind <;> by_cases hB : lock ∈ held <;> simp [q1_program, mView, obD, dGe, dGt, yesB, fits_ints, any_ints, hA, hB]
theorem q0_at : q0_program [] (pE most locks goal works k (some (.int kind)) (some (.int lock)) (some (.int room)) x11) (pM s i ns p held) = some (.ok (decide (held ≠ []) && (decide (works ≤ kind) || decide (room < 1))) (pM s i ns p held)) := by
  by_cases hA : works ≤ kind <;> by_cases hB : held = [] <;> simp [q0_program, mView, obD, dGe, dLt, yesB, fits_ints, deqs_nil, hA, hB]
theorem b2_at (h1 : p.length < 1000) (h2 : held.length < 1000) : b2_program [] (pE most locks goal works k (some (.int kind)) (some (.int lock)) (some (.int room)) x11) (pM s i ns p held) = some (.nx (pE most locks goal works k (some (.int kind)) (some (.int lock)) (some (.int room)) x11) (pM s i ns (p ++ [.tk lock]) (held ++ [lock]))) := by
  have h3 : p.length < 100000 := by omega
  have h4 : held.length < 100000 := by omega
  simp [b2_program, sApp, obL, noM, noMs, h3, h4, ints_len, iDs, Stp.d]
theorem b1_at (h1 : p.length < 1000) : b1_program [] (pE most locks goal works k (some (.int kind)) (some (.int lock)) (some (.int room)) x11) (pM s i ns p held) = some (.nx (pE most locks goal works k (some (.int kind)) (some (.int lock)) (some (.int room)) x11) (pM s i ns (p ++ [.wk]) held)) := by
  have h3 : p.length < 100000 := by omega
  simp [b1_program, sApp, obL, noM, noMs, h3, Stp.d]
theorem b0_at (h1 : p.length < 1000) (h2 : held.length < 1000) (hne : held ≠ []) (hn : ns.length ≤ 63) : ∃ (s' i' : Int) (ns' : List Int) (j : Nat) (l : Int), ns'.length = ns.length ∧ held[j]? = some l ∧
    b0_program [] (pE most locks goal works k (some (.int kind)) (some (.int lock)) (some (.int room)) x11) (pM s i ns p held) = some (.nx (pE most locks goal works k (some (.int kind)) (some (.int lock)) (some (.int room)) (some (.int j))) (pM s' i' ns' (p ++ [.lv l]) (held.take j ++ held.drop (j + 1)))) := by
  have hpos : 0 < held.length := by
    cases held with
    | nil => exact (hne rfl).elim
    | cons a r => exact Nat.succ_pos _
  obtain ⟨d, s', i', ns', ⟨hd, hns⟩, e⟩ := v_pick s i ns hn [.int 0, .int ((held.length : Int) - 1)] (by simp) (by simp)
  have hj : ∃ j : Nat, j < held.length ∧ d = .int (j : Nat) := by
    rcases List.mem_cons.mp hd with z | z
    · exact ⟨0, hpos, z⟩
    · refine ⟨held.length - 1, by omega, ?_⟩
      rw [List.mem_singleton.mp z]
      congr 1
      omega
  obtain ⟨j, hj, rfl⟩ := hj
  have hl : held[j]? = some held[j] := List.getElem?_eq_getElem hj
  have c := mFnH (g := g_pick []) (k := 0) (np := 2) (fm := f_pick []) (l := rOwn 0 (rCons (mLst (mCons (Sh.ret (.int 0)) (mCons (mBin dSub (mCall gLen (mCons (mVar 3) mNil)) (Sh.ret (.int 1))) mNil))) rNil)) (env := [none, some (.int most), none, some (.lst (iDs held)), some (.int locks), some (.int goal), some (.int works), some (.int k), some (.int kind), some (.int lock), some (.int room), x11])
    (μ := [.hl s i, .lst (iDs ns), .lst (p.map Stp.d), .hid]) (rest := [.lst (p.map Stp.d), .hid]) (ds := [.lst [.int 0, .int ((held.length : Int) - 1)]]) (by simp [ap_rOwn, dSub, ints_len]) rfl rfl rfl e
  have ha : L2.atI (iDs held) (j : Int) = some (.int held[j]) := by
    unfold L2.atI L2.ixN
    rw [if_pos (by omega), if_pos (by rw [ints_len]; omega), Option.bind_some]
    unfold iDs
    rw [List.getElem?_map, Int.toNat_natCast, hl]; rfl
  have h3 : p.length < 100000 := by omega
  have e1 : ((j : Int) + 1) = ((j + 1 : Nat) : Int) := by omega
  have c1 := cut_lo (iDs held) j (by rw [ints_len]; omega)
  have c2 := cut_hi (iDs held) (j + 1) (by rw [ints_len]; omega)
  have c2' : cutD (iDs held) (some ((j : Int) + 1)) none = (iDs held).drop (j + 1) := by rw [e1]; exact c2
  have c3 : szb ((held.take j).length + (held.drop (j + 1)).length) = true := by
    rw [List.length_take, List.length_drop]
    exact decide_eq_true (by omega)
  refine ⟨s', i', ns', j, held[j], hns, hl, ?_⟩
  have t1 : (sAsg (mView noM 3 3 (mFn (g_pick []) 2 2 mpH (noErr (f_pick [])) (rOwn 0 (rCons (mLst (mCons (Sh.ret (.int 0)) (mCons (mBin dSub (mCall gLen (mCons (mVar 3) mNil)) (Sh.ret (.int 1))) mNil))) rNil)))) (aName 11)) (pE most locks goal works k (some (.int kind)) (some (.int lock)) (some (.int room)) x11) (pM s i ns p held) =
      some (.nx (pE most locks goal works k (some (.int kind)) (some (.int lock)) (some (.int room)) (some (.int (j : Nat)))) (pM s' i' ns' p held)) := by
    simp [mView, obD, c, noM]
  have t2 : (sApp 2 (mView noM 3 3 (mTup (mCons (Sh.ret (.str "leave")) (mCons (mBin dIx (mVar 3) (mVar 11)) mNil))))) (pE most locks goal works k (some (.int kind)) (some (.int lock)) (some (.int room)) (some (.int (j : Nat)))) (pM s' i' ns' p held) =
      some (.nx (pE most locks goal works k (some (.int kind)) (some (.int lock)) (some (.int room)) (some (.int (j : Nat)))) (pM s' i' ns' (p ++ [.lv held[j]]) held)) := by
    simp [sApp, obL, mView, obD, ha, noM, noMs, h3, Stp.d]
  have t3 : (sOwn 3 3 (oView 3 3 (oCat (mSl (mVar 3) none (some (mVar 11))) (mSl (mVar 3) (some (mBin dAdd (mVar 11) (Sh.ret (.int 1)))) none)))) (pE most locks goal works k (some (.int kind)) (some (.int lock)) (some (.int room)) (some (.int (j : Nat)))) (pM s' i' ns' (p ++ [.lv held[j]]) held) =
      some (.nx (pE most locks goal works k (some (.int kind)) (some (.int lock)) (some (.int room)) (some (.int (j : Nat)))) [.hl s' i', .lst (iDs ns'), .lst ((p ++ [Stp.lv held[j]]).map Stp.d), .lst (iDs (held.take j) ++ iDs (held.drop (j + 1)))]) := by
    have c3' : (iDs (held.take j)).length + (iDs (held.drop (j + 1))).length ≤ 100000 := by
      rw [ints_len, ints_len]; exact of_decide_eq_true c3
    simp [sOwn, sMul, fOwn, fNil, oView, obD, oCat, catD, dSl, asI, dAdd, c1, c2', iD_take, iD_drop, iD_noM, setD]
    rw [if_pos c3']
    simp [setD]
  show sSeq _ (sSeq _ _) _ _ = _
  simp only [ap_sSeq]
  rw [t1]
  simp only
  rw [t2]
  simp only
  rw [t3, iD_app]
end

end HD
namespace HD
open Sh
variable [Wd]
theorem v_turn {most works : Int} {locks goal j : Nat} {a b c x11 : Option D} {s i : Int} {ns : List Int} {p : List Stp} {held : List Int} (P : PSt goal j p held) (hj : j < goal) (hg : goal ≤ 12) (hk : 1 ≤ locks ∧ locks ≤ 4) (hn : ns.length ≤ 63) :
    ∃ (s' i' : Int) (ns' : List Int) (p' : List Stp) (held' : List Int) (a' b' c' d' : Option D), ns'.length = ns.length ∧ PSt goal (j + 1) p' held' ∧ l0_program [] (pE most locks goal works j a b c x11) (pM s i ns p held) = some (.nx (pE most locks goal works j a' b' c' d') (pM s' i' ns' p' held')) := by
  obtain ⟨r1, s1, i1, ns1, ⟨a1, a2, a3⟩, e1⟩ := v_next s i ns 8 (by omega) (by omega) hn
  obtain ⟨r2, s2, i2, ns2, ⟨b1, b2, b3⟩, e2⟩ := v_next s1 i1 ns1 (locks : Int) (by omega) (by omega) (by omega)
  have hp1 : p.length = j := P.len
  have hr := P.room
  have c1 := mFnH (g := g_next []) (k := 0) (np := 2) (fm := f_next []) (l := rOwn 0 (rCons (Sh.ret (.int 8)) rNil)) (env := pE most locks goal works j a b c x11) (μ := pM s i ns p held) (rest := [.lst (p.map Stp.d), .lst (iDs held)]) (ds := [.int 8]) (by simp [ap_rOwn]) rfl rfl rfl e1
  have c2 := mFnH (g := g_next []) (k := 0) (np := 2) (fm := f_next []) (l := rOwn 0 (rCons (mVar 4) rNil)) (env := pE most locks goal works j a b c x11) (μ := pM s1 i1 ns1 p held) (rest := [.lst (p.map Stp.d), .lst (iDs held)]) (ds := [.int (locks : Int)]) (by simp [ap_rOwn]) rfl rfl rfl e2
  have t0 : (sMul [(8, none), (9, none), (10, none)] (fDat (mFn (g_next []) 2 2 mpH (noErr (f_next [])) (rOwn 0 (rCons (Sh.ret (.int 8)) rNil))) (fDat (mFn (g_next []) 2 2 mpH (noErr (f_next [])) (rOwn 0 (rCons (mVar 4) rNil))) (fDat (mView noM 3 3 (mBin dSub (mBin dSub (mVar 5) (mVar 7)) (mCall gLen (mCons (mVar 3) mNil)))) fNil)))) (pE most locks goal works j a b c x11) (pM s i ns p held) =
      some (.nx (pE most locks goal works j (some (.int r1)) (some (.int r2)) (some (.int ((goal : Int) - (j : Int) - (held.length : Int)))) x11) (pM s2 i2 ns2 p held)) := by
    simp [sMul, fDat, fNil, c1, c2, mView, obD, dSub, ints_len, noM, setD]
  have step : l0_program [] (pE most locks goal works j a b c x11) (pM s i ns p held) = sIf (q1_program []) (b2_program []) (b3_program []) (pE most locks goal works j (some (.int r1)) (some (.int r2)) (some (.int ((goal : Int) - (j : Int) - (held.length : Int)))) x11) (pM s2 i2 ns2 p held) := by
    show sSeq _ _ _ _ = _
    rw [ap_sSeq, t0]
  have hh : held.length < 1000 := by omega
  rw [step, ap_sIf, ap_sBnd, q1_at]
  by_cases h1 : (decide (works ≤ r1) && (decide (r2 ∉ held) && decide (1 < (goal : Int) - (j : Int) - (held.length : Int)))) = true
  · simp only [h1, if_true]
    rw [b2_at (by omega) hh]
    simp only [Bool.and_eq_true, decide_eq_true_eq] at h1
    exact ⟨s2, i2, ns2, p ++ [.tk r2], held ++ [r2], _, _, _, _, by omega, P.tk h1.2.1 (by omega) (by omega), rfl⟩
  · simp only [h1, Bool.false_eq_true, if_false]
    show ∃ (s' i' : Int) (ns' : List Int) (p' : List Stp) (held' : List Int) (a' b' c' d' : Option D), _ ∧ _ ∧ sIf (q0_program []) (b0_program []) (b1_program []) _ _ = _
    rw [ap_sIf, ap_sBnd, q0_at]
    by_cases h2 : (decide (held ≠ []) && (decide (works ≤ r1) || decide ((goal : Int) - (j : Int) - (held.length : Int) < 1))) = true
    · simp only [h2, if_true]
      have hne : held ≠ [] := of_decide_eq_true (Bool.and_eq_true_iff.mp h2).1
      obtain ⟨s3, i3, ns3, k, l, g1, g2, g3⟩ := b0_at (most := most) (locks := locks) (goal := goal) (works := works) (k := j) (kind := r1) (lock := r2) (room := (goal : Int) - (j : Int) - (held.length : Int)) (x11 := x11) (s := s2) (i := i2) (ns := ns2) (p := p) (held := held) (by omega) hh hne (by omega)
      exact ⟨s3, i3, ns3, p ++ [.lv l], _, _, _, _, _, by omega, P.lv g2 (by omega), g3⟩
    · simp only [h2, Bool.false_eq_true, if_false]
      rw [b1_at (by omega)]
      refine ⟨s2, i2, ns2, p ++ [.wk], held, _, _, _, _, by omega, P.wk ?_, rfl⟩
      by_cases hne : held = []
      · subst hne; simp only [List.length_nil]; omega
      · have : ¬ ((goal : Int) - (j : Int) - (held.length : Int) < 1) := fun z => h2 (by simp [hne, z])
        omega
theorem rng_at {lo : Int} {n j : Nat} {d : D} (h : (rng lo n)[j]? = some d) : j < n ∧ d = .int (lo + (j : Int)) := by
  unfold rng at h
  rw [List.getElem?_map] at h
  obtain ⟨x, hx, rfl⟩ := Option.map_eq_some_iff.mp h
  obtain ⟨h1, h2⟩ := List.getElem?_eq_some_iff.mp hx
  rw [List.length_range] at h1
  rw [List.getElem_range] at h2
  exact ⟨h1, by rw [h2]⟩
/-- a drawn program is one -/
theorem v_program (most : Nat) (hm : most ≤ 12) (s i : Int) (ns : List Int) (hn : ns.length ≤ 63) : ∃ (s' i' : Int) (ns' : List Int) (p : List Stp) (rc : Mu), ns'.length = ns.length ∧ (Valid p ∧ p.length ≤ most) ∧ f_program [] [none, some (.int (most : Int))] [.hl s i, .lst (iDs ns), .hid, .hid] = some (.ok (encP p) (.hl s' i' :: .lst (iDs ns') :: rc)) := by
  obtain ⟨r1, s1, i1, ns1, ⟨a1, a2, a3⟩, e1⟩ := v_next s i ns 4 (by omega) (by omega) hn
  obtain ⟨r2, s2, i2, ns2, ⟨b1, b2, b3⟩, e2⟩ := v_next s1 i1 ns1 ((most : Int) + 1) (by omega) (by omega) (by omega)
  obtain ⟨d, s3, i3, ns3, ⟨hd, c3⟩, e3⟩ := v_pick s2 i2 ns2 (by omega) [.int 0, .int 1, .int 5] (by simp) (by simp)
  have hw : ∃ works : Int, d = .int works := by
    simp only [List.mem_cons, List.not_mem_nil, or_false] at hd
    rcases hd with z | z | z <;> exact ⟨_, z⟩
  obtain ⟨works, rfl⟩ := hw
  have hlk : ∃ locks : Nat, 1 + r1 = (locks : Int) ∧ 1 ≤ locks ∧ locks ≤ 4 := ⟨(1 + r1).toNat, by omega, by omega, by omega⟩
  obtain ⟨locks, k1, k2⟩ := hlk
  have hgl : ∃ goal : Nat, r2 = (goal : Int) ∧ goal ≤ most := ⟨r2.toNat, by omega, by omega⟩
  obtain ⟨goal, rfl, g2⟩ := hgl
  have m1 := mFnH (g := g_next []) (k := 0) (np := 2) (fm := f_next []) (l := rOwn 0 (rCons (Sh.ret (.int 4)) rNil)) (env := [none, some (.int (most : Int)), none, none, none, none, none, none, none, none, none, none]) (μ := [.hl s i, .lst (iDs ns), .hid, .hid]) (rest := [.hid, .hid]) (ds := [.int 4]) (by simp [ap_rOwn]) rfl rfl rfl e1
  have m2 := mFnH (g := g_next []) (k := 0) (np := 2) (fm := f_next []) (l := rOwn 0 (rCons (mBin dAdd (mVar 1) (Sh.ret (.int 1))) rNil)) (env := [none, some (.int (most : Int)), none, none, some (.int locks), none, none, none, none, none, none, none]) (μ := [.hl s1 i1, .lst (iDs ns1), .lst [], .lst []]) (rest := [.lst [], .lst []]) (ds := [.int ((most : Int) + 1)]) (by simp [ap_rOwn, dAdd]) rfl rfl rfl e2
  have m3 := mFnH (g := g_pick []) (k := 0) (np := 2) (fm := f_pick []) (l := rOwn 0 (rCons (mLst (mCons (Sh.ret (.int 0)) (mCons (Sh.ret (.int 1)) (mCons (Sh.ret (.int 5)) mNil)))) rNil)) (env := [none, some (.int (most : Int)), none, none, some (.int locks), none, none, none, none, none, none, none]) (μ := [.hl s2 i2, .lst (iDs ns2), .lst [], .lst []]) (rest := [.lst [], .lst []]) (ds := [.lst [.int 0, .int 1, .int 5]]) (by simp [ap_rOwn]) rfl rfl rfl e3
  have loop : ∃ e' m', forS (aName 7) (l0_program []) (rng 0 goal) [none, some (.int (most : Int)), none, none, some (.int locks), some (.int goal), some (.int works), none, none, none, none, none] (pM s3 i3 ns3 [] []) = some (.nx e' m') ∧
      (∃ (s' i' : Int) (ns' : List Int) (p' : List Stp) (held' : List Int) (x7 a' b' c' d' : Option D), ns'.length = ns3.length ∧ PSt goal (rng 0 goal).length p' held' ∧ e' = [none, some (.int (most : Int)), none, none, some (.int locks), some (.int goal), some (.int works), x7, a', b', c', d'] ∧ m' = pM s' i' ns' p' held') := by
    refine forS_inv (ds0 := rng 0 goal) (fun j e m => ∃ (s' i' : Int) (ns' : List Int) (p' : List Stp) (held' : List Int) (x7 a' b' c' d' : Option D), ns'.length = ns3.length ∧ PSt goal j p' held' ∧ e = [none, some (.int (most : Int)), none, none, some (.int locks), some (.int goal), some (.int works), x7, a', b', c', d'] ∧ m = pM s' i' ns' p' held') _ 0 _ _ rfl ?_ ?_ (by simp)
    · rintro j d e m hd ⟨s', i', ns', p', held', x7, a', b', c', d', h1, h2, rfl, rfl⟩
      obtain ⟨hj, rfl⟩ := rng_at hd
      obtain ⟨s4, i4, ns4, p4, held4, a4, b4, c4, d4, q1, q2, q3⟩ := v_turn (most := (most : Int)) (works := works) (locks := locks) (a := a') (b := b') (c := c') (x11 := d') (s := s') (i := i') h2 hj (Nat.le_trans g2 hm) k2 (show ns'.length ≤ 63 by omega)
      refine ⟨_, rfl, _, _, .inl ?_, s4, i4, ns4, p4, held4, some (.int (0 + (j : Int))), a4, b4, c4, d4, by omega, q2, rfl, rfl⟩
      have z : (0 : Int) + (j : Int) = (j : Int) := by omega
      rw [z]
      exact q3
    · exact ⟨s3, i3, ns3, [], [], none, none, none, none, none, rfl, ⟨rfl, fun j s h => by simp at h, rfl, by simp, List.nodup_nil, fun l h => nomatch h⟩, rfl, rfl⟩
  obtain ⟨e', m', h1, s', i', ns', p', held', x7, a', b', c', d', q1, q2, rfl, rfl⟩ := loop
  have hlr : (rng 0 goal).length = goal := by unfold rng; simp
  rw [hlr] at q2
  obtain ⟨l1, l2, l3, l4, l5, l6⟩ := q2
  have he : held' = [] := List.eq_nil_of_length_eq_zero (by omega)
  subst he
  refine ⟨s', i', ns', p', [.lst (p'.map Stp.d), .lst []], by omega, ⟨⟨by omega, l2, by rw [l1]; exact l3⟩, by omega⟩, ?_⟩
  have k1' : (1 : Int) + r1 = locks := k1
  have hg1 : gRng1 [.int (goal : Int)] = some (rng 0 goal) := by
    have h5 : (-100000 : Int) < goal := by omega
    have h6 : (goal : Int) < 100000 := by omega
    simp [gRng1, h5, h6]
  simp only [pM, List.map_nil, iDs] at h1 m1 m2 m3
  simp [f_program, g_program, b_program, sMul, fOwn, fDat, fNil, oLst, setD, m1, m2, m3, dAdd, k1', hg1, h1, mView, obD, noM_encP, iDs, noMs]
  have hz : noM (.tup (p'.map Stp.d)) = true := noM_encP p'
  simp [hz, encP]

end HD
namespace HD
open Sh
variable [Wd]
/-! ### equal data are alike -/
@[scoped simp] theorem ap_mIsB2 {A B : BT} {f : Em} {env : Env} {μ : Mu} : mIsB2 A B f env μ = bnd f (fun d => lift ((isBT A d).bind fun b1 => (isBT B d).map fun b2 => .bl (b1 || b2))) env μ := rfl
theorem alike_step (n : Nat) : f_alike [] (n + 1) = fnG (g_alike []) 3 (b_alike [] (f_alike [] n)) := rfl
theorem alike_int (n : Nat) (i : Int) : f_alike [] (n + 1) [some (.int i), some (.int i)] [] = some (.ok (.bl true) []) := by
  simp [alike_step, g_alike, b_alike, q2_alike, q3_alike, dIsN, isNon]
theorem alike_bl (n : Nat) (b : Bool) : f_alike [] (n + 1) [some (.bl b), some (.bl b)] [] = some (.ok (.bl true) []) := by
  simp [alike_step, g_alike, b_alike, q2_alike, q3_alike, dIsN, isNon]
theorem alike_lc (n : Nat) (x : D) (ds : List D) (hx : items x = some ds) (hg : gLen [x] = some (.int ds.length)) (hd : ∀ i : Int, dIx x (.int i) = L2.atI ds i) (hl : ds.length < 100000) (h : ∀ d ∈ ds, f_alike [] n [some d, some d] [] = some (.ok (.bl true) [])) :
    mLc [2] (mRng gRng1 (mCons (mCall gLen (mCons (mVar 1) mNil)) mNil)) (aName 2) (t0_alike [] (f_alike [] n)) (mVar 2) [some x, some x, none] [] = some (.ok (.lst []) []) := by
  have h1 : gRng1 [.int (ds.length : Int)] = some (rng 0 ds.length) := by
    have h5 : (-100000 : Int) < ds.length := by omega
    have h6 : (ds.length : Int) < 100000 := by omega
    simp [gRng1, h5, h6]
  have hr : (rng 0 ds.length).length = ds.length := by unfold rng; simp
  have key := mLc_pure (vs := [2]) (it := mRng gRng1 (mCons (mCall gLen (mCons (mVar 1) mNil)) mNil)) (A := aName 2) (p := t0_alike [] (f_alike [] n)) (f := mVar 2) (env := [some x, some x, none]) (μ := []) (μ1 := []) (ds := rng 0 ds.length) (fun _ => false) id (by simp only [ap_mRng, ap_bnd, ap_mCons, ap_mCall, ap_mVar, ap_mNil, ap_ret, ap_lift, List.getElem?_cons_succ, List.getElem?_cons_zero, hg, h1]) (by omega) (fun d hd' => by
    obtain ⟨j, hj⟩ := List.mem_iff_getElem?.mp hd'
    obtain ⟨h2, rfl⟩ := rngE hj
    have ha : L2.atI ds ((0 : Int) + (j : Int)) = some ds[j] := by
      rw [Int.zero_add]
      unfold L2.atI L2.ixN
      rw [if_pos (by omega), if_pos (by omega), Option.bind_some, Int.toNat_natCast, List.getElem?_eq_getElem h2]
    refine ⟨[some x, some x, some (.int (0 + (j : Int)))], by simp [wipeE], ?_, fun z => by cases z⟩
    have hs := h ds[j] (List.getElem_mem h2)
    unfold t0_alike
    rw [ap_bNot, ap_bnd, ap_mTru, ap_bnd, mFn0]
    have e1 : rCons (mBin dIx (mVar 0) (mVar 2)) (rCons (mBin dIx (mVar 1) (mVar 2)) rNil) [some x, some x, some (.int (0 + (j : Int)))] [] = some (.ok [.inl ds[j], .inl ds[j]] []) := by
      rw [ap_rCons]
      simp only [ap_bnd, ap_mBin, ap_mVar, ap_rCons, ap_rNil, ap_ret, ap_lift, List.getElem?_cons_zero, List.getElem?_cons_succ, hd, ha]
    rw [e1]
    simp [hs])
  have e0 : (rng 0 ds.length).filter (fun _ => false) = [] := List.filter_eq_nil_iff.mpr fun _ _ => by simp
  rw [e0] at key
  exact key
theorem alike_tup (n : Nat) (ds : List D) (hl : ds.length < 100000) (h : ∀ d ∈ ds, f_alike [] n [some d, some d] [] = some (.ok (.bl true) [])) : f_alike [] (n + 1) [some (.tup ds), some (.tup ds)] [] = some (.ok (.bl true) []) := by
  have key := alike_lc n (.tup ds) ds rfl rfl (fun _ => rfl) hl h
  simp [alike_step, g_alike, b_alike, b1_alike, q0_alike, q1_alike, q2_alike, key]
theorem alike_lst (n : Nat) (ds : List D) (hl : ds.length < 100000) (h : ∀ d ∈ ds, f_alike [] n [some d, some d] [] = some (.ok (.bl true) [])) : f_alike [] (n + 1) [some (.lst ds), some (.lst ds)] [] = some (.ok (.bl true) []) := by
  have key := alike_lc n (.lst ds) ds rfl rfl (fun _ => rfl) hl h
  simp [alike_step, g_alike, b_alike, b1_alike, q0_alike, q1_alike, q2_alike, key]
theorem alike_rows (L : List (List Int)) (hl : L.length < 64) (h5 : ∀ r ∈ L, r.length = 5) : f_alike [] 6 [some (.lst (L.map tupI)), some (.lst (L.map tupI))] [] = some (.ok (.bl true) []) := by
  refine alike_lst 5 _ (by rw [List.length_map]; omega) fun d hd => ?_
  obtain ⟨r, hr, rfl⟩ := List.mem_map.mp hd
  refine alike_tup 4 _ (by rw [List.length_map, h5 r hr]; omega) fun d hd => ?_
  obtain ⟨i, _, rfl⟩ := List.mem_map.mp hd
  exact alike_int 3 i

end HD
namespace HD
open Sh
variable [Wd]
/-! ### pairs of drawn programs -/
theorem v_pairs (most : Nat) (hm : most ≤ 12) (s i : Int) (ns : List Int) (hn : ns.length ≤ 63) : ∃ (s' i' : Int) (ns' : List Int) (p q : List Stp), ns'.length = ns.length ∧ (Valid p ∧ p.length ≤ most) ∧ (Valid q ∧ q.length ≤ most) ∧ f_pairs [] [none, some (.int (most : Int))] [.hl s i, .lst (iDs ns)] = some (.ok (.tup [encP p, encP q]) [.hl s' i', .lst (iDs ns')]) := by
  obtain ⟨s1, i1, ns1, p, rc1, a1, vp, e1⟩ := v_program most hm s i ns hn
  obtain ⟨s2, i2, ns2, q, rc2, b1, vq, e2⟩ := v_program most hm s1 i1 ns1 (by omega)
  obtain ⟨d, s3, i3, ns3, ⟨hd, c1⟩, e3⟩ := v_pick s2 i2 ns2 (by omega) [encP q, encP q, encP p] (by simp) (by simp)
  have hq : ∃ q', (Valid q' ∧ q'.length ≤ most) ∧ d = encP q' := by
    simp only [List.mem_cons, List.not_mem_nil, or_false] at hd
    rcases hd with z | z | z
    · exact ⟨q, vq, z⟩
    · exact ⟨q, vq, z⟩
    · exact ⟨p, vp, z⟩
  obtain ⟨q', vq', rfl⟩ := hq
  have m1 := mFnH (g := g_program []) (k := 2) (np := 2) (fm := f_program []) (l := rOwn 0 (rCons (mVar 1) rNil)) (env := [none, some (.int (most : Int)), none, none]) (μ := [.hl s i, .lst (iDs ns)]) (rest := []) (ds := [.int (most : Int)]) (by simp [ap_rOwn]) rfl rfl rfl e1
  have m2 := mFnH (g := g_program []) (k := 2) (np := 2) (fm := f_program []) (l := rOwn 0 (rCons (mVar 1) rNil)) (env := [none, some (.int (most : Int)), none, none]) (μ := [.hl s1 i1, .lst (iDs ns1)]) (rest := []) (ds := [.int (most : Int)]) (by simp [ap_rOwn]) rfl rfl rfl e2
  have m3 := mFnH (g := g_pick []) (k := 0) (np := 2) (fm := f_pick []) (l := rOwn 0 (rCons (mLst (mCons (mVar 3) (mCons (mVar 3) (mCons (mVar 2) mNil)))) rNil)) (env := [none, some (.int (most : Int)), some (encP p), some (encP q)]) (μ := [.hl s2 i2, .lst (iDs ns2)]) (rest := []) (ds := [.lst [encP q, encP q, encP p]]) (by simp [ap_rOwn]) rfl rfl rfl e3
  refine ⟨s3, i3, ns3, p, q', by omega, vp, vq', ?_⟩
  simp [f_pairs, g_pairs, b_pairs, sMul, fDat, fNil, m1, m2, m3, setD]
theorem v_pairs12 (s i : Int) (ns : List Int) (hn : ns.length ≤ 63) : ∃ (s' i' : Int) (ns' : List Int) (p q : List Stp), ns'.length = ns.length ∧ Valid p ∧ Valid q ∧ f_pairs [] [none, some (.int 12)] [.hl s i, .lst (iDs ns)] = some (.ok (.tup [encP p, encP q]) [.hl s' i', .lst (iDs ns')]) := by
  obtain ⟨s', i', ns', p, q, h1, h2, h3, h4⟩ := v_pairs 12 (by omega) s i ns hn
  exact ⟨s', i', ns', p, q, h1, h2.1, h3.1, h4⟩

end HD
namespace HD
open Sh
variable [Wd]
/-! ### what is held, by the law's own words -/
theorem oLc_pure {vs : List Nat} {it : Mx (List D)} {A : Am} {p : Mx Bool} {f : Em} {env : Env} {μ μ1 : Mu} {ds : List D} (pb : D → Bool) (h : D → D) (hi : it env μ = some (.ok ds μ1)) (hl : ds.length ≤ 100000)
    (H : ∀ d ∈ ds, ∃ e, A d (wipeE env vs) = some e ∧ p e μ1 = some (.ok (pb d) μ1) ∧ (pb d = true → f e μ1 = some (.ok (h d) μ1))) (hn : noMs ((ds.filter pb).map h) = true) : oLc vs it A p f env μ = some (.ok (.lst ((ds.filter pb).map h)) μ1) := by
  unfold oLc Sh.bnd
  simp only [hi]
  rw [lcS_pure pb h ds [] μ1 H (by simpa using hl), List.nil_append]
  simp only [hn, if_true]
theorem v_held {p : List Stp} (v : Valid p) {i : Nat} (hi : i ≤ p.length) : ∃ X : Ob, f_held [] [some (encP p), some (.int (i : Int))] [.hid, .hid, .hid] = some (.ok (.tup (iDs (sortK id (hAt p i)))) [.hid, .hid, X]) := by
  have hl := v.len
  have hcut : cutD (p.map Stp.d) none (some (i : Int)) = (p.take i).map Stp.d := by
    rw [cut_lo _ i (by rw [List.length_map]; exact hi), List.map_take]
  have loop : ∃ e' m', forS (aName 3) (l0_held []) ((p.take i).map Stp.d) [some (encP p), some (.int (i : Int)), none, none, none] [.hid, .hid, .lst (iDs [])] = some (.nx e' m') ∧
      (m' = [.hid, .hid, .lst (iDs (hAt p ((p.take i).map Stp.d).length))] ∧ ∃ x y, e' = [some (encP p), some (.int (i : Int)), none, x, y]) := by
    refine forS_inv (ds0 := (p.take i).map Stp.d) (fun j e m => m = [.hid, .hid, .lst (iDs (hAt p j))] ∧ ∃ x y, e = [some (encP p), some (.int (i : Int)), none, x, y]) _ 0 _ _ rfl ?_ ⟨rfl, none, none, rfl⟩ (by simp)
    rintro j d e m hd ⟨rfl, x, y, rfl⟩
    obtain ⟨s, hs', rfl⟩ := map_at hd
    have hji : j < i := by have := lt_of_at hs'; rw [List.length_take] at this; omega
    have hs : p[j]? = some s := by rw [List.getElem?_take] at hs'; rw [if_pos hji] at hs'; exact hs'
    have h3 := hAt_len p j (by omega)
    have h4 : (hAt p j).length < 100000 := by omega
    refine ⟨_, rfl, [some (encP p), some (.int (i : Int)), none, some s.d, y], [.hid, .hid, .lst (iDs (hAt p (j + 1)))], .inl ?_, rfl, _, _, rfl⟩
    rw [hAt_succ hs]
    cases s with
    | wk => simp [l0_held, q1_held, b2_held, q0_held, Stp.d, heldB]
    | tk l =>
      rw [show heldB (hAt p j) (.tk l) = hAt p j ++ [l] from rfl, ← iD_app]
      simp [l0_held, q1_held, b1_held, Stp.d, sApp, obL, noM, ints_len, h4, iDs]
    | lv l =>
      have key := oLc_pure (vs := [4]) (it := mIt (mVar 2)) (A := aName 4) (p := t0_held []) (f := mVar 4) (env := [some (encP p), some (.int (i : Int)), some (.lst (iDs (hAt p j))), some (Stp.lv l).d, y]) (μ := [.hid, .hid, .hid]) (μ1 := [.hid, .hid, .hid]) (ds := iDs (hAt p j))
        (fun d => match d with | .int x => x != l | _ => false) id (by simp) (by rw [ints_len]; omega) (fun d hd => by
          obtain ⟨x, _, rfl⟩ := List.mem_map.mp hd
          simp [wipeE, Stp.d, bne, t0_held]) (by
          rw [List.map_id, filter_ints (fun x => x != l) _ (fun _ => rfl)]
          exact iD_noM _)
      rw [List.map_id, filter_ints (fun x => x != l) _ (fun _ => rfl)] at key
      simp only [Stp.d] at key
      simp [l0_held, q1_held, b2_held, q0_held, b0_held, Stp.d, sOwn, sMul, fOwn, fNil, oView, obD, key, setD, heldB]
  obtain ⟨e', m', h1, rfl, x, y, rfl⟩ := loop
  have hlen : ((p.take i).map Stp.d).length = i := by rw [List.length_map, List.length_take]; omega
  rw [hlen] at h1
  have hlen2 := hAt_len p i hi
  refine ⟨.lst (iDs (hAt p i)), ?_⟩
  have hso : gSort [.lst (iDs (hAt p i))] = some (.lst (iDs (sortK id (hAt p i)))) := by
    simp [gSort, iDs, dInts_map]
  have hz : noM (.tup (iDs (sortK id (hAt p i)))) = true := noM_iD _
  have e0 : iDs ([] : List Int) = [] := rfl
  rw [e0, List.map_take] at h1
  simp only [encP] at h1
  simp [f_held, g_held, b_held, encP, sOwn, sMul, fOwn, fNil, oLst, noMs, setD, dSl, asI, hcut, h1, mView, obD, hso, hz]
theorem shr_perm {a a' b b' : List Int} (ha : a.Perm a') (hb : b.Perm b') : shr a b = shr a' b' := by
  rw [Bool.eq_iff_iff]
  unfold shr
  simp only [List.any_eq_true, decide_eq_true_eq]
  constructor
  · rintro ⟨x, h1, h2⟩; exact ⟨x, ha.mem_iff.mp h1, hb.mem_iff.mp h2⟩
  · rintro ⟨x, h1, h2⟩; exact ⟨x, ha.mem_iff.mpr h1, hb.mem_iff.mpr h2⟩
theorem v_open {p q : List Stp} (vp : Valid p) (vq : Valid q) {i j : Nat} (hi : i ≤ p.length) (hj : j ≤ q.length) : f_open [] [some (encP p), some (encP q), some (.tup [.int (i : Int), .int (j : Int)])] [] = some (.ok (.bl (!shr (hAt p i) (hAt q j))) []) := by
  obtain ⟨X1, h1⟩ := v_held vp hi
  obtain ⟨X2, h2⟩ := v_held vq hj
  have l1 := hAt_len p i hi
  have l2 := vp.len
  have pl := (sortK_perm (key := id) (hAt p i)).length_eq
  have key := mLc_pure (vs := [5]) (it := mIt (mVar 3)) (A := aName 5) (p := t0_open []) (f := mVar 5) (env := [some (encP p), some (encP q), some (.tup [.int (i : Int), .int (j : Int)]), some (.tup (iDs (sortK id (hAt p i)))), some (.tup (iDs (sortK id (hAt q j)))), none]) (μ := []) (μ1 := []) (ds := iDs (sortK id (hAt p i)))
    (fun d => match d with | .int x => decide (x ∈ sortK id (hAt q j)) | _ => false) id (by simp) (by rw [ints_len]; omega) (fun d hd => by
      obtain ⟨x, _, rfl⟩ := List.mem_map.mp hd
      simp [wipeE, t0_open, fits_ints, any_ints])
  rw [List.map_id, filter_ints (fun x => decide (x ∈ sortK id (hAt q j))) _ (fun _ => rfl)] at key
  have hq : q0_open [] [some (encP p), some (encP q), some (.tup [.int (i : Int), .int (j : Int)]), none, none, none] [] = some (.ok false []) := by
    have a1 : ¬ ((p.length : Int) < (i : Int)) := by omega
    have a2 : ¬ ((q.length : Int) < (j : Int)) := by omega
    simp [q0_open, dGt, encP, a1, a2]
  have fin : decide ((sortK id (hAt p i)).filter (fun x => decide (x ∈ sortK id (hAt q j))) = []) = !shr (hAt p i) (hAt q j) := by
    rw [← shr_perm (sortK_perm (key := id) (hAt p i)) (sortK_perm (key := id) (hAt q j))]
    unfold shr
    rw [Bool.eq_iff_iff]
    simp [List.filter_eq_nil_iff]
  simp [f_open, g_open, b_open, hq, sMul, fDat, fNil, h1, h2, setD, key, fits_ints, deqs_nil, ← fin]

end HD
namespace HD
open Sh
variable [Wd]
theorem enc_at {p : List Stp} {i : Int} {s : Stp} (h0 : 0 ≤ i) (h : p[i.toNat]? = some s) : L2.atI (p.map Stp.d) i = some s.d := atI_of h0 (by rw [List.getElem?_map, h]; rfl)

end HD
namespace HD
open Sh
variable [Wd]
/-! ### the times of holding -/
theorem tk_spec {p : List Stp} {l : Int} : ∀ j, l ∈ hAt p j → j ≤ p.length → 1 ≤ tkAt p j l ∧ p[(tkAt p j l - 1).toNat]? = some (.tk l)
  | 0, h, _ => nomatch h
  | j + 1, h, hj => by
    have hs : p[j]? = some p[j] := List.getElem?_eq_getElem (by omega)
    rw [hAt_succ hs, mem_heldB] at h
    unfold tkAt
    by_cases q : p[j]? = some (.tk l)
    · rw [if_pos q]
      refine ⟨by omega, ?_⟩
      rw [show ((j : Int) + 1 - 1).toNat = j by omega]
      exact q
    · rw [if_neg q]
      have hl : l ∈ hAt p j := by
        generalize p[j] = s at *
        cases s with
        | tk m =>
          rcases h with h | h
          · exact h
          · subst h; exact (q hs).elim
        | lv m => exact h.1
        | wk => exact h
      exact tk_spec j hl (by omega)
theorem tkAt_le (p : List Stp) (l : Int) : ∀ j, tkAt p j l ≤ j := fun j => (tkAt_bd p l j).2
/-- no taking since then -/
theorem tkAt_no {p : List Stp} {l : Int} : ∀ {j m : Nat}, tkAt p j l ≤ m → m < j → p[m]? ≠ some (.tk l)
  | 0, m, _, h => by omega
  | j + 1, m, h1, h2 => by
    unfold tkAt at h1
    by_cases q : p[j]? = some (.tk l)
    · rw [if_pos q] at h1; omega
    · rw [if_neg q] at h1
      by_cases e : m = j
      · rw [e]; exact q
      · exact tkAt_no h1 (by omega)
theorem held_back {p : List Stp} {l : Int} {k : Nat} (hk : k ≤ p.length) (h : l ∈ hAt p k) : ∀ d m, m + d = k → tkAt p k l ≤ m → l ∈ hAt p m
  | 0, m, e, _ => by rw [show m = k by omega]; exact h
  | d + 1, m, e, hm => by
    have ih := held_back hk h d (m + 1) (by omega) (by omega)
    have hs : p[m]? = some p[m] := List.getElem?_eq_getElem (by omega)
    have no := tkAt_no hm (show m < k by omega)
    rw [hAt_succ hs, mem_heldB] at ih
    generalize p[m] = s at *
    cases s with
    | tk x =>
      rcases ih with ih | ih
      · exact ih
      · subst ih; exact (no hs).elim
    | lv x => exact ih.1
    | wk => exact ih
/-- each time: taken, left, held all along -/
theorem fnd_spec {p : List Stp} (v : Valid p) : ∀ j, j ≤ p.length → ∀ t ∈ fnd p j, ∃ k : Nat, k < j ∧ t.2.2 = (k : Int) ∧ p[k]? = some (.lv t.1) ∧ t.2.1 = tkAt p k t.1 ∧ t.1 ∈ hAt p k
  | 0, _, t, h => nomatch h
  | j + 1, hj, t, h => by
    have hs : p[j]? = some p[j] := List.getElem?_eq_getElem (by omega)
    have hok := (v.ok j _ hs).2
    have old : t ∈ fnd p j → ∃ k : Nat, k < j + 1 ∧ t.2.2 = (k : Int) ∧ p[k]? = some (.lv t.1) ∧ t.2.1 = tkAt p k t.1 ∧ t.1 ∈ hAt p k := fun h => by
      obtain ⟨k, h1, h2⟩ := fnd_spec v j (by omega) t h
      exact ⟨k, by omega, h2⟩
    unfold fnd at h
    rw [hs] at h
    generalize p[j] = s at *
    cases s with
    | tk l => exact old h
    | wk => exact old h
    | lv l =>
      rcases List.mem_append.mp h with h | h
      · exact old h
      · have e := List.mem_singleton.mp h
        subst e
        exact ⟨j, by omega, rfl, hs, rfl, by simpa [okAt] using hok⟩
theorem fnd_mono {p : List Stp} {t : Int × Int × Int} : ∀ d j, t ∈ fnd p j → t ∈ fnd p (j + d)
  | 0, _, h => h
  | d + 1, j, h => by
    have ih := fnd_mono d j h
    show t ∈ fnd p (j + d + 1)
    unfold fnd
    split
    · exact List.mem_append_left _ ih
    · exact ih
/-- what is held somewhere is left later on, with no taking in between -/
theorem held_fwd {p : List Stp} (v : Valid p) {l : Int} : ∀ d i, i + d = p.length → l ∈ hAt p i → ∃ k : Nat, i ≤ k ∧ (l, tkAt p i l, (k : Int)) ∈ fnd p p.length
  | 0, i, e, h => by
    rw [show i = p.length by omega, v.fin] at h
    exact nomatch h
  | d + 1, i, e, h => by
    have hs : p[i]? = some p[i] := List.getElem?_eq_getElem (by omega)
    have hok := (v.ok i _ hs).2
    have next : l ∈ hAt p (i + 1) → p[i]? ≠ some (.tk l) → ∃ k : Nat, i ≤ k ∧ (l, tkAt p i l, (k : Int)) ∈ fnd p p.length := fun h1 h2 => by
      obtain ⟨k, q1, q2⟩ := held_fwd v d (i + 1) (by omega) h1
      have e2 : tkAt p (i + 1) l = tkAt p i l := by
        conv => lhs; unfold tkAt
        rw [if_neg h2]
      rw [e2] at q2
      exact ⟨k, by omega, q2⟩
    have e3 := hAt_succ hs
    by_cases q : p[i] = .lv l
    · refine ⟨i, Nat.le_refl _, ?_⟩
      have : (l, tkAt p i l, (i : Int)) ∈ fnd p (i + 1) := by
        unfold fnd
        rw [hs, q]
        exact List.mem_append_right _ List.mem_cons_self
      have z := fnd_mono d (i + 1) this
      rw [show i + 1 + d = p.length by omega] at z
      exact z
    · refine next ?_ ?_
      · rw [e3, mem_heldB]
        generalize p[i] = s at *
        cases s with
        | tk m => exact .inl h
        | lv m => exact ⟨h, fun z => q (by rw [z])⟩
        | wk => exact h
      · intro z
        rw [hs] at z
        have z := Option.some.inj z
        rw [z] at hok
        exact (of_decide_eq_true hok) h
/-- held at a place: by one of the times -/
theorem held_iff {p : List Stp} (v : Valid p) {i : Nat} (hi : i ≤ p.length) {l : Int} : l ∈ hAt p i ↔ ∃ t ∈ fnd p p.length, t.1 = l ∧ t.2.1 ≤ (i : Int) ∧ (i : Int) ≤ t.2.2 := by
  constructor
  · intro h
    obtain ⟨k, h1, h2⟩ := held_fwd v (p.length - i) i (by omega) h
    exact ⟨_, h2, rfl, tkAt_le p l i, by show (i : Int) ≤ (k : Int); omega⟩
  · rintro ⟨t, ht, rfl, h1, h2⟩
    obtain ⟨k, q1, q2, q3, q4, q5⟩ := fnd_spec v _ (Nat.le_refl _) t ht
    rw [q2] at h2
    rw [q4] at h1
    exact held_back (by omega) q5 (k - i) i (by omega) h1
/-- a time's steps -/
theorem fnd_steps {p : List Stp} (v : Valid p) {t : Int × Int × Int} (ht : t ∈ fnd p p.length) : 1 ≤ t.2.1 ∧ p[(t.2.1 - 1).toNat]? = some (.tk t.1) ∧ 0 ≤ t.2.2 ∧ p[t.2.2.toNat]? = some (.lv t.1) := by
  obtain ⟨k, q1, q2, q3, q4, q5⟩ := fnd_spec v _ (Nat.le_refl _) t ht
  obtain ⟨h1, h2⟩ := tk_spec k q5 (by omega)
  rw [q2, q4]
  exact ⟨h1, h2, by omega, by rw [Int.toNat_natCast]; exact q3⟩
/-- barred: some row holds the place -/
theorem barred_iff {p q : List Stp} (vp : Valid p) (vq : Valid q) {i j : Nat} (hi : i ≤ p.length) (hj : j ≤ q.length) : shr (hAt p i) (hAt q j) = true ↔ ∃ t ∈ fnd p p.length, ∃ u ∈ fnd q q.length, u.1 = t.1 ∧ (t.2.1 ≤ (i : Int) ∧ (i : Int) ≤ t.2.2) ∧ (u.2.1 ≤ (j : Int) ∧ (j : Int) ≤ u.2.2) := by
  unfold shr
  rw [List.any_eq_true]
  constructor
  · rintro ⟨l, h1, h2⟩
    obtain ⟨t, ht, e1, a1⟩ := (held_iff vp hi).mp h1
    obtain ⟨u, hu, e2, a2⟩ := (held_iff vq hj).mp (of_decide_eq_true h2)
    exact ⟨t, ht, u, hu, e2.trans e1.symm, a1, a2⟩
  · rintro ⟨t, ht, u, hu, e, a1, a2⟩
    exact ⟨t.1, (held_iff vp hi).mpr ⟨t, ht, rfl, a1⟩, decide_eq_true ((held_iff vq hj).mpr ⟨u, hu, e, a2⟩)⟩
/-- how often l is taken | left ahead of place j -/
def takes (p : List Stp) (l : Int) : Nat := (p.filter fun s => decide (s = .tk l)).length
def times (p : List Stp) (j : Nat) (l : Int) : Nat := ((fnd p j).filter fun t => decide (t.1 = l)).length
theorem count_at {p : List Stp} (v : Valid p) (l : Int) : ∀ j, j ≤ p.length → takes (p.take j) l = times p j l + (if l ∈ hAt p j then 1 else 0)
  | 0, _ => by simp [takes, times, fnd, hAt_zero]
  | j + 1, hj => by
    have hs : p[j]? = some p[j] := List.getElem?_eq_getElem (by omega)
    have hok := (v.ok j _ hs).2
    have ih := count_at v l j (by omega)
    have e1 : p.take (j + 1) = p.take j ++ [p[j]] := by rw [List.take_succ, hs]; rfl
    have e2 := hAt_succ hs
    have e3 : fnd p (j + 1) = match p[j] with
      | .lv m => fnd p j ++ [(m, tkAt p j m, ((j : Nat) : Int))]
      | _ => fnd p j := by
      conv => lhs; unfold fnd
      rw [hs]
      cases p[j] <;> rfl
    unfold takes times at *
    rw [e1, List.filter_append, List.length_append, ih, e3, e2]
    generalize p[j] = s at *
    cases s with
    | wk => by_cases h : l ∈ hAt p j <;> simp [heldB, h]
    | tk m =>
      have hm : m ∉ hAt p j := of_decide_eq_true hok
      by_cases q : m = l
      · subst q
        simp [heldB, hm]
      · have q' : ¬ l = m := fun z => q z.symm
        simp [heldB, q, q']
    | lv m =>
      have hm : m ∈ hAt p j := of_decide_eq_true hok
      by_cases q : m = l
      · subst q
        simp [heldB, hm]
      · have q' : ¬ l = m := fun z => q z.symm
        simp [heldB, q, q']
theorem count_all {p : List Stp} (v : Valid p) (l : Int) : times p p.length l = takes p l := by
  have := count_at v l p.length (Nat.le_refl _)
  rw [List.take_length, v.fin] at this
  simpa using this.symm

end HD
namespace HD
open Sh
variable [Wd]
/-! ### how many rows -/
theorem sum4 (g : Int → Nat) : ∀ L : List (Int × Int × Int), (∀ t ∈ L, 0 ≤ t.1 ∧ t.1 ≤ 3) → (L.map fun t => g t.1).sum = (L.filter fun t => decide (t.1 = 0)).length * g 0 + (L.filter fun t => decide (t.1 = 1)).length * g 1 + (L.filter fun t => decide (t.1 = 2)).length * g 2 + (L.filter fun t => decide (t.1 = 3)).length * g 3
  | [], _ => by simp
  | t :: L, h => by
    have ih := sum4 g L fun x hx => h x (List.mem_cons_of_mem _ hx)
    obtain ⟨h1, h2⟩ := h t List.mem_cons_self
    have hc : t.1 = 0 ∨ t.1 = 1 ∨ t.1 = 2 ∨ t.1 = 3 := by omega
    rw [List.map_cons, List.sum_cons, ih]
    rcases hc with e | e | e | e <;> simp [e, Nat.succ_mul] <;> omega
theorem rows_len {p q : List Stp} (vp : Valid p) (vq : Valid q) : (rowsL p q).length = takes p 0 * takes q 0 + takes p 1 * takes q 1 + takes p 2 * takes q 2 + takes p 3 * takes q 3 := by
  have h1 : (rowsL p q).length = ((fnd p p.length).map fun t => takes q t.1).sum := by
    unfold rowsL
    rw [List.length_flatMap]
    congr 1
    apply List.map_congr_left
    intro t _
    rw [List.length_map, ← count_all vq]
    unfold times
    congr 1
  rw [h1, sum4 (takes q) _ fun t ht => (fnd_bd vp _ (Nat.le_refl _) t ht).1]
  rw [← count_all vp, ← count_all vp, ← count_all vp, ← count_all vp]
  rfl
/-! ### the law's loops -/
theorem deq_tk (s : Stp) (l : Int) : deq s.d (.tup [.str "take", .int l]) = decide (s = .tk l) := by
  cases s with
  | tk m => by_cases h : m = l <;> simp [Stp.d, h]
  | lv m => simp [Stp.d]
  | wk => simp [Stp.d]
theorem dml {i j : Int} (h0 : 0 ≤ i) (h1 : i < 1000000) : dMul (.int i) (.int j) = some (.int (i * j)) := by
  have h2 : -(2 : Int) ^ 64 < i := by omega
  have h3 : i < (2 : Int) ^ 64 := by omega
  simp [dMul]
  omega
theorem un_d (s : Stp) : un s.d = s.d := by cases s <;> rfl
theorem fit_d (s : Stp) (n : Nat) (h : 0 < n) : fit s.d n = true := by
  have : Nat.blt 0 n = true := Nat.ble_eq_true_of_le h
  cases s <;> simp [Stp.d, this]
abbrev lE (a0 a2 : D) (p q : List Stp) (found : D) (many : Int) (x7 x8 x9 x10 x11 x12 x13 : Option D) : Env := [some a0, none, some a2, some (encP p), some (encP q), some found, some (.int many), x7, x8, x9, x10, x11, x12, x13]
section
variable {a0 a2 found : D} {p q : List Stp} {many : Int} {x7 x8 x9 x10 x11 x12 x13 : Option D} {μ : Mu}
theorem e0_at (r : List Stp) (l : Int) (hr : r.length ≤ 12) (x13 : Option D) : e0_law [] [some a0, none, some a2, some (encP p), some (encP q), some found, some (.int many), x7, x8, x9, some (encP r), some (.int l), x12, x13] μ = some (.ok (.int (takes r l)) μ) := by
  have key := mLc_pure (vs := [13]) (it := mIt (mVar 10)) (A := aName 13) (p := t1_law []) (f := mVar 13) (env := [some a0, none, some a2, some (encP p), some (encP q), some found, some (.int many), x7, x8, x9, some (encP r), some (.int l), x12, x13]) (μ := μ) (μ1 := μ) (ds := r.map Stp.d)
    (fun d => deq d (.tup [.str "take", .int l])) id (by simp [encP]) (by rw [List.length_map]; omega) (fun d hd => by
      obtain ⟨s, _, rfl⟩ := List.mem_map.mp hd
      simp [wipeE, t1_law, fit_d, un_d])
  have e : ((r.map Stp.d).filter fun d => deq d (.tup [.str "take", .int l])).length = takes r l := by
    rw [List.filter_map, List.length_map]
    unfold takes
    congr 2
    funext s
    exact deq_tk s l
  unfold e0_law
  rw [ap_mCall, ap_bnd, ap_mCons, ap_bnd, key]
  simp [e]
def cntD (l : Int) : D → D
  | .tup xs => .int (((xs.filter fun d => deq d (.tup [.str "take", .int l])).length : Nat) : Int)
  | _ => .non
theorem cntD_enc (l : Int) (r : List Stp) : cntD l (encP r) = .int (takes r l) := by
  have e : ((r.map Stp.d).filter fun d => deq d (.tup [.str "take", .int l])).length = takes r l := by
    rw [List.filter_map, List.length_map]
    unfold takes
    congr 2
    funext s
    exact deq_tk s l
  show D.int (((((r.map Stp.d).filter fun d => deq d (.tup [.str "take", .int l])).length : Nat) : Int)) = _
  rw [e]
theorem l2_takes (hp : p.length ≤ 12) (hq : q.length ≤ 12) (l : Int) : mLc [10] (mIt (mLst (mCons (mVar 3) (mCons (mVar 4) mNil)))) (aName 10) pYes (e0_law []) (lE a0 a2 p q found many x7 x8 x9 x10 (some (.int l)) x12 x13) μ = some (.ok (.lst [.int (takes p l), .int (takes q l)]) μ) := by
  have key := mLc_pure (vs := [10]) (it := mIt (mLst (mCons (mVar 3) (mCons (mVar 4) mNil)))) (A := aName 10) (p := pYes) (f := e0_law []) (env := lE a0 a2 p q found many x7 x8 x9 x10 (some (.int l)) x12 x13) (μ := μ) (μ1 := μ) (ds := [encP p, encP q])
    (fun _ => true) (cntD l) (by simp) (by simp) (fun d hd => by
      have hr : ∃ r : List Stp, r.length ≤ 12 ∧ d = encP r := by
        simp only [List.mem_cons, List.not_mem_nil, or_false] at hd
        rcases hd with z | z
        · exact ⟨p, hp, z⟩
        · exact ⟨q, hq, z⟩
      obtain ⟨r, hr, rfl⟩ := hr
      refine ⟨[some a0, none, some a2, some (encP p), some (encP q), some found, some (.int many), x7, x8, x9, some (encP r), some (.int l), x12, x13], by simp [wipeE], rfl, fun _ => ?_⟩
      rw [cntD_enc]
      exact e0_at r l hr x13)
  have e2 : ([encP p, encP q].filter (fun _ => true)).map (cntD l) = [.int (takes p l), .int (takes q l)] := by
    show [cntD l (encP p), cntD l (encP q)] = _
    rw [cntD_enc, cntD_enc]
  rw [e2] at key
  exact key
end

end HD
namespace HD
open Sh
variable [Wd]
/-! ### the law's loops, one turn each -/
section
variable {g : D → D → Option D} {env : Env} {μ : Mu} {many a b : Int}
theorem l2_mulG (h6 : env[6]? = some (some (.int many))) (h12 : env[12]? = some (some (.lst [.int a, .int b]))) (hg : g (.int a) (.int b) = some (.int (a * b))) :
    mBin dAdd (mVar 6) (mBin g (mBin dIx (mVar 12) (Sh.ret (.int 0))) (mBin dIx (mVar 12) (Sh.ret (.int 1)))) env μ = some (.ok (.int (many + a * b)) μ) := by
  simp [h6, h12, hg, dAdd]
end
section
variable {a0 a2 found : D} {p q : List Stp} {many : Int} {x7 x8 x9 x10 x11 x12 x13 : Option D} {μ : Mu}
theorem l2_at (hp : p.length ≤ 12) (hq : q.length ≤ 12) (l : Int) : l2_law [] (lE a0 a2 p q found many x7 x8 x9 x10 (some (.int l)) x12 x13) μ = some (.nx (lE a0 a2 p q found (many + takes p l * takes q l) x7 x8 x9 x10 (some (.int l)) (some (.lst [.int (takes p l), .int (takes q l)])) x13) μ) := by
  have b1 : takes p l < 1000 := by
    unfold takes
    have := List.length_filter_le (fun s => decide (s = Stp.tk l)) p
    omega
  have hm : dMul (.int (takes p l)) (.int (takes q l)) = some (.int (takes p l * takes q l)) := dml (by omega) (by omega)
  have h1 := asg_at (i := 12) (l2_takes (a0 := a0) (a2 := a2) (found := found) (many := many) (x7 := x7) (x8 := x8) (x9 := x9) (x10 := x10) (x12 := x12) (x13 := x13) (μ := μ) hp hq l)
  unfold l2_law
  rw [seq_at h1]
  exact asg_at (i := 6) (l2_mulG rfl rfl hm)
/-- the rows' number, lock by lock -/
def cnt (p q : List Stp) : Nat → Int
  | 0 => 0
  | l + 1 => cnt p q l + takes p (l : Int) * takes q (l : Int)
theorem cnt_rows (vp : Valid p) (vq : Valid q) : cnt p q 4 = ((rowsL p q).length : Int) := by
  rw [rows_len vp vq]
  have e : cnt p q 4 = 0 + (takes p 0 : Int) * takes q 0 + takes p 1 * takes q 1 + takes p 2 * takes q 2 + takes p 3 * takes q 3 := rfl
  rw [e, Int.zero_add]
  push_cast
  rfl
theorem l2_loop (hp : p.length ≤ 12) (hq : q.length ≤ 12) : ∃ y11 y12 : Option D, forS (aName 11) (l2_law []) (rng 0 4) (lE a0 a2 p q found 0 x7 x8 x9 x10 x11 x12 x13) μ = some (.nx (lE a0 a2 p q found (cnt p q 4) x7 x8 x9 x10 y11 y12 x13) μ) := by
  obtain ⟨e', m', h1, y11, y12, rfl, rfl⟩ := rng_inv (A := aName 11) (s := l2_law []) (n := 4) (fun j e m => ∃ y11 y12, e = lE a0 a2 p q found (cnt p q j) x7 x8 x9 x10 y11 y12 x13 ∧ m = μ) (lE a0 a2 p q found 0 x7 x8 x9 x10 x11 x12 x13) μ ⟨x11, x12, rfl, rfl⟩ (fun j e m hj h => by
    obtain ⟨y11, y12, rfl, rfl⟩ := h
    exact ⟨_, rfl, _, _, l2_at hp hq (j : Int), _, _, rfl, rfl⟩)
  exact ⟨y11, y12, h1⟩
/-- a row of blocks -/
theorem row_of (vp : Valid p) (vq : Valid q) {r : List Int} (h : r ∈ rowsL p q) : ∃ l f t b e : Int, r = [l, f, t, b, e] ∧ (0 ≤ f - 1 ∧ p[(f - 1).toNat]? = some (.tk l)) ∧ (0 ≤ t ∧ p[t.toNat]? = some (.lv l)) ∧ (0 ≤ b - 1 ∧ q[(b - 1).toNat]? = some (.tk l)) ∧ (0 ≤ e ∧ q[e.toNat]? = some (.lv l)) := by
  obtain ⟨t, ht, hr⟩ := List.mem_flatMap.mp h
  obtain ⟨u, hu, rfl⟩ := List.mem_map.mp hr
  obtain ⟨hu1, hu2⟩ := List.mem_filter.mp hu
  have e : u.1 = t.1 := by simpa using hu2
  obtain ⟨a1, a2, a3, a4⟩ := fnd_steps vp ht
  obtain ⟨b1, b2, b3, b4⟩ := fnd_steps vq hu1
  rw [e] at b2 b4
  exact ⟨_, _, _, _, _, rfl, ⟨by omega, a2⟩, ⟨a3, a4⟩, ⟨by omega, b2⟩, b3, b4⟩
theorem deq_d (s : Stp) : deq s.d s.d = true := by cases s <;> simp [Stp.d]
theorem l3_at {r : List Int} (h : ∃ l f t b e : Int, r = [l, f, t, b, e] ∧ (0 ≤ f - 1 ∧ p[(f - 1).toNat]? = some (.tk l)) ∧ (0 ≤ t ∧ p[t.toNat]? = some (.lv l)) ∧ (0 ≤ b - 1 ∧ q[(b - 1).toNat]? = some (.tk l)) ∧ (0 ≤ e ∧ q[e.toNat]? = some (.lv l))) :
    l3_law [] (lE a0 a2 p q found many x7 x8 x9 (some (tupI r)) x11 x12 x13) μ = some (.nx (lE a0 a2 p q found many x7 x8 x9 (some (tupI r)) x11 x12 x13) μ) := by
  obtain ⟨l, f, t, b, e, rfl, ⟨f0, hf⟩, ⟨t0, ht⟩, ⟨b0, hb⟩, ⟨e0, he⟩⟩ := h
  have kf := enc_at f0 hf
  have kt := enc_at t0 ht
  have kb := enc_at b0 hb
  have ke := enc_at e0 he
  simp only [Stp.d] at kf kt kb ke
  have h3 : q3_law [] (lE a0 a2 p q found many x7 x8 x9 (some (tupI [l, f, t, b, e])) x11 x12 x13) μ = some (.ok false μ) := by
    simp [q3_law, tupI, encP, dSub, kf]
  have h4 : q4_law [] (lE a0 a2 p q found many x7 x8 x9 (some (tupI [l, f, t, b, e])) x11 x12 x13) μ = some (.ok false μ) := by
    simp [q4_law, tupI, encP, dSub, kb, kt]
  have h5 : q5_law [] (lE a0 a2 p q found many x7 x8 x9 (some (tupI [l, f, t, b, e])) x11 x12 x13) μ = some (.ok false μ) := by
    simp [q5_law, tupI, encP, ke]
  unfold l3_law
  rw [seq_at (if_no h3), seq_at (if_no h4), if_no h5]
  rfl
theorem l3_loop : ∀ (L : List (List Int)) (x10 : Option D), (∀ r ∈ L, ∃ l f t b e : Int, r = [l, f, t, b, e] ∧ (0 ≤ f - 1 ∧ p[(f - 1).toNat]? = some (.tk l)) ∧ (0 ≤ t ∧ p[t.toNat]? = some (.lv l)) ∧ (0 ≤ b - 1 ∧ q[(b - 1).toNat]? = some (.tk l)) ∧ (0 ≤ e ∧ q[e.toNat]? = some (.lv l))) →
    ∃ y10, forS (aName 10) (l3_law []) (L.map tupI) (lE a0 a2 p q found many x7 x8 x9 x10 x11 x12 x13) μ = some (.nx (lE a0 a2 p q found many x7 x8 x9 y10 x11 x12 x13) μ)
  | [], x10, _ => ⟨x10, rfl⟩
  | r :: L, x10, h => by
    obtain ⟨y10, e⟩ := l3_loop L (some (tupI r)) fun s hs => h s (List.mem_cons_of_mem _ hs)
    refine ⟨y10, ?_⟩
    have e1 := l3_at (a0 := a0) (a2 := a2) (found := found) (p := p) (q := q) (many := many) (x7 := x7) (x8 := x8) (x9 := x9) (x11 := x11) (x12 := x12) (x13 := x13) (μ := μ) (h r List.mem_cons_self)
    rw [List.map_cons]
    unfold forS
    show (match l3_law [] (lE a0 a2 p q found many x7 x8 x9 (some (tupI r)) x11 x12 x13) μ with
      | some (.nx e' m') => forS (aName 10) (l3_law []) (L.map tupI) e' m'
      | some (.ct e' m') => forS (aName 10) (l3_law []) (L.map tupI) e' m'
      | some (.bk e' m') => some (.nx e' m')
      | r => r) = _
    rw [e1]
    exact e
end

end HD
namespace HD
open Sh
variable [Wd]
/-! ### place by place -/
def rowIn (i j : Int) : List Int → Bool
  | [_, f, t, b, e] => (decide (f ≤ i) && decide (i ≤ t)) && (decide (b ≤ j) && decide (j ≤ e))
  | _ => false
def rowInD (i j : Int) : D → Bool
  | .tup [_, .int f, .int t, .int b, .int e] => (decide (f ≤ i) && decide (i ≤ t)) && (decide (b ≤ j) && decide (j ≤ e))
  | _ => false
theorem fits_tups (n : Nat) : ∀ L : List (List Int), fits (L.map tupI) (n + 1) = true
  | [] => by simp
  | r :: L => by
    have h := fits_ints n r
    have ih := fits_tups n L
    unfold iDs at h
    have hb : Nat.blt 0 (n + 1) = true := rfl
    simp [tupI, h, ih, hb]
theorem deqs_tups (L : List (List Int)) : deqs (L.map tupI) [] = decide (L = []) := by cases L <;> simp
section
variable {a0 a2 : D} {p q : List Stp} {many : Int} {x7 x8 x9 x10 x11 x12 x13 : Option D} {μ : Mu} {L : List (List Int)}
theorem t0_at {i j : Int} {r : List Int} (h5 : ∃ l f t b e : Int, r = [l, f, t, b, e]) {env : Env} (h7 : env[7]? = some (some (.int i))) (h8 : env[8]? = some (some (.int j))) (h10 : env[10]? = some (some (tupI r))) : t0_law [] env μ = some (.ok (rowIn i j r) μ) := by
  obtain ⟨l, f, t, b, e, rfl⟩ := h5
  by_cases c1 : f ≤ i <;> by_cases c2 : i ≤ t <;> by_cases c3 : b ≤ j <;> by_cases c4 : j ≤ e <;> simp [t0_law, h7, h8, h10, tupI, rowIn, c1, c2, c3, c4]
theorem q2_at {i j : Int} (hL : L.length < 64) (h5 : ∀ r ∈ L, ∃ l f t b e : Int, r = [l, f, t, b, e]) (due : Bool) :
    q2_law [] (lE a0 a2 p q (.lst (L.map tupI)) many (some (.int i)) (some (.int j)) (some (.bl due)) x10 x11 x12 x13) μ = some (.ok (due != !decide (L.filter (rowIn i j) = [])) μ) := by
  have key := mLc_pure (vs := [10]) (it := mIt (mVar 5)) (A := aName 10) (p := t0_law []) (f := mVar 10) (env := lE a0 a2 p q (.lst (L.map tupI)) many (some (.int i)) (some (.int j)) (some (.bl due)) x10 x11 x12 x13) (μ := μ) (μ1 := μ) (ds := L.map tupI)
    (rowInD i j) id (by simp) (by rw [List.length_map]; omega) (fun d hd => by
      obtain ⟨r, hr, rfl⟩ := List.mem_map.mp hd
      refine ⟨_, rfl, ?_, fun _ => by simp [wipeE]⟩
      rw [t0_at (i := i) (j := j) (r := r) (h5 r hr) rfl rfl rfl]
      obtain ⟨l, f, t, b, e, rfl⟩ := h5 r hr
      rfl)
  have e : (L.map tupI).filter (rowInD i j) = (L.filter (rowIn i j)).map tupI := by
    rw [List.filter_map]
    congr 1
    exact List.filter_congr fun r hr => by
      obtain ⟨l, f, t, b, e, rfl⟩ := h5 r hr
      rfl
  rw [e, List.map_id] at key
  have hf := fits_tups 62 (L.filter (rowIn i j))
  unfold q2_law
  rw [ap_mTest, ap_bnd, ap_mBin, ap_bnd]
  rw [show mVar 9 (lE a0 a2 p q (.lst (L.map tupI)) many (some (.int i)) (some (.int j)) (some (.bl due)) x10 x11 x12 x13) μ = some (.ok (.bl due) μ) from rfl]
  simp only
  rw [ap_bnd, ap_mBin, ap_bnd, key]
  simp [hf, deqs_tups]
  generalize decide (∀ a, a ∈ L → rowIn i j a = false) = z
  cases due <;> cases z <;> rfl
theorem q1_law_at (vp : Valid p) (vq : Valid q) {F : D} {i j : Nat} (hi : i ≤ p.length) (hj : j ≤ q.length) :
    q1_law [] (lE a0 a2 p q F many (some (.int (i : Nat))) (some (.int (j : Nat))) (some (.bl (shr (hAt p i) (hAt q j)))) x10 x11 x12 x13) μ = some (.ok false μ) := by
  have mk := v_make vp vq (l := mCons (mVar 3) (mCons (mVar 4) mNil)) (env := lE a0 a2 p q F many (some (.int (i : Nat))) (some (.int (j : Nat))) (some (.bl (shr (hAt p i) (hAt q j)))) x10 x11 x12 x13) (μ := μ) (μ' := μ) (by simp)
  have ib := v_is_barred vp vq hi hj
  have al := alike_bl 5 (shr (hAt p i) (hAt q j))
  simp [q1_law, mk, ib, al]
/-- the sorted rows -/
abbrev srt (p q : List Stp) : List (List Int) := sortK (TS.code cB) (rowsL p q)
theorem srt_mem {r : List Int} : r ∈ srt p q ↔ r ∈ rowsL p q := (sortK_perm (key := TS.code cB) (rowsL p q)).mem_iff
theorem srt_five (vp : Valid p) (vq : Valid q) : ∀ r ∈ srt p q, ∃ l f t b e : Int, r = [l, f, t, b, e] := fun r hr => by
  obtain ⟨l, f, t, b, e, h, _⟩ := row_of vp vq (srt_mem.mp hr)
  exact ⟨l, f, t, b, e, h⟩
theorem srt_len : (srt p q).length = (rowsL p q).length := (sortK_perm (key := TS.code cB) (rowsL p q)).length_eq
theorem rows_bar (vp : Valid p) (vq : Valid q) {i j : Nat} (hi : i ≤ p.length) (hj : j ≤ q.length) : shr (hAt p i) (hAt q j) = !decide ((srt p q).filter (rowIn i j) = []) := by
  have h := barred_iff vp vq hi hj
  rw [Bool.eq_iff_iff, h]
  rw [Bool.not_eq_true', decide_eq_false_iff_not, List.filter_eq_nil_iff]
  constructor
  · rintro ⟨t, ht, u, hu, e, ⟨a1, a2⟩, b1, b2⟩ no
    refine no [t.1, t.2.1, t.2.2, u.2.1, u.2.2] (srt_mem.mpr (List.mem_flatMap.mpr ⟨t, ht, List.mem_map.mpr ⟨u, List.mem_filter.mpr ⟨hu, by simp [e]⟩, rfl⟩⟩)) ?_
    simp [rowIn, a1, a2, b1, b2]
  · intro no
    refine Classical.byContradiction fun nx => no fun r hr hin => ?_
    obtain ⟨t, ht, hr⟩ := List.mem_flatMap.mp (srt_mem.mp hr)
    obtain ⟨u, hu, rfl⟩ := List.mem_map.mp hr
    obtain ⟨hu1, hu2⟩ := List.mem_filter.mp hu
    simp only [rowIn, Bool.and_eq_true, decide_eq_true_eq] at hin
    exact nx ⟨t, ht, u, hu1, by simpa using hu2, ⟨hin.1.1, hin.1.2⟩, hin.2.1, hin.2.2⟩
theorem l0_at (vp : Valid p) (vq : Valid q) {i j : Nat} (hi : i ≤ p.length) (hj : j ≤ q.length) :
    l0_law [] (lE a0 a2 p q (.lst ((srt p q).map tupI)) many (some (.int (i : Nat))) (some (.int (j : Nat))) x9 x10 x11 x12 x13) μ =
      some (.nx (lE a0 a2 p q (.lst ((srt p q).map tupI)) many (some (.int (i : Nat))) (some (.int (j : Nat))) (some (.bl (shr (hAt p i) (hAt q j)))) x10 x11 x12 x13) μ) := by
  have vo := v_open vp vq hi hj
  have h1 : (mNot (mFn (g_open []) 0 3 [] (noErr (f_open [])) (rCons (mVar 3) (rCons (mVar 4) (rCons (mTup (mCons (mVar 7) (mCons (mVar 8) mNil))) rNil))))) (lE a0 a2 p q (.lst ((srt p q).map tupI)) many (some (.int (i : Nat))) (some (.int (j : Nat))) x9 x10 x11 x12 x13) μ =
      some (.ok (.bl (shr (hAt p i) (hAt q j))) μ) := by
    simp [vo]
  have few := rows_few vp vq
  have h2 := q2_at (a0 := a0) (a2 := a2) (p := p) (q := q) (many := many) (x10 := x10) (x11 := x11) (x12 := x12) (x13 := x13) (μ := μ) (i := (i : Int)) (j := (j : Int)) (by rw [srt_len]; omega) (srt_five vp vq) (shr (hAt p i) (hAt q j))
  have h3 : (shr (hAt p i) (hAt q j) != !decide ((srt p q).filter (rowIn i j) = [])) = false := by rw [← rows_bar vp vq hi hj]; simp
  rw [h3] at h2
  unfold l0_law
  rw [seq_at (asg_at (i := 9) h1)]
  show sSeq _ _ (lE a0 a2 p q (.lst ((srt p q).map tupI)) many (some (.int (i : Nat))) (some (.int (j : Nat))) (some (.bl (shr (hAt p i) (hAt q j)))) x10 x11 x12 x13) μ = _
  rw [seq_at (if_no (q1_law_at vp vq hi hj)), if_no h2]
  rfl
theorem l1_at (vp : Valid p) (vq : Valid q) {i : Nat} (hi : i ≤ p.length) : ∃ y8 y9,
    l1_law [] (lE a0 a2 p q (.lst ((srt p q).map tupI)) many (some (.int (i : Nat))) x8 x9 x10 x11 x12 x13) μ = some (.nx (lE a0 a2 p q (.lst ((srt p q).map tupI)) many (some (.int (i : Nat))) y8 y9 x10 x11 x12 x13) μ) := by
  have lq := vq.len
  have hit : (mRng gRng1 (mCons (mBin dAdd (mCall gLen (mCons (mVar 4) mNil)) (Sh.ret (.int 1))) mNil)) (lE a0 a2 p q (.lst ((srt p q).map tupI)) many (some (.int (i : Nat))) x8 x9 x10 x11 x12 x13) μ = some (.ok (rng 0 (q.length + 1)) μ) := by
    have := gRng_ok (q.length + 1) (by omega)
    have e : ((q.length : Int) + 1) = ((q.length + 1 : Nat) : Int) := rfl
    simp [encP, dAdd]
    rw [e, this]
  obtain ⟨e', m', h1, y8, y9, rfl, rfl⟩ := rng_inv (A := aName 8) (s := l0_law []) (n := q.length + 1) (fun j e m => ∃ y8 y9, e = lE a0 a2 p q (.lst ((srt p q).map tupI)) many (some (.int (i : Nat))) y8 y9 x10 x11 x12 x13 ∧ m = μ) _ _ ⟨x8, x9, rfl, rfl⟩ (fun j e m hj h => by
    obtain ⟨y8, y9, rfl, rfl⟩ := h
    exact ⟨_, rfl, _, _, l0_at vp vq hi (by omega), _, _, rfl, rfl⟩)
  refine ⟨y8, y9, ?_⟩
  unfold l1_law
  rw [for_at hit]
  exact h1
theorem l1_loop (vp : Valid p) (vq : Valid q) : ∃ y7 y8 y9, forS (aName 7) (l1_law []) (rng 0 (p.length + 1)) (lE a0 a2 p q (.lst ((srt p q).map tupI)) many x7 x8 x9 x10 x11 x12 x13) μ = some (.nx (lE a0 a2 p q (.lst ((srt p q).map tupI)) many y7 y8 y9 x10 x11 x12 x13) μ) := by
  obtain ⟨e', m', h1, y7, y8, y9, rfl, rfl⟩ := rng_inv (A := aName 7) (s := l1_law []) (n := p.length + 1) (fun j e m => ∃ y7 y8 y9, e = lE a0 a2 p q (.lst ((srt p q).map tupI)) many y7 y8 y9 x10 x11 x12 x13 ∧ m = μ) _ _ ⟨x7, x8, x9, rfl, rfl⟩ (fun j e m hj h => by
    obtain ⟨y7, y8, y9, rfl, rfl⟩ := h
    obtain ⟨z8, z9, h⟩ := l1_at (a0 := a0) (a2 := a2) (many := many) (x8 := y8) (x9 := y9) (x10 := x10) (x11 := x11) (x12 := x12) (x13 := x13) (μ := m) vp vq (show j ≤ p.length by omega)
    exact ⟨_, rfl, _, _, h, _, _, _, rfl, rfl⟩)
  exact ⟨y7, y8, y9, h1⟩
end

end HD
namespace HD
open Sh
variable [Wd]
/-! ### a turn of the law, the law -/
abbrev yE (a0 : D) (x2 x3 x4 x5 x6 x7 x8 x9 x10 x11 x12 x13 : Option D) : Env := [some a0, none, x2, x3, x4, x5, x6, x7, x8, x9, x10, x11, x12, x13]
theorem srt_again {p q : List Stp} (vp : Valid p) (vq : Valid q) : sortK (TS.code cB) (srt p q) = srt p q := by
  have ok : ∀ r ∈ srt p q, r.length = 5 ∧ TS.Bd cB r := fun r hr => by
    have h := okT_rows vp vq r (srt_mem.mp hr)
    exact ⟨h.1, (okT_ok h.2).2⟩
  refine sorted_uniq (key := TS.code cB) (sortK_perm _) (fun x hx y hy z => ?_) (sortK_sorted _) (sortK_sorted _)
  obtain ⟨l1, b1⟩ := ok x ((sortK_perm (key := TS.code cB) (srt p q)).mem_iff.mp hx)
  obtain ⟨l2, b2⟩ := ok y ((sortK_perm (key := TS.code cB) (srt p q)).mem_iff.mp hy)
  exact code_inj (l1.trans l2.symm) b1 b2 z
section
variable {a0 a2 : D} {x3 x4 x5 x6 x7 x8 x9 x10 x11 x12 x13 : Option D} {s i : Int} {ns : List Int}
theorem l4_at (hn : ns.length ≤ 63) : ∃ (s' i' : Int) (ns' : List Int) (y3 y4 y5 y6 y7 y8 y9 y10 y11 y12 y13 : Option D), ns'.length = ns.length ∧
    l4_law [] (yE a0 (some a2) x3 x4 x5 x6 x7 x8 x9 x10 x11 x12 x13) [.hl s i, .lst (iDs ns)] = some (.nx (yE a0 (some a2) y3 y4 y5 y6 y7 y8 y9 y10 y11 y12 y13) [.hl s' i', .lst (iDs ns')]) := by
  obtain ⟨s', i', ns', p, q, hns, vp, vq, e1⟩ := v_pairs12 s i ns hn
  have c1 := mFnH (g := g_pairs []) (k := 0) (np := 2) (fm := f_pairs []) (l := rOwn 0 (rCons (Sh.ret (.int 12)) rNil)) (env := yE a0 (some a2) x3 x4 x5 x6 x7 x8 x9 x10 x11 x12 x13) (μ := [.hl s i, .lst (iDs ns)]) (rest := []) (ds := [.int 12]) (by simp [ap_rOwn]) rfl rfl rfl e1
  have few := rows_few vp vq
  have lp := vp.len
  have lq := vq.len
  -- the blocks
  have mk := v_make vp vq (l := mCons (mVar 3) (mCons (mVar 4) mNil)) (env := yE a0 (some a2) (some (encP p)) (some (encP q)) x5 x6 x7 x8 x9 x10 x11 x12 x13) (μ := [.hl s' i', .lst (iDs ns')]) (μ' := [.hl s' i', .lst (iDs ns')]) (by simp)
  have vb := v_blocks vp vq
  have c2 : (mFn (g_blocks []) 0 1 [] (noErr (f_blocks [])) (rCons (mMake "Pair" 3 (f_iniPair []) (mCons (mVar 3) (mCons (mVar 4) mNil))) rNil)) (yE a0 (some a2) (some (encP p)) (some (encP q)) x5 x6 x7 x8 x9 x10 x11 x12 x13) [.hl s' i', .lst (iDs ns')] =
      some (.ok (.lst ((srt p q).map tupI)) [.hl s' i', .lst (iDs ns')]) := by
    simp [mk, vb]
  -- they are sorted
  have gs : gSort [.lst ((srt p q).map tupI)] = some (.lst ((srt p q).map tupI)) := by
    have := gSort_rows (L := srt p q) (k := 5) (fun r hr => okT_rows vp vq r (srt_mem.mp hr)) (by omega) (by rw [srt_len]; omega)
    rwa [srt_again vp vq] at this
  have al := alike_rows (srt p q) (by rw [srt_len]; omega) (fun r hr => (okT_rows vp vq r (srt_mem.mp hr)).1)
  have c3 : q0_law [] (yE a0 (some a2) (some (encP p)) (some (encP q)) (some (.lst ((srt p q).map tupI))) x6 x7 x8 x9 x10 x11 x12 x13) [.hl s' i', .lst (iDs ns')] = some (.ok false [.hl s' i', .lst (iDs ns')]) := by
    simp [q0_law, gs, al]
  -- place by place
  have r1 : (mRng gRng1 (mCons (mBin dAdd (mCall gLen (mCons (mVar 3) mNil)) (Sh.ret (.int 1))) mNil)) (lE a0 a2 p q (.lst ((srt p q).map tupI)) 0 x7 x8 x9 x10 x11 x12 x13) [.hl s' i', .lst (iDs ns')] = some (.ok (rng 0 (p.length + 1)) [.hl s' i', .lst (iDs ns')]) := by
    have := gRng_ok (p.length + 1) (by omega)
    have e : ((p.length : Int) + 1) = ((p.length + 1 : Nat) : Int) := rfl
    simp [encP, dAdd]
    rw [e, this]
  obtain ⟨y7, y8, y9, c5⟩ := l1_loop (a0 := a0) (a2 := a2) (many := 0) (x7 := x7) (x8 := x8) (x9 := x9) (x10 := x10) (x11 := x11) (x12 := x12) (x13 := x13) (μ := [.hl s' i', .lst (iDs ns')]) vp vq
  -- lock by lock
  have r2 : (mRng gRng1 (mCons (Sh.ret (.int 4)) mNil)) (lE a0 a2 p q (.lst ((srt p q).map tupI)) 0 y7 y8 y9 x10 x11 x12 x13) [.hl s' i', .lst (iDs ns')] = some (.ok (rng 0 4) [.hl s' i', .lst (iDs ns')]) := by
    have g4 : gRng1 [.int 4] = some (rng 0 4) := gRng_ok 4 (by omega)
    simp [g4]
  obtain ⟨y11, y12, c6⟩ := l2_loop (a0 := a0) (a2 := a2) (found := .lst ((srt p q).map tupI)) (x7 := y7) (x8 := y8) (x9 := y9) (x10 := x10) (x11 := x11) (x12 := x12) (x13 := x13) (μ := [.hl s' i', .lst (iDs ns')]) lp lq
  -- row by row
  obtain ⟨y10, c7⟩ := l3_loop (a0 := a0) (a2 := a2) (found := .lst ((srt p q).map tupI)) (p := p) (q := q) (many := cnt p q 4) (x7 := y7) (x8 := y8) (x9 := y9) (x11 := y11) (x12 := y12) (x13 := x13) (μ := [.hl s' i', .lst (iDs ns')]) (srt p q) x10 (fun r hr => row_of vp vq (srt_mem.mp hr))
  have r3 : (mIt (mVar 5)) (lE a0 a2 p q (.lst ((srt p q).map tupI)) (cnt p q 4) y7 y8 y9 x10 y11 y12 x13) [.hl s' i', .lst (iDs ns')] = some (.ok ((srt p q).map tupI) [.hl s' i', .lst (iDs ns')]) := by simp
  have c8 : q6_law [] (lE a0 a2 p q (.lst ((srt p q).map tupI)) (cnt p q 4) y7 y8 y9 y10 y11 y12 x13) [.hl s' i', .lst (iDs ns')] = some (.ok false [.hl s' i', .lst (iDs ns')]) := by
    have e : cnt p q 4 = ((srt p q).length : Int) := by rw [cnt_rows vp vq, srt_len]
    rw [e]
    simp [q6_law]
  refine ⟨s', i', ns', some (encP p), some (encP q), some (.lst ((srt p q).map tupI)), some (.int (cnt p q 4)), y7, y8, y9, y10, y11, y12, x13, hns, ?_⟩
  unfold l4_law
  rw [seq_at (asg2_at (i := 3) (j := 4) c1)]
  show sSeq _ _ (yE a0 (some a2) (some (encP p)) (some (encP q)) x5 x6 x7 x8 x9 x10 x11 x12 x13) _ = _
  rw [seq_at (asg_at (i := 5) c2)]
  show sSeq _ _ (yE a0 (some a2) (some (encP p)) (some (encP q)) (some (.lst ((srt p q).map tupI))) x6 x7 x8 x9 x10 x11 x12 x13) _ = _
  rw [seq_at (if_no c3)]
  rw [seq_at (asg_at (i := 6) (d := .int 0) (μ' := [.hl s' i', .lst (iDs ns')]) rfl)]
  show sSeq _ _ (lE a0 a2 p q (.lst ((srt p q).map tupI)) 0 x7 x8 x9 x10 x11 x12 x13) _ = _
  rw [seq_at ((for_at r1).trans c5)]
  rw [seq_at ((for_at r2).trans c6)]
  rw [seq_at ((for_at r3).trans c7)]
  rw [if_no c8]
  rfl
end
theorem pure_law (ns : List Int) (hn : ns.length ≤ 63) : ∃ μ, f_law [] [some (.scr ns)] [.hid, .hid] = some (.ok (.bl true) μ) := by
  obtain ⟨s, hm⟩ := v_mix ns 2
  have m1 : (sMix 4 1 b_mix1 b_mix2 (rCons (mVar 0) (rCons (Sh.ret (.int 2)) rNil))) (yE (.scr ns) none none none none none none none none none none none none) [.hid, .hid] =
      some (.nx (yE (.scr ns) none none none none none none none none none none none none) [.hl s 0, .lst (iDs ns)]) := by
    unfold sMix
    rw [ap_sBnd]
    rw [ap_sSeq] at hm
    simp [isHl, hm]
    rfl
  have r0 : (mRng gRng1 (mCons (Sh.ret (.int 4)) mNil)) (yE (.scr ns) none none none none none none none none none none none none) [.hl s 0, .lst (iDs ns)] = some (.ok (rng 0 4) [.hl s 0, .lst (iDs ns)]) := by
    have g4 : gRng1 [.int 4] = some (rng 0 4) := gRng_ok 4 (by omega)
    simp [g4]
  obtain ⟨e', m', h1, s', i', ns', y2, y3, y4, y5, y6, y7, y8, y9, y10, y11, y12, y13, hl, rfl, rfl⟩ := rng_inv (A := aName 2) (s := l4_law []) (n := 4)
    (fun j e m => ∃ (s' i' : Int) (ns' : List Int) (y2 y3 y4 y5 y6 y7 y8 y9 y10 y11 y12 y13 : Option D), ns'.length = ns.length ∧ e = yE (.scr ns) y2 y3 y4 y5 y6 y7 y8 y9 y10 y11 y12 y13 ∧ m = [.hl s' i', .lst (iDs ns')])
    (yE (.scr ns) none none none none none none none none none none none none) [.hl s 0, .lst (iDs ns)] ⟨s, 0, ns, _, _, _, _, _, _, _, _, _, _, _, _, rfl, rfl, rfl⟩ (fun j e m hj h => by
      obtain ⟨s', i', ns', y2, y3, y4, y5, y6, y7, y8, y9, y10, y11, y12, y13, hl, rfl, rfl⟩ := h
      obtain ⟨s2, i2, ns2, z3, z4, z5, z6, z7, z8, z9, z10, z11, z12, z13, hl2, h⟩ := l4_at (a0 := .scr ns) (a2 := .int (j : Nat)) (x3 := y3) (x4 := y4) (x5 := y5) (x6 := y6) (x7 := y7) (x8 := y8) (x9 := y9) (x10 := y10) (x11 := y11) (x12 := y12) (x13 := y13) (s := s') (i := i') (ns := ns') (by omega)
      exact ⟨_, rfl, _, _, h, s2, i2, ns2, _, _, _, _, _, _, _, _, _, _, _, _, by omega, rfl, rfl⟩)
  refine ⟨[.hl s' i', .lst (iDs ns')], ?_⟩
  have b : b_law [] (yE (.scr ns) none none none none none none none none none none none none) [.hid, .hid] = some (.rt (.bl true) (yE (.scr ns) y2 y3 y4 y5 y6 y7 y8 y9 y10 y11 y12 y13) [.hl s' i', .lst (iDs ns')]) := by
    unfold b_law
    rw [seq_at m1, seq_at ((for_at r0).trans h1)]
    rfl
  have f : f_law [] [some (.scr ns)] [.hid, .hid] = (match b_law [] (yE (.scr ns) none none none none none none none none none none none none) [.hid, .hid] with
    | some (.nx _ μ') => some (.ok .non μ')
    | some (.rt d _ μ') => some (.ok d μ')
    | some (.er x fs _ μ') => some (.err x fs μ')
    | _ => none) := rfl
  rw [f, b]

end HD
set_option maxHeartbeats 0
open PySem PySem.W PySem.Calls PyProof.Rows
theorem HD.holds (pure_law : ∀ [Sh.Wd] (ns : List Int), ns.length ≤ 63 → ∃ μ, HD.f_law [] [some (.scr ns)] [.hid, .hid] = some (.ok (.bl true) μ)) : PySem.Challenge.rw_gridlocks_k02_whole_blocks.Holds := by
  w_on; o_law
  refine HandSHeadRun.head_any (r := OpenLaw.row PySem.Challenge.rw_gridlocks_k02_whole_blocks) (q := view (OpenLaw.row PySem.Challenge.rw_gridlocks_k02_whole_blocks).prog [36]) (H := HD.hk) (ob := HD.ob) (M := 8000) (loose := ("GridError" :: "BadProgram" :: "BadPlace" :: "MOST_STEPS" :: "MOST_LOCK" :: "is_number" :: "is_step" :: "can_follow" :: "held_behind" :: "check_program" :: "all_held" :: "hold_times" :: "Pair" :: "blocks" :: "open_places" :: "open_standings" :: "joined_by" :: "share_lock" :: "step_to" :: "moves_from" :: "is_barred" :: "_is_place" :: "_law_mix" :: "_law_next" :: "_law_alike" :: "_law_pick" :: "_law_program" :: "_law_pairs" :: "_law_held" :: "_law_open" :: [] : List Str)) (d := HandSHeadRun.topDef (OpenLaw.row PySem.Challenge.rw_gridlocks_k02_whole_blocks).prog 36) (kwd := []) HD.ob_eq
    (by kernel_rfl) (fun s => by kernel_rfl) HD.run (by kernel_rfl) (by kernel_rfl) (by kernel_rfl) (by rfl) (by first | assumption | decide +kernel) (by decide +kernel) ⟨rfl, rfl, rfl, rfl, rfl, by decide +kernel⟩ ?hw ?hc
  case hw => w_witness2
  case hc =>
    refine L2.walk_ofE (l := PySem.Challenge.rw_gridlocks_k02_whole_blocks) (n := 63) (k := 8) (x := "_law_script") (CX := L2.CX0) rfl (by decide) (by kernel_rfl) ⟨rfl, by decide, by decide⟩ ?F (fun _ _ _ _ z => z)
    intro w mg fa h Y G hmg0
    letI : Sh.Wd := ⟨w⟩
    obtain ⟨K, KX, c⟩ := Y
    have hmg : mg ("law" : PySem.Str) = some (.ref fa) := by
      have e : (HandSHeadRun.topDef (OpenLaw.row PySem.Challenge.rw_gridlocks_k02_whole_blocks).prog 36).name = ("law" : PySem.Str) := by kernel_rfl
      rw [← e]
      exact hmg0
    obtain ⟨fd, hb, hF⟩ := HD.facts (P := (PySem.Challenge.rw_gridlocks_k02_whole_blocks).prog) KX G hmg c
    exact ⟨K, fd, _, KX, hb, fun H a ns hl _ hS => HD.entry hS (pure_law ns hl) (fun _ => rfl), fun base _ _ => hF base⟩
theorem PySem.Challenge.cw_gridlocks_k02_whole_blocks_holds : PySem.Challenge.rw_gridlocks_k02_whole_blocks.Holds :=
  HD.holds HD.pure_law

