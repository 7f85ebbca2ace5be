import PyProof.Rows.All
import HandS.ForMost
import HandS.IsInst
import HandS.ForExc
import HandS.ExcIs
import HandS.ExcField
import KE.KDictWalk
import KE.KeyNested
import KE.KDictKeyed
import HandS.TupAny
import HandS.TupMul
import HandS.Zip
import KE.SortData
import KE.LtData
import KE.DataCmp
import HandS.Walk
import HandS.Conv
import HandS.CallLocal
import HandS.More
import HandS.HeadHook3
import HandS.Deep
import KE.GoesEnum
import KE.KIndexOf
import HandS.SetFor
import HandS.SetBool
import HandS.Strs
import HandS.Text
import HandS.TupSets
import HandS.List
import HandS.NestedK
import HandS.ExcInit
import HandS.ClsMeth
import HandS.FStr
import KE.KExcSuper
import KE.KExcIs
import PySem.Challenge.RW_sawwhen_k00_whole_errors
set_option Elab.async false
set_option linter.all false
set_option maxRecDepth 100000
set_option maxHeartbeats 4000000
/-! PL1: plain data over the tracked heap; states of plain cells; expressions as functions of such states -/
namespace PL
abbrev St := L2.St
open PySem PySem.Spec PyProof.Rows L2

inductive Rs (α : Type) where
  | ok (a : α) | ex (c : Nat) (fs : List PyData) | no
namespace Rs
def bnd {α β : Type} : Rs α → (α → Rs β) → Rs β
  | .ok a, f => f a
  | .ex c d, _ => .ex c d
  | .no, _ => .no
@[simp] theorem bnd_ok {α β : Type} (a : α) (f : α → Rs β) : (Rs.ok a).bnd f = f a := (Eq.refl _).trans (Eq.refl _)
@[simp] theorem bnd_no {α β : Type} (f : α → Rs β) : (Rs.no : Rs α).bnd f = .no := (Eq.refl _).trans (Eq.refl _)
@[simp] theorem bnd_ex {α β : Type} (c : Nat) (d : List PyData) (f : α → Rs β) : (Rs.ex c d : Rs α).bnd f = .ex c d := (Eq.refl _).trans (Eq.refl _)
theorem bnd_eq {α β : Type} {r : Rs α} {f : α → Rs β} {b : β} (h : r.bnd f = .ok b) : ∃ a, r = .ok a ∧ f a = .ok b := by
  cases r with
  | ok a => exact ⟨a, rfl, h⟩
  | ex c d => exact nomatch h
  | no => exact nomatch h
end Rs

/-- a text stands first -/
def strT : List PyData → Bool
  | .str _ :: _ => true
  | _ => false
/-- the object at a has no dict of its own -/
def NoD (K : PySem.W.Frag) (H : Hp) (a : Addr) : Prop := (∃ (o : Obj) (u : HO), o.dict = none ∧ H a = some (.frz o u)) ∨ ∃ o : Obj, K.lookup a = some o ∧ o.dict = none
theorem NoD.mono {K : PySem.W.Frag} {H H' : Hp} {a : Addr} (h : NoD K H a) (e : Same H H') : NoD K H' a := by
  rcases h with ⟨o, u, h1, h2⟩ | h
  · exact .inl ⟨o, u, h1, e _ _ h2⟩
  · exact .inr h
/-- a dict from ints to bools, as values -/
def dictV : List (PyData × PyData) → Option (List (Key × V))
  | [] => some []
  | (.int k, .bool b) :: r => (dictV r).map fun vs => (.inl k, .bl b) :: vs
  | _ => none
mutual
/-- the value v is the plain datum, over the tracked heap H -/
def R (K : PySem.W.Frag) (H : Hp) : PyData → V → Prop
  | .none, v => v = .non
  | .bool b, v => v = .bl b
  | .int i, v => v = .int i
  | .str x, v => v = .str x ∧ PyData.strOk x = true
  | .list ds, v => ds.length ≤ sizeLine ∧ ∃ a xs, v = .ref a ∧ SqL K H a xs ∧ RA K H ds xs
  | .tuple ds, v => ds.length ≤ sizeLine ∧ ∃ a xs, v = .ref a ∧ SqT K H a xs ∧ RA K H ds xs ∧ (NoD K H a ∨ strT ds = true)
  | .dict kvs, v => ∃ vs, dictV kvs = some vs ∧ ∃ a, v = .ref a ∧ H a = some (.dK vs)
def RA (K : PySem.W.Frag) (H : Hp) : List PyData → List V → Prop
  | [], xs => xs = []
  | d :: ds, xs => ∃ x r, xs = x :: r ∧ R K H d x ∧ RA K H ds r
end
section
variable {K : PySem.W.Frag} {H H' : Hp}
theorem sqt_mono (e : Same H H') {a : Addr} {xs : List V} (h : SqT K H a xs) : SqT K H' a xs := by
  rcases h with (h | ⟨o, h⟩) | h
  · exact .inl (.inl (e _ _ h))
  · exact .inl (.inr ⟨o, e _ _ h⟩)
  · exact .inr h
mutual
theorem R.mono (e : Same H H') : ∀ {d : PyData} {v : V}, R K H d v → R K H' d v
  | .none, _, h => by simpa [R] using h
  | .bool _, _, h => by simpa [R] using h
  | .int _, _, h => by simpa [R] using h
  | .str _, _, h => by simpa [R] using h
  | .list ds, v, h => by
    rw [R] at h ⊢
    obtain ⟨z, a, xs, e1, e2, e3⟩ := h
    exact ⟨z, a, xs, e1, e.seq e2, RA.mono e e3⟩
  | .tuple ds, v, h => by
    rw [R] at h ⊢
    obtain ⟨z, a, xs, e1, e2, e3⟩ := h
    exact ⟨z, a, xs, e1, sqt_mono e e2, RA.mono e e3.1, e3.2.imp (fun h => h.mono e) id⟩
  | .dict _, _, h => by
    rw [R] at h ⊢
    obtain ⟨vs, z, a, e1, e2⟩ := h
    exact ⟨vs, z, a, e1, e _ _ e2⟩
theorem RA.mono (e : Same H H') : ∀ {ds : List PyData} {vs : List V}, RA K H ds vs → RA K H' ds vs
  | [], _, h => by rw [RA] at h ⊢; exact h
  | d :: ds, vs, h => by
    rw [RA] at h ⊢
    obtain ⟨x, r, e1, e2, e3⟩ := h
    exact ⟨x, r, e1, R.mono e e2, RA.mono e e3⟩
end
theorem RA.len : ∀ {ds : List PyData} {vs : List V}, RA K H ds vs → vs.length = ds.length
  | [], _, h => by rw [RA] at h; rw [h]; rfl
  | d :: ds, vs, h => by
    rw [RA] at h
    obtain ⟨x, r, e1, e2, e3⟩ := h
    rw [e1, List.length_cons, List.length_cons, RA.len e3]
theorem RA.nil : RA K H [] [] := by rw [RA]
theorem RA.cons {d : PyData} {ds : List PyData} {x : V} {xs : List V} (h : R K H d x) (t : RA K H ds xs) : RA K H (d :: ds) (x :: xs) := by
  rw [RA]; exact ⟨x, xs, rfl, h, t⟩
theorem RA.inv {d : PyData} {ds : List PyData} {vs : List V} (h : RA K H (d :: ds) vs) : ∃ x r, vs = x :: r ∧ R K H d x ∧ RA K H ds r := by rw [RA] at h; exact h
theorem RA.inv0 {vs : List V} (h : RA K H [] vs) : vs = [] := by rw [RA] at h; exact h
theorem RA.inv1 {d : PyData} {vs : List V} (h : RA K H [d] vs) : ∃ x, vs = [x] ∧ R K H d x := by
  obtain ⟨x, r, e, h1, h2⟩ := h.inv
  exact ⟨x, by rw [e, h2.inv0], h1⟩
theorem RA.inv2 {d e : PyData} {vs : List V} (h : RA K H [d, e] vs) : ∃ x y, vs = [x, y] ∧ R K H d x ∧ R K H e y := by
  obtain ⟨x, r, e, h1, h2⟩ := h.inv
  obtain ⟨y, e2, h3⟩ := h2.inv1
  exact ⟨x, y, by rw [e, e2], h1, h3⟩
theorem RA.append : ∀ {ds es : List PyData} {vs ws : List V}, RA K H ds vs → RA K H es ws → RA K H (ds ++ es) (vs ++ ws)
  | [], _, _, _, h, t => by rw [h.inv0]; exact t
  | d :: ds, _, _, _, h, t => by
    obtain ⟨x, r, e, h1, h2⟩ := h.inv
    rw [e]
    exact .cons h1 (h2.append t)
theorem RA.get : ∀ {ds : List PyData} {vs : List V} {i : Nat} {d : PyData}, RA K H ds vs → ds[i]? = some d → ∃ x, vs[i]? = some x ∧ R K H d x
  | [], _, _, _, _, e => by simp at e
  | d :: ds, vs, 0, d', h, e => by
    obtain ⟨x, r, rfl, h1, h2⟩ := h.inv
    simp at e; subst e
    exact ⟨x, rfl, h1⟩
  | d :: ds, vs, i + 1, d', h, e => by
    obtain ⟨x, r, rfl, h1, h2⟩ := h.inv
    obtain ⟨y, e1, e2⟩ := h2.get (i := i) (by simpa using e)
    exact ⟨y, by simpa using e1, e2⟩
theorem RA.getV : ∀ {ds : List PyData} {vs : List V} {i : Nat} {x : V}, RA K H ds vs → vs[i]? = some x → ∃ d, ds[i]? = some d ∧ R K H d x
  | [], _, _, _, h, e => by rw [h.inv0] at e; simp at e
  | d :: ds, vs, 0, x', h, e => by
    obtain ⟨x, r, rfl, h1, h2⟩ := h.inv
    simp at e; subst e
    exact ⟨d, rfl, h1⟩
  | d :: ds, vs, i + 1, x', h, e => by
    obtain ⟨x, r, rfl, h1, h2⟩ := h.inv
    obtain ⟨y, e1, e2⟩ := h2.getV (i := i) (by simpa using e)
    exact ⟨y, by simpa using e1, e2⟩
theorem RA.set {d : PyData} {x : V} (r : R K H d x) : ∀ {ds : List PyData} {vs : List V} (i : Nat), RA K H ds vs → RA K H (ds.set i d) (vs.set i x)
  | [], _, _, h => by rw [h.inv0]; exact .nil
  | _ :: _, _, 0, h => by
    obtain ⟨y, q, rfl, h1, h2⟩ := h.inv
    exact .cons r h2
  | _ :: _, _, i + 1, h => by
    obtain ⟨y, q, rfl, h1, h2⟩ := h.inv
    exact .cons h1 (h2.set r i)
theorem RA.drop : ∀ {ds : List PyData} {vs : List V} (n : Nat), RA K H ds vs → RA K H (ds.drop n) (vs.drop n)
  | _, _, 0, h => h
  | [], _, _ + 1, h => by rw [h.inv0]; exact .nil
  | _ :: _, _, n + 1, h => by
    obtain ⟨y, q, rfl, h1, h2⟩ := h.inv
    exact h2.drop n
theorem RA.take : ∀ {ds : List PyData} {vs : List V} (n : Nat), RA K H ds vs → RA K H (ds.take n) (vs.take n)
  | _, _, 0, h => .nil
  | [], _, _ + 1, h => by rw [h.inv0]; exact .nil
  | _ :: _, _, n + 1, h => by
    obtain ⟨y, q, rfl, h1, h2⟩ := h.inv
    exact .cons h1 (h2.take n)
theorem RA.eraseIdx : ∀ {ds : List PyData} {vs : List V} (n : Nat), RA K H ds vs → RA K H (ds.eraseIdx n) (vs.eraseIdx n)
  | [], _, _, h => by rw [h.inv0]; exact .nil
  | _ :: _, _, 0, h => by
    obtain ⟨y, q, rfl, h1, h2⟩ := h.inv
    exact h2
  | _ :: _, _, n + 1, h => by
    obtain ⟨y, q, rfl, h1, h2⟩ := h.inv
    exact .cons h1 (h2.eraseIdx n)
theorem RA.reverse : ∀ {ds : List PyData} {vs : List V}, RA K H ds vs → RA K H ds.reverse vs.reverse
  | [], _, h => by rw [h.inv0]; exact .nil
  | d :: ds, _, h => by
    obtain ⟨y, q, rfl, h1, h2⟩ := h.inv
    rw [List.reverse_cons, List.reverse_cons]
    exact h2.reverse.append (.cons h1 .nil)
theorem RA.rep {ds : List PyData} {vs : List V} (h : RA K H ds vs) : ∀ k : Nat, RA K H (List.replicate k ds).flatten (List.replicate k vs).flatten
  | 0 => .nil
  | k + 1 => by rw [List.replicate_succ, List.replicate_succ, List.flatten_cons, List.flatten_cons]; exact h.append (h.rep k)
theorem RA.ints : ∀ {ns : List Int}, RA K H (ns.map .int) (ns.map .int)
  | [] => .nil
  | n :: ns => .cons (by rw [R]) RA.ints
mutual
/-- no dict in it -/
def nod : PyData → Bool
  | .list ds => nodAll ds
  | .tuple ds => nodAll ds
  | .dict _ => false
  | _ => true
def nodAll : List PyData → Bool
  | [] => true
  | d :: ds => nod d && nodAll ds
end
mutual
theorem R.dp : ∀ {d : PyData} {v : V}, R K H d v → nod d = true → Dp K H v d
  | .none, _, h, _ => by rw [R] at h; rw [h]; exact .non
  | .bool _, _, h, _ => by rw [R] at h; rw [h]; exact .bl _
  | .int _, _, h, _ => by rw [R] at h; rw [h]; exact .int _
  | .str _, _, h, _ => by rw [R] at h; rw [h.1]; exact .str _
  | .list ds, v, h, n => by
    rw [R] at h
    obtain ⟨z, a, xs, e1, e2, e3⟩ := h
    rw [e1]
    exact .lst e2 (RA.dp e3 (by simpa [nod] using n))
  | .tuple ds, v, h, n => by
    rw [R] at h
    obtain ⟨z, a, xs, e1, e2, e3⟩ := h
    rw [e1]
    exact .tup e2 (RA.dp e3.1 (by simpa [nod] using n))
  | .dict _, _, h, n => by simp [nod] at n
theorem RA.dp : ∀ {ds : List PyData} {vs : List V}, RA K H ds vs → nodAll ds = true → DpAll K H vs ds
  | [], _, h, _ => by rw [h.inv0]; exact .nil
  | d :: ds, vs, h, n => by
    obtain ⟨x, r, e1, e2, e3⟩ := h.inv
    rw [e1]
    rw [nodAll, Bool.and_eq_true] at n
    exact .cons (R.dp e2 n.1) (RA.dp e3 n.2)
end
mutual
theorem R.canLay : ∀ {d : PyData} {v : V}, R K H d v → nod d = true → d.canLay0 = true
  | .none, _, _, _ => by simp [PyData.canLay0]
  | .bool _, _, _, _ => by simp [PyData.canLay0]
  | .int _, _, _, _ => by simp [PyData.canLay0]
  | .str _, _, h, _ => by rw [R] at h; simp [PyData.canLay0, h.2]
  | .list ds, v, h, n => by
    rw [R] at h
    obtain ⟨z, a, xs, e1, e2, e3⟩ := h
    simpa [PyData.canLay0] using RA.canLay e3 (by simpa [nod] using n)
  | .tuple ds, v, h, n => by
    rw [R] at h
    obtain ⟨z, a, xs, e1, e2, e3⟩ := h
    simpa [PyData.canLay0] using RA.canLay e3.1 (by simpa [nod] using n)
  | .dict _, _, h, n => by simp [nod] at n
theorem RA.canLay : ∀ {ds : List PyData} {vs : List V}, RA K H ds vs → nodAll ds = true → PyData.canLayAll0 ds = true
  | [], _, _, _ => by simp [PyData.canLayAll0]
  | d :: ds, vs, h, n => by
    obtain ⟨x, r, e1, e2, e3⟩ := h.inv
    rw [nodAll, Bool.and_eq_true] at n
    simp [PyData.canLayAll0, R.canLay e2 n.1, RA.canLay e3 n.2]
end
end

/-! ### hiding -/
open Classical in
noncomputable def hide (N : Addr → Prop) (H : Hp) : Hp := fun a => if N a then none else H a
section
variable {N N' : Addr → Prop} {H H' : Hp}
theorem hide_some {a : Addr} {o : HO} (h : hide N H a = some o) : ¬ N a ∧ H a = some o := by
  unfold hide at h
  split at h
  · exact nomatch h
  · exact ⟨by assumption, h⟩
theorem hide_of {a : Addr} {o : HO} (n : ¬ N a) (h : H a = some o) : hide N H a = some o := by
  unfold hide; rw [if_neg n]; exact h
theorem hide_le : Same (hide N H) H := fun _ _ h => (hide_some h).2
theorem hide_same (e : Same H H') : Same (hide N H) (hide N H') := fun _ _ h => hide_of (hide_some h).1 (e _ _ (hide_some h).2)
theorem hide_anti (e : ∀ a, N' a → N a) : Same (hide N H) (hide N' H) := fun _ _ h => hide_of (fun z => (hide_some h).1 (e _ z)) (hide_some h).2
end

/-! ### states -/
/-- what a slot has for itself, as a tree: plain values, lists, dicts, objects by their class and fields -/
inductive OC where
  | p (d : PyData)
  | l (cs : List OC)
  | d (kvs : List (PyData × PyData))
  | o (c : Str) (ns : List Str) (cs : List OC)
inductive Cell where
  | pub (d : PyData)
  | own (ds : List PyData)
  | odc (kvs : List (PyData × PyData))
  | odi (kvs : List (Int × PyData))
  | dsp (D s : Str)
  | hot
  | obj (c : OC)
  | prf (j k : Nat)
abbrev Ev := List (Option Cell)
/-- the written part, the program, the world -/
structure KB where
  K : PySem.W.Frag
  P : Program
  w : World
abbrev _root_.L2.Cx.kb (X : Cx) : KB := ⟨X.K, X.prog, X.w⟩
/-- what is hidden from the def at its entry, and the heap then -/
structure FC where
  hid : Addr → Prop
  H0 : Hp
  /-- the exception that is in hand -/
  ht : Option Addr := none
  /-- the classes of exceptions that may leave, with the field that they have -/
  xm : Nat → Option (Addr × Option Str) := fun _ => none
  /-- what is wished of them -/
  W : WX := fun _ _ _ _ => False
  /-- the things that were handed in -/
  fix : Nat → Option Addr := fun _ => none
abbrev Own := Nat → Option Addr
def NN (F : FC) (O : Own) : Addr → Prop := fun a => F.hid a ∨ ∃ i, O i = some a
/-! keys of dicts; what a dict of one's own holds -/
mutual
def nkOf : PyData → Option NestedKey
  | .none => some .none
  | .bool b => some (.num (if b = true then 1 else 0))
  | .int i => some (.num i)
  | .str x => some (.text x)
  | .tuple ds => (nkAll ds).map .tup
  | _ => none
def nkAll : List PyData → Option (List NestedKey)
  | [] => some []
  | d :: ds => (nkOf d).bind fun k => (nkAll ds).map fun ks => k :: ks
end
abbrev EntK := NestedKey × Addr × Value
def DK (K : PySem.W.Frag) (G : Hp) : List (PyData × PyData) → List EntK → Prop
  | [], xs => xs = []
  | p :: r, xs => ∃ (nk : NestedKey) (ad : Addr) (vl : Value) (v : V) (t : List EntK), xs = (nk, ad, vl) :: t ∧ nkOf p.1 = some nk ∧ nk.depth ≤ 8 ∧ R K G p.1 (.ref ad) ∧ RelV v vl ∧ R K G p.2 v ∧ DK K G r t
theorem DK.mono {K : PySem.W.Frag} {G G' : Hp} (e : Same G G') : ∀ {kvs : List (PyData × PyData)} {xs : List EntK}, DK K G kvs xs → DK K G' kvs xs
  | [], _, h => h
  | _ :: _, _, ⟨nk, ad, vl, v, t, h1, h2, h3, h4, h5, h6, h7⟩ => ⟨nk, ad, vl, v, t, h1, h2, h3, h4.mono e, h5, h6.mono e, DK.mono e h7⟩
theorem DK.len {K : PySem.W.Frag} {G : Hp} : ∀ {kvs : List (PyData × PyData)} {xs : List EntK}, DK K G kvs xs → xs.length = kvs.length
  | [], _, h => by rw [show _ = [] from h]; rfl
  | _ :: _, _, ⟨nk, ad, vl, v, t, h1, h2, h3, h4, h5, h6, h7⟩ => by rw [h1, List.length_cons, List.length_cons, DK.len h7]
/-- a dict by its entries -/
def dicO (a : Addr) (es : Array DictEntry) (ep : Nat) : HO := .ext fun h => h.DictRaw a es ep
/-- the table D of the top has the object a at s -/
def dspAt (K : KB) (D s : Str) (a : Addr) : Prop := ∃ p, PySem.W.nsIn K.K mainGlobals D = some (some (.ref p)) ∧ PySem.W.nsIn K.K p s = some (some (.ref a))
mutual
/-- the value v is the thing; A: the addresses that it takes -/
def CellAt (K : KB) (N : Addr → Prop) (H : Hp) : OC → V → List Addr → Prop
  | .p d, v, A => A = [] ∧ R K.K (hide N H) d v
  | .l cs, v, A => ∃ a xs B, A = a :: B ∧ v = .ref a ∧ cs.length ≤ sizeLine ∧ H a = some (.lst xs) ∧ CellsAt K N H cs xs B
  | .d kvs, v, A => kvs.length ≤ sizeLine ∧ ∃ a es ep xs, A = [a] ∧ v = .ref a ∧ H a = some (dicO a es ep) ∧ (a == sysModules) = false ∧ es.toList = xs.map (entryOfKey (nestedKind K.P K.w)) ∧ (xs.map (·.1)).Nodup ∧ DK K.K (hide N H) kvs xs
  | .o c ns cs, v, A => ∃ a dx C xs B, A = a :: dx :: B ∧ v = .ref a ∧ PySem.W.nsIn K.K mainGlobals c = some (some (.ref C)) ∧ ns.length = cs.length ∧ H a = some (.ins C dx (ns.zip xs)) ∧ H dx = some (.own a) ∧ CellsAt K N H cs xs B
def CellsAt (K : KB) (N : Addr → Prop) (H : Hp) : List OC → List V → List Addr → Prop
  | [], xs, A => xs = [] ∧ A = []
  | c :: cs, xs, A => ∃ x r A1 A2, xs = x :: r ∧ A = A1 ++ A2 ∧ CellAt K N H c x A1 ∧ CellsAt K N H cs r A2
end
section
variable {K : KB} {N N' : Addr → Prop} {H H' : Hp}
mutual
theorem CellAt.move (v : Same (hide N H) (hide N' H')) : ∀ {c : OC} {x : V} {A : List Addr}, CellAt K N H c x A → (∀ a ∈ A, ∀ o, H a = some o → H' a = some o) → CellAt K N' H' c x A
  | .p d, x, A, h, _ => by rw [CellAt] at h ⊢; exact ⟨h.1, h.2.mono v⟩
  | .l cs, x, A, h, e => by
    rw [CellAt] at h ⊢
    obtain ⟨a, xs, B, rfl, h2, h3, h4, h5⟩ := h
    exact ⟨a, xs, B, rfl, h2, h3, e a (by simp) _ h4, CellsAt.move v h5 fun b hb => e b (List.mem_cons_of_mem _ hb)⟩
  | .d kvs, x, A, h, e => by
    rw [CellAt] at h ⊢
    obtain ⟨z, a, es, ep, xs, rfl, h2, h3, h4, h5, h6, h7⟩ := h
    exact ⟨z, a, es, ep, xs, rfl, h2, e a (by simp) _ h3, h4, h5, h6, h7.mono v⟩
  | .o c ns cs, x, A, h, e => by
    rw [CellAt] at h ⊢
    obtain ⟨a, dx, C, xs, B, rfl, h2, h3, h4, h5, h6, h7⟩ := h
    exact ⟨a, dx, C, xs, B, rfl, h2, h3, h4, e a (by simp) _ h5, e dx (by simp) _ h6, CellsAt.move v h7 fun b hb => e b (by simp [hb])⟩
theorem CellsAt.move (v : Same (hide N H) (hide N' H')) : ∀ {cs : List OC} {xs : List V} {A : List Addr}, CellsAt K N H cs xs A → (∀ a ∈ A, ∀ o, H a = some o → H' a = some o) → CellsAt K N' H' cs xs A
  | [], xs, A, h, _ => by rw [CellsAt] at h ⊢; exact h
  | c :: cs, xs, A, h, e => by
    rw [CellsAt] at h ⊢
    obtain ⟨x, r, A1, A2, h1, rfl, h3, h4⟩ := h
    exact ⟨x, r, A1, A2, h1, rfl, CellAt.move v h3 fun a ha => e a (List.mem_append_left _ ha), CellsAt.move v h4 fun a ha => e a (List.mem_append_right _ ha)⟩
end
end
/-- a dict of one's own whose keys are ints, as it lies -/
def kvI (kvs : List (Int × PyData)) (vs : List V) : List (Key × V) := (kvs.map fun p => (Sum.inl p.1 : Key)).zip vs
/-- where the addresses of slot i's thing are kept -/
def ox (i k : Nat) : Nat := 1000 + i + 1000 * k
theorem ox_big (i k : Nat) : 1000 ≤ ox i k := by unfold ox; omega
theorem ox_inj {i j k l : Nat} (hi : i < 1000) (hj : j < 1000) (h : ox i k = ox j l) : i = j ∧ k = l := by unfold ox at h; omega
def SlotOk (K : KB) (ht : Option Addr) (N : Addr → Prop) (O : Own) (H : Hp) (i : Nat) (σ : St) : Cell → Prop
  | .pub d => ∃ v, σ[i]? = some (some v) ∧ R K.K (hide N H) d v
  | .own ds => ds.length ≤ sizeLine ∧ ∃ a xs, O i = some a ∧ σ[i]? = some (some (.ref a)) ∧ H a = some (.lst xs) ∧ RA K.K (hide N H) ds xs
  | .odc kvs => kvs.length ≤ sizeLine ∧ ∃ a es ep xs, O i = some a ∧ σ[i]? = some (some (.ref a)) ∧ H a = some (dicO a es ep) ∧ (a == sysModules) = false ∧ es.toList = xs.map (entryOfKey (nestedKind K.P K.w)) ∧ (xs.map (·.1)).Nodup ∧ DK K.K (hide N H) kvs xs
  | .odi kvs => kvs.length ≤ sizeLine ∧ ∃ a vs, O i = some a ∧ σ[i]? = some (some (.ref a)) ∧ H a = some (.dK (kvI kvs vs)) ∧ RA K.K (hide N H) (kvs.map (·.2)) vs
  | .dsp D s => ∃ a, dspAt K D s a ∧ σ[i]? = some (some (.ref a))
  | .hot => ∃ a, ht = some a ∧ σ[i]? = some (some (.ref a))
  | .obj c => ∃ v A, σ[i]? = some (some v) ∧ A ≠ [] ∧ (∀ k, O (ox i k) = A[k]?) ∧ CellAt K N H c v A
  | .prf _ _ => True
structure Obs (fix : Nat → Option Addr) (O : Own) (ρ : Ev) (σ : St) : Prop where
  sz : ρ.length ≤ 1000
  fx : ∀ (i : Nat) (a : Addr) (c : OC), fix i = some a → ρ[i]? = some (some (Cell.obj c)) → O (ox i 0) = some a
  als : ∀ (i j k : Nat) (c : OC), ρ[i]? = some (some (Cell.prf j k)) → ρ[j]? = some (some (Cell.obj c)) → ∃ a : Addr, O (ox j k) = some a ∧ σ[i]? = some (some (V.ref a))
structure Rel (K : KB) (F : FC) (O : Own) (ρ : Ev) (σ : St) (H : Hp) : Prop where
  len : σ.length = ρ.length
  inj : ∀ i j a, O i = some a → O j = some a → i = j
  live : ∀ i a, O i = some a → H a ≠ none
  hidl : ∀ a, F.hid a → F.H0 a ≠ none
  base : ∀ a x, F.H0 a = some x → H a = some x ∧ ∀ i, O i ≠ some a
  slots : ∀ i c, ρ[i]? = some (some c) → SlotOk K F.ht (NN F O) O H i σ c
  obs : Obs F.fix O ρ σ
section
variable {K : KB} {F : FC} {O : Own} {ρ : Ev} {σ : St} {H H' : Hp}
theorem own_big {i j : Nat} (h : j = i ∨ ∃ k, j = ox i k) : j = i ∨ 1000 ≤ j := h.imp id fun ⟨k, e⟩ => by rw [e]; exact ox_big i k
theorem SlotOk.move {ht : Option Addr} {N N' : Addr → Prop} {O' : Own} {i : Nat} {c : Cell} {σ' : St} (h : SlotOk K ht N O H i σ c) (v : Same (hide N H) (hide N' H')) (eo : ∀ j, (j = i ∨ ∃ k, j = ox i k) → O' j = O j) (es : σ'[i]? = σ[i]?) (ea : ∀ j a x, (j = i ∨ ∃ k, j = ox i k) → O j = some a → H a = some x → H' a = some x) : SlotOk K ht N' O' H' i σ' c := by
  cases c with
  | pub d => obtain ⟨w, h1, h2⟩ := h; exact ⟨w, es.trans h1, h2.mono v⟩
  | own ds => obtain ⟨z, a, xs, h1, h2, h3, h4⟩ := h; exact ⟨z, a, xs, (eo i (.inl rfl)).trans h1, es.trans h2, ea i a _ (.inl rfl) h1 h3, h4.mono v⟩
  | odc kvs => obtain ⟨z, a, en, ep, xs, h1, h2, h3, h4, h5, h6, h7⟩ := h; exact ⟨z, a, en, ep, xs, (eo i (.inl rfl)).trans h1, es.trans h2, ea i a _ (.inl rfl) h1 h3, h4, h5, h6, h7.mono v⟩
  | odi kvs => obtain ⟨z, a, vs, h1, h2, h3, h4⟩ := h; exact ⟨z, a, vs, (eo i (.inl rfl)).trans h1, es.trans h2, ea i a _ (.inl rfl) h1 h3, h4.mono v⟩
  | dsp D s => obtain ⟨a, h1, h2⟩ := h; exact ⟨a, h1, es.trans h2⟩
  | hot => obtain ⟨a, h1, h2⟩ := h; exact ⟨a, h1, es.trans h2⟩
  | obj oc =>
    obtain ⟨w, A, h1, h2, h3, h4⟩ := h
    refine ⟨w, A, es.trans h1, h2, fun k => (eo _ (.inr ⟨k, rfl⟩)).trans (h3 k), h4.move v fun a ha o q => ?_⟩
    obtain ⟨k, hk, e⟩ := List.mem_iff_getElem.mp ha
    exact ea (ox i k) a o (.inr ⟨k, rfl⟩) ((h3 k).trans (by rw [List.getElem?_eq_getElem hk, e])) q
  | prf j k => trivial
theorem SlotOk.mono {ht : Option Addr} {N : Addr → Prop} {i : Nat} {c : Cell} (e : Same H H') (h : SlotOk K ht N O H i σ c) : SlotOk K ht N O H' i σ c := h.move (hide_same e) (fun _ _ => rfl) rfl fun _ a x _ _ q => e a x q
theorem Obs.set {fix : Nat → Option Addr} {O O' : Own} {ρ : Ev} {σ σ' : St} (h : Obs fix O ρ σ) {i : Nat} {c : Option Cell} (ho : ∀ j, 1000 ≤ j → O' j = O j) (hs : ∀ j, j ≠ i → σ'[j]? = σ[j]?) (hc : ∀ oc, c ≠ some (.obj oc)) (hp : ∀ j k, c ≠ some (.prf j k)) : Obs fix O' (ρ.set i c) σ' := by
  have ne : ∀ {j : Nat} {c' : Cell}, (ρ.set i c)[j]? = some (some c') → (j ≠ i ∧ ρ[j]? = some (some c')) ∨ (j = i ∧ c = some c') := fun {j c'} e => by
    by_cases q : j = i
    · subst q
      by_cases hl : j < ρ.length
      · rw [List.getElem?_set_self hl] at e
        exact .inr ⟨rfl, Option.some.inj e⟩
      · rw [List.getElem?_eq_none (by simpa using hl)] at e; exact nomatch e
    · rw [List.getElem?_set_ne (Ne.symm q)] at e
      exact .inl ⟨q, e⟩
  refine ⟨by rw [List.length_set]; exact h.sz, fun j a oc e1 e2 => ?_, fun j1 j k oc e1 e2 => ?_⟩
  · rcases ne e2 with ⟨_, e⟩ | ⟨_, e⟩
    · rw [ho _ (ox_big _ _)]; exact h.fx j a oc e1 e
    · exact absurd e (hc oc)
  · rcases ne e1 with ⟨n1, e1⟩ | ⟨_, e⟩
    · rcases ne e2 with ⟨_, e2⟩ | ⟨_, e⟩
      · obtain ⟨a, h1, h2⟩ := h.als j1 j k oc e1 e2
        exact ⟨a, by rw [ho _ (ox_big _ _)]; exact h1, by rw [hs j1 n1]; exact h2⟩
      · exact absurd e (hc oc)
    · exact absurd e (hp _ _)
theorem same_ne {a : Addr} (e : Same H H') (h : H a ≠ none) : H' a ≠ none := by
  cases q : H a with
  | none => exact absurd q h
  | some o => rw [e _ _ q]; simp
theorem Rel.mono (h : Rel K F O ρ σ H) (e : Same H H') : Rel K F O ρ σ H' :=
  ⟨h.len, h.inj, fun i a q => same_ne e (h.live i a q), h.hidl, fun a x q => ⟨e _ _ (h.base a x q).1, (h.base a x q).2⟩, fun i c q => (h.slots i c q).mono e, h.obs⟩
theorem Rel.nlive (h : Rel K F O ρ σ H) {a : Addr} (n : NN F O a) : H a ≠ none := by
  rcases n with n | ⟨i, n⟩
  · cases q : F.H0 a with
    | none => exact absurd q (h.hidl a n)
    | some o => rw [(h.base a o q).1]; simp
  · exact h.live i a n
theorem Rel.nfresh (h : Rel K F O ρ σ H) {a : Addr} (n : H a = none) : ¬ NN F O a := fun z => h.nlive z n
end

/-! ### readings by functions -/
def tP (K : KB) (F : FC) (f : Ev → Rs PyData) : TE := fun σ H Q => ∃ O ρ d, Rel K F O ρ σ H ∧ f ρ = .ok d ∧ ∀ v H', Same H H' → R K.K (hide (NN F O) H') d v → Q v H'
def tT (K : KB) (F : FC) (g : Ev → Rs Bool) : TT := fun σ H Q => ∃ O ρ b, Rel K F O ρ σ H ∧ g ρ = .ok b ∧ ∀ H', Same H H' → Q b H'
def tA (K : KB) (F : FC) (g : Ev → Rs (List PyData)) : TA := fun σ H Q => ∃ O ρ ds, Rel K F O ρ σ H ∧ g ρ = .ok ds ∧ ∀ vs H', Same H H' → RA K.K (hide (NN F O) H') ds vs → Q vs H'
abbrev EP' (X : Cx) (F : FC) (e : Expr) (f : Ev → Rs PyData) : Prop := PE X e (tP X.kb F f)
abbrev TP' (X : Cx) (F : FC) (e : Expr) (g : Ev → Rs Bool) : Prop := PT X e (tT X.kb F g)
abbrev AP' (X : Cx) (F : FC) (es : List Expr) (g : Ev → Rs (List PyData)) : Prop := PA X es (tA X.kb F g)
theorem wkE {X : Cx} {e : Expr} {t t' : TE} (h : PE X e t) (w : ∀ σ H Q, t' σ H Q → t σ H Q) : PE X e t' := ⟨fun pins s σ H Q I q => h.run pins s σ H Q I (w _ _ _ q)⟩
theorem wkT {X : Cx} {e : Expr} {t t' : TT} (h : PT X e t) (w : ∀ σ H Q, t' σ H Q → t σ H Q) : PT X e t' := ⟨fun pins s σ H Q I q => h.run pins s σ H Q I (w _ _ _ q)⟩
theorem wkW {X : Cx} {e : Expr} {t t' : TT} (h : PW X e t) (w : ∀ σ H Q, t' σ H Q → t σ H Q) : PW X e t' := ⟨fun wh pins s σ H Q I q => h.run wh pins s σ H Q I (w _ _ _ q)⟩
theorem wkA {X : Cx} {es : List Expr} {t t' : TA} (h : PA X es t) (w : ∀ σ H Q, t' σ H Q → t σ H Q) : PA X es t' := ⟨fun pos pins s σ H Q I q => h.run pos pins s σ H Q I (w _ _ _ q)⟩
theorem wkS {X : Cx} {st : Stmt} {t t' : TS} (h : PS X st t) (w : ∀ D σ H, t' D σ H → t D σ H) : PS X st t' := ⟨fun pins s σ H D I q => h.run pins s σ H D I (w _ _ _ q)⟩
theorem wkSs {X : Cx} {st : List Stmt} {t t' : TS} (h : PSs X st t) (w : ∀ D σ H, t' D σ H → t D σ H) : PSs X st t' := ⟨fun pins s σ H D I q => h.run pins s σ H D I (w _ _ _ q)⟩

def getC : Ev → Nat → Option Cell
  | [], _ => none
  | c :: _, 0 => c
  | _ :: r, i + 1 => getC r i
theorem getC_iff : ∀ {ρ : Ev} {i : Nat} {c : Cell}, getC ρ i = some c ↔ ρ[i]? = some (some c)
  | [], _, _ => by simp [getC]
  | c :: _, 0, c' => by simp [getC]
  | _ :: r, i + 1, c => by simpa [getC] using getC_iff (ρ := r) (i := i)
def vr (i : Nat) : Ev → Rs PyData := fun ρ => match getC ρ i with | some (.pub d) => .ok d | _ => .no
def cn (d : PyData) : Ev → Rs PyData := fun _ => .ok d
def ap1 (op : PyData → Rs PyData) (f : Ev → Rs PyData) : Ev → Rs PyData := fun ρ => (f ρ).bnd op
def ap2 (op : PyData → PyData → Rs PyData) (f g : Ev → Rs PyData) : Ev → Rs PyData := fun ρ => (f ρ).bnd fun a => (g ρ).bnd fun b => op a b

section
variable {X : Cx} {F : FC}
theorem p_var {x : Str} {pos : Pos} (i : Nat) (h : PE X (.Name x pos) (tVar i)) : EP' X F (.Name x pos) (vr i) := wkE h fun σ H Q ⟨O, ρ, d, r, e, q⟩ => by
  unfold vr at e
  split at e
  · rename_i d' hd
    cases e
    obtain ⟨v, h1, h2⟩ := r.slots i _ (getC_iff.mp hd)
    exact ⟨v, h1, q v H (Same.refl H) h2⟩
  · exact nomatch e
theorem p_const {e : Expr} {v : V} {d : PyData} (h : PE X e (tC v)) (r : ∀ H, R X.K H d v) : EP' X F e (cn d) := wkE h fun σ H Q ⟨O, ρ, d', rl, he, q⟩ => by
  have e' : d = d' := Rs.ok.inj he
  exact q v H (Same.refl H) (e' ▸ r _)
theorem p_int {i j pos} : EP' X F (.Constant (.int i) j pos) (cn (.int i)) := p_const pe_int fun _ => by rw [R]
theorem p_bool {b j pos} : EP' X F (.Constant (.bool b) j pos) (cn (.bool b)) := p_const pe_bl fun _ => by rw [R]
theorem p_none {j pos} : EP' X F (.Constant .none j pos) (cn .none) := p_const pe_non fun _ => by rw [R]
theorem p_str {x j pos} (hs : PyData.strOk x = true := by decide +kernel) : EP' X F (.Constant (.str x) j pos) (cn (.str x)) := p_const pe_str fun _ => by rw [R]; exact ⟨rfl, hs⟩

/-- what an operator's rule asks, by data -/
def rP2 (K : PySem.W.Frag) (op : PyData → PyData → Rs PyData) : R2 := fun x y H Q => ∃ (N : Addr → Prop) (d1 d2 d : PyData), (∀ a, N a → H a ≠ none) ∧ R K (hide N H) d1 x ∧ R K (hide N H) d2 y ∧ op d1 d2 = .ok d ∧ ∀ v H', Same H H' → R K (hide N H') d v → Q v H'
def rP1 (K : PySem.W.Frag) (op : PyData → Rs PyData) : V → Hp → VK → Prop := fun x H Q => ∃ (N : Addr → Prop) (d1 d : PyData), (∀ a, N a → H a ≠ none) ∧ R K (hide N H) d1 x ∧ op d1 = .ok d ∧ ∀ v H', Same H H' → R K (hide N H') d v → Q v H'
def rPC (K : PySem.W.Frag) (op : List PyData → Rs PyData) : List V → Hp → VK → Prop := fun xs H Q => ∃ (N : Addr → Prop) (ds : List PyData) (d : PyData), (∀ a, N a → H a ≠ none) ∧ RA K (hide N H) ds xs ∧ op ds = .ok d ∧ ∀ v H', Same H H' → R K (hide N H') d v → Q v H'

theorem to2 {K : KB} {op : PyData → PyData → Rs PyData} {fa fb : Ev → Rs PyData} {σ : St} {H : Hp} {Q : VK} (h : tP K F (ap2 op fa fb) σ H Q) : tOp (rP2 K.K op) (tP K F fa) (tP K F fb) σ H Q := by
  obtain ⟨O, ρ, d, r, e, q⟩ := h
  obtain ⟨a, ea, e⟩ := Rs.bnd_eq e
  obtain ⟨b, eb, e⟩ := Rs.bnd_eq e
  refine ⟨O, ρ, a, r, ea, fun x H1 s1 r1 => ⟨O, ρ, b, r.mono s1, eb, fun y H2 s2 r2 => ⟨NN F O, a, b, d, fun z n => ((r.mono s1).mono s2).nlive n, r1.mono (hide_same s2), r2, e, fun v H' s3 r3 => q v H' ((s1.trans s2).trans s3) r3⟩⟩⟩
theorem to1 {K : KB} {op : PyData → Rs PyData} {fa : Ev → Rs PyData} {σ : St} {H : Hp} {Q : VK} (h : tP K F (ap1 op fa) σ H Q) : tUn (rP1 K.K op) (tP K F fa) σ H Q := by
  obtain ⟨O, ρ, d, r, e, q⟩ := h
  obtain ⟨a, ea, e⟩ := Rs.bnd_eq e
  exact ⟨O, ρ, a, r, ea, fun x H1 s1 r1 => ⟨NN F O, a, d, fun z n => (r.mono s1).nlive n, r1, e, fun v H' s3 r3 => q v H' (s1.trans s3) r3⟩⟩
def apC (op : List PyData → Rs PyData) (g : Ev → Rs (List PyData)) : Ev → Rs PyData := fun ρ => (g ρ).bnd op
theorem toC {K : KB} {op : List PyData → Rs PyData} {g : Ev → Rs (List PyData)} {σ : St} {H : Hp} {Q : VK} (h : tP K F (apC op g) σ H Q) : tCB (rPC K.K op) (tA K F g) σ H Q := by
  obtain ⟨O, ρ, d, r, e, q⟩ := h
  obtain ⟨a, ea, e⟩ := Rs.bnd_eq e
  exact ⟨O, ρ, a, r, ea, fun x H1 s1 r1 => ⟨NN F O, a, d, fun z n => (r.mono s1).nlive n, r1, e, fun v H' s3 r3 => q v H' (s1.trans s3) r3⟩⟩

/-! arguments -/
def aN : Ev → Rs (List PyData) := fun _ => .ok []
def aC (f : Ev → Rs PyData) (g : Ev → Rs (List PyData)) : Ev → Rs (List PyData) := fun ρ => (f ρ).bnd fun a => (g ρ).bnd fun b => .ok (a :: b)
theorem pa_n : AP' X F [] aN := wkA pa_nil fun σ H Q ⟨O, ρ, d, r, e, q⟩ => by
  cases e
  exact q [] H (Same.refl H) .nil
theorem pa_c {e : Expr} {es : List Expr} {f : Ev → Rs PyData} {g : Ev → Rs (List PyData)} (h : EP' X F e f) (t : AP' X F es g)
    (hs : starEach (e :: es) X.env = (false, eval e X.env) :: starEach es X.env := by rfl) : AP' X F (e :: es) (aC f g) := wkA (pa_cons h t hs) fun σ H Q ⟨O, ρ, d, r, e, q⟩ => by
  obtain ⟨a, ea, e⟩ := Rs.bnd_eq e
  obtain ⟨b, eb, e⟩ := Rs.bnd_eq e
  cases e
  exact ⟨O, ρ, a, r, ea, fun x H1 s1 r1 => ⟨O, ρ, b, r.mono s1, eb, fun xs H2 s2 r2 => q (x :: xs) H2 (s1.trans s2) (.cons (r1.mono (hide_same s2)) r2)⟩⟩

/-! operators, built-in calls -/
theorem p_op {op : Operator} {o : PyData → PyData → Rs PyData} {a b : Expr} {fa fb : Ev → Rs PyData} {pos : Pos} (ho : OpR X (binaryOp op) (rP2 X.K o)) (ha : EP' X F a fa) (hb : EP' X F b fb) : EP' X F (.BinOp a op b pos) (ap2 o fa fb) :=
  wkE (pe_op ho ha hb) fun _ _ _ h => to2 h
theorem p_un {op : UnaryOp} {o : PyData → Rs PyData} {a : Expr} {fa : Ev → Rs PyData} {pos : Pos} (ho : UnR X (unaryOp op) (rP1 X.K o)) (ha : EP' X F a fa) : EP' X F (.UnaryOp op a pos) (ap1 o fa) :=
  wkE (pe_un ho ha) fun _ _ _ h => to1 h
theorem p_cmp {op : CmpOp} {o : PyData → PyData → Rs PyData} {a b : Expr} {fa fb : Ev → Rs PyData} {pos : Pos} (ho : OpR X (compareOp op) (rP2 X.K o)) (ha : EP' X F a fa) (hb : EP' X F b fb) (hm : behindInMarks op b = false) : EP' X F (.Compare a [op] [b] pos) (ap2 o fa fb) :=
  wkE (pe_cmpR ho ha hb hm) fun _ _ _ h => to2 h
/-- a test that is a bool -/
def isB : PyData → Rs Bool
  | .bool b => .ok b
  | _ => .no
def tB' (f : Ev → Rs PyData) : Ev → Rs Bool := fun ρ => (f ρ).bnd isB
theorem R.isB {K : PySem.W.Frag} {H : Hp} {d : PyData} {v : V} {b : Bool} (r : R K H d v) (e : isB d = .ok b) : v = .bl b := by
  cases d with
  | bool c => rw [R] at r; cases e; exact r
  | _ => exact nomatch e
theorem pt_cmp' {op : CmpOp} {o : PyData → PyData → Rs PyData} {a b : Expr} {fa fb : Ev → Rs PyData} {pos : Pos} (ho : OpR X (compareOp op) (rP2 X.K o)) (ha : EP' X F a fa) (hb : EP' X F b fb) (hm : behindInMarks op b = false) : TP' X F (.Compare a [op] [b] pos) (tB' (ap2 o fa fb)) :=
  wkT (pt_cmpR ho ha hb hm) fun σ H Q ⟨O, ρ, d, r, e, q⟩ => by
    obtain ⟨x, ex, e⟩ := Rs.bnd_eq e
    exact to2 ⟨O, ρ, x, r, ex, fun v H' s r' => ⟨d, r'.isB e, q H' s⟩⟩
theorem p_callB {id : String} {o : List PyData → Rs PyData} {x : Str} {p pos : Pos} {e : Expr} {es : List Expr} {g : Ev → Rs (List PyData)} (hc : CallR X (.builtin id) (rPC X.K o)) (hg : Gl X x) (hm : X.mg x = none) (hv : bootBuiltins x = some (.builtin id)) (ha : AP' X F (e :: es) g) (hn : x ≠ "__name__" := by decide) (hdb : (x == ("__debug__" : Str)) = false := by decide)
    (he : starEach (e :: es) X.env = (false, eval e X.env) :: starEach es X.env := by rfl) (hpl : (backTo pos (starEach es X.env)).any (·.1) = false := by rfl) : EP' X F (.Call (.Name x p) (e :: es) [] pos) (apC o g) :=
  wkE (pe_callB hc hg hm hv ha hn hdb he hpl) fun _ _ _ h => toC h
theorem p_callTy {T : String} {o : List PyData → Rs PyData} {x : Str} {p pos : Pos} {e : Expr} {es : List Expr} {g : Ev → Rs (List PyData)} (hc : CallR X (.type T) (rPC X.K o)) (hg : Gl X x) (hm : X.mg x = none) (hv : bootBuiltins x = some (.type T)) (ha : AP' X F (e :: es) g) (hn : x ≠ "__name__" := by decide) (hdb : (x == ("__debug__" : Str)) = false := by decide)
    (he : starEach (e :: es) X.env = (false, eval e X.env) :: starEach es X.env := by rfl) (hpl : (backTo pos (starEach es X.env)).any (·.1) = false := by rfl) : EP' X F (.Call (.Name x p) (e :: es) [] pos) (apC o g) :=
  wkE (pe_callTy hc hg hm hv ha hn hdb he hpl) fun _ _ _ h => toC h
end
end PL


/-! PLN: new tuples, of which it is known that they have no dict of their own -/
namespace PL
open PySem PySem.Spec PyProof.Rows L2
/-- a fresh tuple -/
def NewT (H : Hp) (xs : List V) (Q : V → Hp → Prop) : Prop := ∀ p (o : Obj), H p = none → o.dict = none → Q (.ref p) (upd H p (.frz o (.tup xs)))
section
variable {X : Cx}
theorem new_ok {pins : List (Addr × Obj)} {σ : St} {H : Hp} {s : Shared} {xs : List V} {its : List Value} {Q : VK} (I : Inv X pins σ H s) (hz : xs.length ≤ sizeLine) (r : Vals xs its) (q : NewT H xs Q) :
    EP X pins σ Q (.ref s.heap.objs.size) { s with heap := s.heap.push { cls := .type "tuple", data := .seq its.toArray } } := by
  refine ⟨.ref s.heap.objs.size, _, I.laid (t' := s.toks) (o := .frz { cls := .type "tuple", data := .seq its.toArray } (.tup xs)) (fun b ob q => Heap.get?_push_of_some _ q) (Nat.le_refl _) ?_, rfl, q _ _ (I.hok.fresh (Nat.le_refl _)) rfl⟩
  exact ⟨Heap.get?_push_size _ rfl, hz, its, r, IsTup.new _ _⟩
def rCatN (K : PySem.W.Frag) : R2 := fun x y H Q => ∃ a b xs ys, x = .ref a ∧ y = .ref b ∧ SqT K H a xs ∧ SqT K H b ys ∧ xs.length + ys.length ≤ sizeLine ∧ (xs = [] → Q (.ref b) H) ∧ (xs ≠ [] → ys = [] → Q (.ref a) H) ∧ (xs ≠ [] → ys ≠ [] → NewT H (xs ++ ys) Q)
theorem op_catN : OpR X (binaryOp .Add) (rCatN X.K) := by
  intro pins s σ H x y v u Q I rx ry h
  obtain ⟨a, b, xs, ys, rfl, rfl, ha, hb, hz, q0, q1, q2⟩ := h
  by_cases hx : xs = []
  · exact op_catA pins s σ H _ _ v u Q I rx ry ⟨a, b, xs, ys, rfl, rfl, ha, hb, hz, q0, q1, fun z => absurd hx z⟩
  · by_cases hy : ys = []
    · exact op_catA pins s σ H _ _ v u Q I rx ry ⟨a, b, xs, ys, rfl, rfl, ha, hb, hz, q0, q1, fun _ z => absurd hy z⟩
    · cases rx
      cases ry
      obtain ⟨its, r1, p1, _⟩ := I.tuple ha
      obtain ⟨its2, r2, p2, _⟩ := I.tuple hb
      refine HT.cat_tup p1 p2 (fun z => hx (r1.nil_iff.mp z)) (fun z => absurd (r2.nil_iff.mp z) hy) (fun z => ?_) (by rw [← r1.length, ← r2.length]; exact hz)
      exact new_ok I (by rw [List.length_append]; exact hz) (r1.append r2) (q2 hx hy)
def rSlN (K : PySem.W.Frag) : V → Option Int → Option Int → Hp → VK → Prop := fun x lo hi H Q => ∃ a xs, x = .ref a ∧ SqT K H a xs ∧
  (HT.sIx xs.length 0 lo = 0 ∧ HT.sIx xs.length xs.length hi = xs.length → Q (.ref a) H) ∧ (¬ (HT.sIx xs.length 0 lo = 0 ∧ HT.sIx xs.length xs.length hi = xs.length) → NewT H (cutV xs lo hi) Q)
theorem sl_tupN : SlR X (rSlN X.K) := by
  intro pins s σ H x v vl vu lo hi sl Q I rx hs pl pu h
  obtain ⟨a, xs, rfl, hx, q1, q2⟩ := h
  by_cases hw : HT.sIx xs.length 0 lo = 0 ∧ HT.sIx xs.length xs.length hi = xs.length
  · exact sl_tupA pins s σ H _ v vl vu lo hi sl Q I rx hs pl pu ⟨a, xs, rfl, hx, q1, fun z => absurd hw z⟩
  · cases rx
    obtain ⟨its, r, ht, hz⟩ := I.tuple hx
    have hlen : its.toArray.size = xs.length := by rw [List.size_toArray]; exact r.length.symm
    refine ⟨"tuple", _, PyProof.Rows.slot_tuple_getitem.lookup, ht.typeIs, ?_⟩
    refine HT.getItem_tuple_cut ht hs pl pu (by rw [hlen]; exact hw) ?_ (by rw [hlen]; exact hz)
    rw [hlen]
    exact new_ok I (Nat.le_trans (cutV_length xs lo hi) hz) ((r.drop (HT.sIx xs.length 0 lo)).take (HT.sIx xs.length xs.length hi - HT.sIx xs.length 0 lo)) (q2 hw)
def tTupN (t : TA) : TE := fun σ H Q => t σ H fun xs H1 => xs.length ≤ sizeLine ∧ NewT H1 xs Q
theorem pe_tupN {es : List Expr} {t : TA} {pos : Pos} {x1} (h : PA X es t) : PE X (.Tuple es x1 pos) (tTupN t) := by
  refine ⟨fun pins s σ H Q I hq => ?_⟩
  refine wpAny_Tuple_spliced (thn (h.run pos pins s σ H _ I hq) fun us s1 ⟨xs, H1, I1, r, z, q⟩ => ⟨by rw [← r.length]; exact z, ?_⟩)
  exact new_ok (s := s1) I1 z r q
theorem call_tupleN : CallR X (.type "tuple") (fun xs H Q => ∃ p ys, xs = [.ref p] ∧ ((SqL X.K H p ys ∧ NewT H ys Q) ∨ (SqT X.K H p ys ∧ Q (.ref p) H))) := by
  intro pins s σ H xs us Q I r h
  obtain ⟨p, ys, rfl, h⟩ := h
  rcases h with ⟨hq, q⟩ | ⟨hq, q⟩
  · obtain ⟨u, rfl, rx⟩ := vals1 r
    cases rx
    obtain ⟨its, r', pl, hz⟩ := I.list hq
    have hlen := r'.length
    refine call_tuple_list pl.isList (fun h' kp => ?_) (by simp only [List.size_toArray] <;> omega)
    have I1 : Inv X pins σ H { s with heap := h' } := I.kept (t' := s.toks) kp
    exact new_ok I1 hz r' q
  · exact call_tuple_of pins s σ H _ us Q I r ⟨p, ys, rfl, .inr ⟨hq, q⟩⟩
end
end PL


/-! PL2: Python's operators and built-in functions as functions of plain data -/
namespace PL
open PySem PySem.Spec PyProof.Rows L2

/-! ### operators -/
def addD : PyData → PyData → Rs PyData
  | .int i, .int j => .ok (.int (i + j))
  | .str x, .str y => if x.length + y.length ≤ sizeLine then .ok (.str (x ++ y)) else .no
  | .list xs, .list ys => if xs.length + ys.length ≤ sizeLine then .ok (.list (xs ++ ys)) else .no
  | .tuple xs, .tuple ys => if xs.length + ys.length ≤ sizeLine then .ok (.tuple (xs ++ ys)) else .no
  | _, _ => .no
def subD : PyData → PyData → Rs PyData
  | .int i, .int j => .ok (.int (i - j))
  | _, _ => .no
def mulOk (i j : Int) : Bool := decide ((-(2 ^ 64) < i ∧ i < 2 ^ 64) ∨ (-(2 ^ 64) < j ∧ j < 2 ^ 64))
theorem mulOk_iff {i j : Int} (h : mulOk i j = true) : CMul i j := by
  unfold mulOk at h
  have h' := of_decide_eq_true h
  exact h'
def mulD : PyData → PyData → Rs PyData
  | .int i, .int j => if mulOk i j then .ok (.int (i * j)) else .no
  | .list xs, .int k => if 0 ≤ k ∧ k ≤ 1000 ∧ xs.length ≤ 1000 then .ok (.list (List.replicate k.toNat xs).flatten) else .no
  | _, _ => .no
def modD : PyData → PyData → Rs PyData
  | .int i, .int j => if 0 < j then .ok (.int (i % j)) else .no
  | _, _ => .no
def divD : PyData → PyData → Rs PyData
  | .int i, .int j => if 0 < j ∧ j < 1073741824 then .ok (.int (i / j)) else .no
  | _, _ => .no
def powD : PyData → PyData → Rs PyData
  | .int i, .int j => if 0 ≤ j ∧ j ≤ 1000000 ∧ i.natAbs < 2 ^ 64 then .ok (.int (i ^ j.toNat)) else .no
  | _, _ => .no
def shlD : PyData → PyData → Rs PyData
  | .int i, .int j => if 0 ≤ j ∧ j ≤ 1000000 ∧ i.natAbs < 2 ^ 64 then .ok (.int (i * 2 ^ j.toNat)) else .no
  | _, _ => .no
def shrD : PyData → PyData → Rs PyData
  | .int i, .int j => if 0 ≤ j then .ok (.int (i / 2 ^ j.toNat)) else .no
  | _, _ => .no
def andD : PyData → PyData → Rs PyData
  | .int i, .int j => .ok (.int (Builtin.bitAnd i j))
  | _, _ => .no
def negD : PyData → Rs PyData
  | .int i => .ok (.int (-i))
  | _ => .no
def shallow (d e : PyData) : Bool := decide (min d.depth e.depth ≤ 60) && (nod d && nod e)
theorem shallow_iff {d e : PyData} (h : shallow d e = true) : min d.depth e.depth ≤ 60 ∧ nod d = true ∧ nod e = true := by
  unfold shallow at h; rw [Bool.and_eq_true, Bool.and_eq_true] at h; exact ⟨of_decide_eq_true h.1, h.2⟩
def eqD (d e : PyData) : Rs PyData := if shallow d e then .ok (.bool (PyData.eqv d e)) else .no
def neD (d e : PyData) : Rs PyData := if shallow d e then .ok (.bool (!PyData.eqv d e)) else .no
def inD (d : PyData) : PyData → Rs PyData
  | .list ds => if min (PyData.depthAll ds) d.depth ≤ 60 ∧ nodAll ds = true ∧ nod d = true then .ok (.bool (ds.any fun z => PyData.eqv z d)) else .no
  | .tuple ds => if min (PyData.depthAll ds) d.depth ≤ 60 ∧ nodAll ds = true ∧ nod d = true then .ok (.bool (ds.any fun z => PyData.eqv z d)) else .no
  | _ => .no
def ninD (d : PyData) : PyData → Rs PyData
  | .list ds => if min (PyData.depthAll ds) d.depth ≤ 60 ∧ nodAll ds = true ∧ nod d = true then .ok (.bool (!ds.any fun z => PyData.eqv z d)) else .no
  | .tuple ds => if min (PyData.depthAll ds) d.depth ≤ 60 ∧ nodAll ds = true ∧ nod d = true then .ok (.bool (!ds.any fun z => PyData.eqv z d)) else .no
  | _ => .no
def notNone : PyData → Bool
  | .none => false
  | _ => true
def ltD : PyData → PyData → Rs PyData
  | .int i, .int j => .ok (.bool (decide (i < j)))
  | d, e => if PySem.W.alike d e && notNone d && shallow d e then .ok (.bool (PySem.W.dataLt d e)) else .no
def leD : PyData → PyData → Rs PyData
  | .int i, .int j => .ok (.bool (decide (i ≤ j)))
  | _, _ => .no
def gtD : PyData → PyData → Rs PyData
  | .int i, .int j => .ok (.bool (decide (j < i)))
  | d, e => if PySem.W.alike d e && notNone d && shallow d e then .ok (.bool (PySem.W.dataLt e d)) else .no
def geD : PyData → PyData → Rs PyData
  | .int i, .int j => .ok (.bool (decide (j ≤ i)))
  | _, _ => .no
/-- is, beside None, True, False -/
def isV : PyData → PyData → Rs Bool
  | .bool b, .bool c => .ok (b == c)
  | .none, .none => .ok true
  | .none, .bool _ => .ok false
  | .bool _, .none => .ok false
  | .int _, .bool _ => .ok false
  | .int _, .none => .ok false
  | .str _, .bool _ => .ok false
  | .str _, .none => .ok false
  | .list _, .bool _ => .ok false
  | .list _, .none => .ok false
  | .tuple _, .bool _ => .ok false
  | .tuple _, .none => .ok false
  | .dict _, .bool _ => .ok false
  | .dict _, .none => .ok false
  | _, _ => .no
def isD (d e : PyData) : Rs PyData := (isV d e).bnd fun b => .ok (.bool b)
def isnD (d e : PyData) : Rs PyData := (isV d e).bnd fun b => .ok (.bool (!b))
/-- a value's truth -/
def truD : PyData → Rs Bool
  | .none => .ok false
  | .bool b => .ok b
  | .int i => .ok (i != 0)
  | .list ds => .ok (!ds.isEmpty)
  | .tuple ds => .ok (!ds.isEmpty)
  | _ => .no

section
variable {X : Cx}
theorem R.intV {K : PySem.W.Frag} {H : Hp} {i : Int} {v : V} (r : R K H (.int i) v) : v = .int i := by rw [R] at r; exact r
theorem R.boolV {K : PySem.W.Frag} {H : Hp} {i : Bool} {v : V} (r : R K H (.bool i) v) : v = .bl i := by rw [R] at r; exact r
theorem R.noneV {K : PySem.W.Frag} {H : Hp} {v : V} (r : R K H .none v) : v = .non := by rw [R] at r; exact r
theorem R.strV {K : PySem.W.Frag} {H : Hp} {i : Str} {v : V} (r : R K H (.str i) v) : v = .str i ∧ PyData.strOk i = true := by rw [R] at r; exact r
theorem R.listV {K : PySem.W.Frag} {H : Hp} {ds : List PyData} {v : V} (r : R K H (.list ds) v) : ds.length ≤ sizeLine ∧ ∃ a xs, v = .ref a ∧ SqL K H a xs ∧ RA K H ds xs := by rw [R] at r; exact r
theorem R.tupV {K : PySem.W.Frag} {H : Hp} {ds : List PyData} {v : V} (r : R K H (.tuple ds) v) : ds.length ≤ sizeLine ∧ ∃ a xs, v = .ref a ∧ SqT K H a xs ∧ RA K H ds xs := by
  rw [R] at r
  obtain ⟨z, a, xs, e1, h1, t1, _⟩ := r
  exact ⟨z, a, xs, e1, h1, t1⟩
theorem R.tupN {K : PySem.W.Frag} {H : Hp} {ds : List PyData} {v : V} (r : R K H (.tuple ds) v) : ds.length ≤ sizeLine ∧ ∃ a xs, v = .ref a ∧ SqT K H a xs ∧ RA K H ds xs ∧ (NoD K H a ∨ strT ds = true) := by rw [R] at r; exact r
theorem R.int {K : PySem.W.Frag} {H : Hp} {i : Int} : R K H (.int i) (.int i) := by rw [R]
theorem R.bool {K : PySem.W.Frag} {H : Hp} {i : Bool} : R K H (.bool i) (.bl i) := by rw [R]
theorem R.none {K : PySem.W.Frag} {H : Hp} : R K H .none .non := by rw [R]
theorem R.str {K : PySem.W.Frag} {H : Hp} {x : Str} (h : PyData.strOk x = true) : R K H (.str x) (.str x) := by rw [R]; exact ⟨rfl, h⟩
theorem R.list {K : PySem.W.Frag} {H : Hp} {ds : List PyData} {a : Addr} {xs : List V} (z : ds.length ≤ sizeLine) (h : SqL K H a xs) (t : RA K H ds xs) : R K H (.list ds) (.ref a) := by rw [R]; exact ⟨z, a, xs, rfl, h, t⟩
theorem R.tup {K : PySem.W.Frag} {H : Hp} {ds : List PyData} {a : Addr} {xs : List V} (z : ds.length ≤ sizeLine) (h : SqT K H a xs) (t : RA K H ds xs) (nd : NoD K H a ∨ strT ds = true) : R K H (.tuple ds) (.ref a) := by rw [R]; exact ⟨z, a, xs, rfl, h, t, nd⟩

theorem same_upd {H : Hp} {p : Addr} {o : HO} (h : H p = none) : Same H (upd H p o) := fun b x e => by
  rw [upd_ne (ne_of_none e h)]
  exact e
/-- a new object, seen where N is hidden -/
theorem hide_upd {N : Addr → Prop} {H : Hp} {p : Addr} {o : HO} (n : ∀ a, N a → H a ≠ none) (h : H p = none) : hide N (upd H p o) p = some o := hide_of (fun z => n _ z h) upd_same
theorem newL {K : PySem.W.Frag} {N : Addr → Prop} {H : Hp} {p : Addr} {ds : List PyData} {xs : List V} (n : ∀ a, N a → H a ≠ none) (h : H p = none) (z : ds.length ≤ sizeLine) (r : RA K (hide N H) ds xs) : R K (hide N (upd H p (.lst xs))) (.list ds) (.ref p) :=
  .list z (.of (hide_upd n h)) (r.mono (hide_same (same_upd h)))
theorem newT {K : PySem.W.Frag} {N : Addr → Prop} {H : Hp} {p : Addr} {ds : List PyData} {xs : List V} {o : Obj} (ho : o.dict = none) (n : ∀ a, N a → H a ≠ none) (h : H p = none) (z : ds.length ≤ sizeLine) (r : RA K (hide N H) ds xs) : R K (hide N (upd H p (.frz o (.tup xs)))) (.tuple ds) (.ref p) :=
  .tup z (.inl (.inr ⟨o, hide_upd n h⟩)) (r.mono (hide_same (same_upd h))) (.inl (.inl ⟨o, _, ho, hide_upd n h⟩))

/-- ints and ints, otherwise by case -/
theorem opII {f : Value → Value → Sem Value} {op : PyData → PyData → Rs PyData} {r : R2} (ho : OpR X f r) (h : ∀ (N : Addr → Prop) (H : Hp) (Q : VK) (d1 d2 d : PyData) (x y : V), (∀ a, N a → H a ≠ none) → R X.K (hide N H) d1 x → R X.K (hide N H) d2 y → op d1 d2 = .ok d →
    (∀ v H', Same H H' → R X.K (hide N H') d v → Q v H') → r x y H Q) : OpR X f (rP2 X.K op) := by
  intro pins s σ H x y v u Q I rx ry ⟨N, d1, d2, d, n, r1, r2, e, q⟩
  exact ho pins s σ H x y v u Q I rx ry (h N H Q d1 d2 d x y n r1 r2 e q)

theorem o_sub : OpR X (binaryOp .Sub) (rP2 X.K subD) := opII op_sub fun N H Q d1 d2 d x y n r1 r2 e q => by
  unfold subD at e
  split at e <;> first | (cases e; done) | skip
  cases e
  exact ⟨_, _, r1.intV, r2.intV, q _ H (Same.refl H) .int⟩
theorem o_mod : OpR X (binaryOp .Mod) (rP2 X.K modD) := opII op_mod fun N H Q d1 d2 d x y n r1 r2 e q => by
  unfold modD at e
  split at e <;> first | (cases e; done) | skip
  split at e <;> first | (cases e; done) | skip
  cases e
  exact ⟨_, _, r1.intV, r2.intV, by assumption, q _ H (Same.refl H) .int⟩
theorem o_div : OpR X (binaryOp .FloorDiv) (rP2 X.K divD) := opII op_fdiv fun N H Q d1 d2 d x y n r1 r2 e q => by
  unfold divD at e
  split at e <;> first | (cases e; done) | skip
  split at e <;> first | (cases e; done) | skip
  cases e
  exact ⟨_, _, r1.intV, r2.intV, by assumption, q _ H (Same.refl H) .int⟩
theorem o_pow : OpR X (binaryOp .Pow) (rP2 X.K powD) := opII op_pow fun N H Q d1 d2 d x y n r1 r2 e q => by
  unfold powD at e
  split at e <;> first | (cases e; done) | skip
  split at e <;> first | (cases e; done) | skip
  cases e
  exact ⟨_, _, r1.intV, r2.intV, by assumption, q _ H (Same.refl H) .int⟩
theorem o_shl : OpR X (binaryOp .LShift) (rP2 X.K shlD) := opII op_shl fun N H Q d1 d2 d x y n r1 r2 e q => by
  unfold shlD at e
  split at e <;> first | (cases e; done) | skip
  split at e <;> first | (cases e; done) | skip
  cases e
  exact ⟨_, _, r1.intV, r2.intV, by assumption, q _ H (Same.refl H) .int⟩
theorem o_shr : OpR X (binaryOp .RShift) (rP2 X.K shrD) := opII op_shr fun N H Q d1 d2 d x y n r1 r2 e q => by
  unfold shrD at e
  split at e <;> first | (cases e; done) | skip
  split at e <;> first | (cases e; done) | skip
  cases e
  exact ⟨_, _, r1.intV, r2.intV, by assumption, q _ H (Same.refl H) .int⟩
theorem o_and : OpR X (binaryOp .BitAnd) (rP2 X.K andD) := opII op_and fun N H Q d1 d2 d x y n r1 r2 e q => by
  unfold andD at e
  split at e <;> first | (cases e; done) | skip
  cases e
  exact ⟨_, _, r1.intV, r2.intV, q _ H (Same.refl H) .int⟩
theorem o_le : OpR X (compareOp .LtE) (rP2 X.K leD) := opII op_le fun N H Q d1 d2 d x y n r1 r2 e q => by
  unfold leD at e
  split at e <;> first | (cases e; done) | skip
  cases e
  exact ⟨_, _, r1.intV, r2.intV, q _ H (Same.refl H) .bool⟩
theorem o_ge : OpR X (compareOp .GtE) (rP2 X.K geD) := opII op_ge fun N H Q d1 d2 d x y n r1 r2 e q => by
  unfold geD at e
  split at e <;> first | (cases e; done) | skip
  cases e
  exact ⟨_, _, r1.intV, r2.intV, q _ H (Same.refl H) .bool⟩
theorem u_neg : UnR X (unaryOp .USub) (rP1 X.K negD) := by
  intro pins s σ H x v Q I rx ⟨N, d1, d, n, r1, e, q⟩
  unfold negD at e
  split at e <;> first | (cases e; done) | skip
  cases e
  exact un_neg pins s σ H x v Q I rx ⟨_, r1.intV, q _ H (Same.refl H) .int⟩

theorem strOk_app {x y : Str} (hx : PyData.strOk x = true) (hy : PyData.strOk y = true) : PyData.strOk (x ++ y) = true := by
  unfold PyData.strOk at *
  show (x.cps ++ y.cps).all _ = true
  rw [Array.all_append, hx, hy]; rfl

theorem Inv.listAny {pins : List (Addr × Obj)} {σ : St} {H : Hp} {s : Shared} {a : Addr} {xs : List V} (I : Inv X pins σ H s) (h : SqL X.K H a xs) :
    ∃ (its : List Value) (n : Nat) (dd : Option Addr) (sl : Array (Option Value)), Vals xs its ∧ s.heap.get? a = some { cls := .type "list", dict := dd, data := .seq its.toArray n, slots := sl } := by
  obtain ⟨its, r, ⟨⟨c, dd, dt, sl⟩, n, e, hc, hd, hs⟩, _⟩ := L2.Inv.list I h
  simp only at hc hd hs
  subst hc hd hs
  exact ⟨its, n, _, sl, r, e⟩
/-- list + list, whatever they are -/
def rCat' (K : PySem.W.Frag) : R2 := fun x y H Q => ∃ l b xs zs, x = .ref l ∧ y = .ref b ∧ SqL K H l xs ∧ SqL K H b zs ∧ xs.length + zs.length ≤ sizeLine ∧ ∀ p, H p = none → Q (.ref p) (upd H p (.lst (xs ++ zs)))
theorem op_cat' : OpR X (binaryOp .Add) (rCat' X.K) := by
  intro pins s σ H x y v u Q I rx ry ⟨l, b, xs, zs, e1, e2, hH, hB, hz, q⟩
  subst e1 e2
  cases rx
  cases ry
  obtain ⟨its, n, dd, sl, r, e⟩ := Inv.listAny I hH
  obtain ⟨its2, n2, dd2, sl2, r2, e2⟩ := Inv.listAny I hB
  have hs : its.toArray.size + its2.toArray.size ≤ sizeLine := by rw [List.size_toArray, List.size_toArray, ← r.length, ← r2.length]; exact hz
  refine concat_meets ⟨_, e, rfl⟩ ⟨_, e2, rfl⟩ noFill_list_add seq_list_add PySem.F.slot_list_add PySem.F.entry_list_add (PySem.F.args_list_add_2 _ _) (list_addW l b its.toArray its2.toArray n n2 dd dd2 sl sl2 hs) ⟨e, e2, ?_⟩
  have ea : its.toArray ++ its2.toArray = (its ++ its2).toArray := by simp
  rw [ea]
  exact ⟨.ref _, _, I.lnew (t' := s.toks) (r.append r2) (by rw [List.length_append]; exact hz), rfl, q _ I.fresh⟩
theorem sqL_le {N : Addr → Prop} {K : PySem.W.Frag} {H : Hp} {a : Addr} {xs : List V} (h : SqL K (hide N H) a xs) : SqL K H a xs := hide_le.seq h
theorem sqT_le {N : Addr → Prop} {K : PySem.W.Frag} {H : Hp} {a : Addr} {xs : List V} (h : SqT K (hide N H) a xs) : SqT K H a xs := sqt_mono hide_le h

theorem o_add : OpR X (binaryOp .Add) (rP2 X.K addD) := by
  intro pins s σ H x y v u Q I rx ry ⟨N, d1, d2, d, n, r1, r2, e, q⟩
  unfold addD at e
  split at e
  · cases e
    exact op_add pins s σ H x y v u Q I rx ry ⟨_, _, r1.intV, r2.intV, q _ H (Same.refl H) .int⟩
  · split at e <;> first | (cases e; done) | skip
    cases e
    exact op_add_str pins s σ H x y v u Q I rx ry ⟨_, _, r1.strV.1, r2.strV.1, by assumption, q _ H (Same.refl H) (.str (strOk_app r1.strV.2 r2.strV.2))⟩
  · split at e <;> first | (cases e; done) | skip
    cases e
    rename_i hz
    obtain ⟨z1, a, xs, e1, h1, t1⟩ := r1.listV
    obtain ⟨z2, b, ys, e2, h2, t2⟩ := r2.listV
    exact op_cat' pins s σ H x y v u Q I rx ry ⟨a, b, xs, ys, e1, e2, sqL_le h1, sqL_le h2, by rw [t1.len, t2.len]; exact hz, fun p hp => q _ _ (same_upd hp) (newL n hp (by rw [List.length_append]; exact hz) (t1.append t2))⟩
  · split at e <;> first | (cases e; done) | skip
    cases e
    rename_i hz
    obtain ⟨z1, a, xs, e1, h1, t1, k1⟩ := r1.tupN
    obtain ⟨z2, b, ys, e2, h2, t2, k2⟩ := r2.tupN
    refine op_catN pins s σ H x y v u Q I rx ry ⟨a, b, xs, ys, e1, e2, sqT_le h1, sqT_le h2, by rw [t1.len, t2.len]; exact hz, fun z => ?_, fun _ z => ?_, fun _ _ p o hp ho => q _ _ (same_upd hp) (newT ho n hp (by rw [List.length_append]; exact hz) (t1.append t2))⟩
    · have z1 := t1.len; rw [z] at z1; have z3 := List.eq_nil_of_length_eq_zero z1.symm
      subst z3
      exact q _ H (Same.refl H) (by rw [List.nil_append]; exact .tup z2 h2 t2 k2)
    · have z1' := t2.len; rw [z] at z1'; have z3 := List.eq_nil_of_length_eq_zero z1'.symm
      subst z3
      exact q _ H (Same.refl H) (by rw [List.append_nil]; exact .tup z1 h1 t1 k1)
  · exact nomatch e

theorem len_rep {α : Type} (k : Nat) (xs : List α) : (List.replicate k xs).flatten.length = k * xs.length := by
  induction k with
  | zero => simp
  | succ k ih => rw [List.replicate_succ, List.flatten_cons, List.length_append, ih, Nat.succ_mul, Nat.add_comm]
theorem rep_small {α : Type} {k : Int} {xs : List α} (h1 : k ≤ 1000) (h2 : xs.length ≤ 1000) : (List.replicate k.toNat xs).flatten.length ≤ sizeLine := by
  rw [len_rep, sizeLine_eq]
  have a1 : k.toNat * xs.length ≤ 1000 * 1000 := Nat.mul_le_mul (by omega) h2
  omega
theorem o_mul (hl : ∀ (pins : List (Addr × Obj)) (s : Shared) (σ : St) (H : Hp) (x y : V) (v u : Value) (Q : VK), Inv X pins σ H s → RelV x v → RelV y u → (∃ l k xs, x = .ref l ∧ y = .int k ∧ SqL X.K H l xs ∧ 0 ≤ k ∧ k ≤ 1000 ∧ xs.length ≤ 1000 ∧
    ∀ p, H p = none → Q (.ref p) (upd H p (.lst (List.replicate k.toNat xs).flatten))) → wpAny (model X.prog X.w) X.A (binaryOp .Mult v u) (EP X pins σ Q) X.xe s) : OpR X (binaryOp .Mult) (rP2 X.K mulD) := by
  intro pins s σ H x y v u Q I rx ry ⟨N, d1, d2, d, n, r1, r2, e, q⟩
  unfold mulD at e
  split at e
  · split at e <;> first | (cases e; done) | skip
    rename_i hc
    cases e
    exact op_mul pins s σ H x y v u Q I rx ry ⟨_, _, r1.intV, r2.intV, mulOk_iff hc, q _ H (Same.refl H) .int⟩
  · split at e <;> first | (cases e; done) | skip
    rename_i hc
    cases e
    obtain ⟨z1, a, xs, e1, h1, t1⟩ := r1.listV
    exact hl pins s σ H x y v u Q I rx ry ⟨a, _, xs, e1, r2.intV, sqL_le h1, hc.1, hc.2.1, by rw [t1.len]; exact hc.2.2, fun p hp => q _ _ (same_upd hp) (newL n hp (rep_small hc.2.1 hc.2.2) (t1.rep _))⟩
  · exact nomatch e

theorem room60 {a b : Nat} (h : min a b ≤ 60) (hu : X.A.units + 64 < cLine) : X.A.units + min a b < cLine := by omega
theorem o_eq (hu : X.A.units + 64 < cLine) : OpR X (compareOp .Eq) (rP2 X.K eqD) := by
  intro pins s σ H x y v u Q I rx ry ⟨N, d1, d2, d, n, r1, r2, e, q⟩
  unfold eqD at e
  split at e <;> first | (cases e; done) | skip
  rename_i hc
  cases e
  obtain ⟨hc, n1, n2⟩ := shallow_iff hc
  obtain ⟨as, q1⟩ := Dp.reads I d1 x v ((r1.mono hide_le).dp n1) rx
  obtain ⟨bs, q2⟩ := Dp.reads I d2 y u ((r2.mono hide_le).dp n2) ry
  exact SeqAt.compareEq_reads q1 q2 (r1.canLay n1) (r2.canLay n2) (room60 hc hu) ⟨.bl _, H, I, rfl, q _ H (Same.refl H) .bool⟩
theorem o_ne (hu : X.A.units + 64 < cLine) : OpR X (compareOp .NotEq) (rP2 X.K neD) := by
  intro pins s σ H x y v u Q I rx ry ⟨N, d1, d2, d, n, r1, r2, e, q⟩
  unfold neD at e
  split at e <;> first | (cases e; done) | skip
  rename_i hc
  cases e
  obtain ⟨hc, n1, n2⟩ := shallow_iff hc
  obtain ⟨as, q1⟩ := Dp.reads I d1 x v ((r1.mono hide_le).dp n1) rx
  obtain ⟨bs, q2⟩ := Dp.reads I d2 y u ((r2.mono hide_le).dp n2) ry
  exact SeqAt.compareNe_reads q1 q2 (r1.canLay n1) (r2.canLay n2) (room60 hc hu) ⟨.bl _, H, I, rfl, q _ H (Same.refl H) .bool⟩
theorem o_in (hu : X.A.units + 64 < cLine) : OpR X (compareOp .In) (rP2 X.K inD) := by
  intro pins s σ H x y v u Q I rx ry ⟨N, d1, d2, d, n, r1, r2, e, q⟩
  unfold inD at e
  split at e
  · split at e <;> first | (cases e; done) | skip
    rename_i hc
    cases e
    obtain ⟨hc, n2, n1⟩ := hc
    have m2 : nod (.list ‹List PyData›) = true := by rw [nod]; exact n2
    obtain ⟨as, q1⟩ := Dp.reads I d1 x v ((r1.mono hide_le).dp n1) rx
    obtain ⟨bs, q2⟩ := Dp.reads I _ y u ((r2.mono hide_le).dp m2) ry
    have c2 := r2.canLay m2
    exact SeqAt.in_list_reads q2 q1 (by simpa [PyData.canLay0] using c2) (r1.canLay n1) (by omega) ⟨.bl _, H, I, rfl, q _ H (Same.refl H) .bool⟩
  · split at e <;> first | (cases e; done) | skip
    rename_i hc
    cases e
    obtain ⟨hc, n2, n1⟩ := hc
    have m2 : nod (.tuple ‹List PyData›) = true := by rw [nod]; exact n2
    obtain ⟨as, q1⟩ := Dp.reads I d1 x v ((r1.mono hide_le).dp n1) rx
    obtain ⟨bs, q2⟩ := Dp.reads I _ y u ((r2.mono hide_le).dp m2) ry
    have c2 := r2.canLay m2
    exact SeqAt.in_tuple_reads q2 q1 (by simpa [PyData.canLay0] using c2) (r1.canLay n1) (by omega) ⟨.bl _, H, I, rfl, q _ H (Same.refl H) .bool⟩
  · exact nomatch e
theorem o_nin (hu : X.A.units + 64 < cLine) : OpR X (compareOp .NotIn) (rP2 X.K ninD) := by
  intro pins s σ H x y v u Q I rx ry ⟨N, d1, d2, d, n, r1, r2, e, q⟩
  unfold ninD at e
  split at e
  · split at e <;> first | (cases e; done) | skip
    rename_i hc
    cases e
    obtain ⟨hc, n2, n1⟩ := hc
    have m2 : nod (.list ‹List PyData›) = true := by rw [nod]; exact n2
    obtain ⟨as, q1⟩ := Dp.reads I d1 x v ((r1.mono hide_le).dp n1) rx
    obtain ⟨bs, q2⟩ := Dp.reads I _ y u ((r2.mono hide_le).dp m2) ry
    have c2 := r2.canLay m2
    exact SeqAt.notIn_list_reads q2 q1 (by simpa [PyData.canLay0] using c2) (r1.canLay n1) (by omega) ⟨.bl _, H, I, rfl, q _ H (Same.refl H) .bool⟩
  · split at e <;> first | (cases e; done) | skip
    rename_i hc
    cases e
    obtain ⟨hc, n2, n1⟩ := hc
    have m2 : nod (.tuple ‹List PyData›) = true := by rw [nod]; exact n2
    obtain ⟨as, q1⟩ := Dp.reads I d1 x v ((r1.mono hide_le).dp n1) rx
    obtain ⟨bs, q2⟩ := Dp.reads I _ y u ((r2.mono hide_le).dp m2) ry
    have c2 := r2.canLay m2
    exact SeqAt.notIn_tuple_reads q2 q1 (by simpa [PyData.canLay0] using c2) (r1.canLay n1) (by omega) ⟨.bl _, H, I, rfl, q _ H (Same.refl H) .bool⟩
  · exact nomatch e
end
end PL


/-! PL3: more operators, subscripts, built-in functions -/
namespace PL
open PySem PySem.Spec PyProof.Rows L2
section
variable {X : Cx}
theorem o_lt (hu : X.A.units + 64 < cLine) : OpR X (compareOp .Lt) (rP2 X.K ltD) := by
  intro pins s σ H x y v u Q I rx ry ⟨N, d1, d2, d, n, r1, r2, e, q⟩
  unfold ltD at e
  split at e
  · cases e
    exact op_lt pins s σ H x y v u Q I rx ry ⟨_, _, r1.intV, r2.intV, q _ H (Same.refl H) .bool⟩
  · split at e <;> first | (cases e; done) | skip
    rename_i hc
    cases e
    simp only [Bool.and_eq_true] at hc
    obtain ⟨⟨hc1, hc2⟩, hc3⟩ := hc
    obtain ⟨hc3, n1, n2⟩ := shallow_iff hc3
    obtain ⟨as, q1⟩ := Dp.reads I d1 x v ((r1.mono hide_le).dp n1) rx
    obtain ⟨bs, q2⟩ := Dp.reads I d2 y u ((r2.mono hide_le).dp n2) ry
    exact PySem.W.rcLt_alike d1 d2 X.A s v u as bs q1 q2 hc1 (fun z => by subst z; exact nomatch hc2) (room60 hc3 hu) X.prog X.w X.xe _ ⟨.bl _, H, I, rfl, q _ H (Same.refl H) .bool⟩
theorem o_gt (hu : X.A.units + 64 < cLine) : OpR X (compareOp .Gt) (rP2 X.K gtD) := by
  intro pins s σ H x y v u Q I rx ry ⟨N, d1, d2, d, n, r1, r2, e, q⟩
  unfold gtD at e
  split at e
  · cases e
    exact op_gt pins s σ H x y v u Q I rx ry ⟨_, _, r1.intV, r2.intV, q _ H (Same.refl H) .bool⟩
  · split at e <;> first | (cases e; done) | skip
    rename_i hc
    cases e
    simp only [Bool.and_eq_true] at hc
    obtain ⟨⟨hc1, hc2⟩, hc3⟩ := hc
    obtain ⟨hc3, n1, n2⟩ := shallow_iff hc3
    obtain ⟨as, q1⟩ := Dp.reads I d1 x v ((r1.mono hide_le).dp n1) rx
    obtain ⟨bs, q2⟩ := Dp.reads I d2 y u ((r2.mono hide_le).dp n2) ry
    exact PySem.W.rcGt_alike d1 d2 X.A s v u as bs q1 q2 hc1 (fun z => by subst z; exact nomatch hc2) (room60 hc3 hu) X.prog X.w X.xe _ ⟨.bl _, H, I, rfl, q _ H (Same.refl H) .bool⟩
theorem isV_ok {K : PySem.W.Frag} {H : Hp} {d e : PyData} {x y : V} {v u : Value} {b : Bool} (r1 : R K H d x) (r2 : R K H e y) (rx : RelV x v) (ry : RelV y u) (h : isV d e = .ok b) : plainIs v u = true ∧ (v == u) = b := by
  unfold isV at h
  split at h <;> first | (cases h; done) | skip
  all_goals cases h
  · cases r1.boolV; cases r2.boolV; cases rx; cases ry; exact ⟨rfl, by rename_i b c; cases b <;> cases c <;> rfl⟩
  · cases r1.noneV; cases r2.noneV; cases rx; cases ry; exact ⟨rfl, rfl⟩
  · cases r1.noneV; cases r2.boolV; cases rx; cases ry; exact ⟨rfl, rfl⟩
  · cases r1.boolV; cases r2.noneV; cases rx; cases ry; exact ⟨rfl, rfl⟩
  · cases r1.intV; cases r2.boolV; obtain ⟨t, rfl⟩ := rx; cases ry; exact ⟨rfl, rfl⟩
  · cases r1.intV; cases r2.noneV; obtain ⟨t, rfl⟩ := rx; cases ry; exact ⟨rfl, rfl⟩
  · cases r1.strV.1; cases r2.boolV; obtain ⟨t, rfl⟩ := rx; cases ry; exact ⟨rfl, rfl⟩
  · cases r1.strV.1; cases r2.noneV; obtain ⟨t, rfl⟩ := rx; cases ry; exact ⟨rfl, rfl⟩
  · obtain ⟨_, a, xs, e1, _⟩ := r1.listV; subst e1; cases r2.boolV; cases rx; cases ry; exact ⟨rfl, rfl⟩
  · obtain ⟨_, a, xs, e1, _⟩ := r1.listV; subst e1; cases r2.noneV; cases rx; cases ry; exact ⟨rfl, rfl⟩
  · obtain ⟨_, a, xs, e1, _⟩ := r1.tupV; subst e1; cases r2.boolV; cases rx; cases ry; exact ⟨rfl, rfl⟩
  · obtain ⟨_, a, xs, e1, _⟩ := r1.tupV; subst e1; cases r2.noneV; cases rx; cases ry; exact ⟨rfl, rfl⟩
  · rw [R] at r1; obtain ⟨_, _, a, e1, _⟩ := r1; subst e1; cases r2.boolV; cases rx; cases ry; exact ⟨rfl, rfl⟩
  · rw [R] at r1; obtain ⟨_, _, a, e1, _⟩ := r1; subst e1; cases r2.noneV; cases rx; cases ry; exact ⟨rfl, rfl⟩
theorem o_is : OpR X (compareOp .Is) (rP2 X.K isD) := by
  intro pins s σ H x y v u Q I rx ry ⟨N, d1, d2, d, n, r1, r2, e, q⟩
  obtain ⟨b, hb, e⟩ := Rs.bnd_eq e
  cases e
  obtain ⟨h1, h2⟩ := isV_ok r1 r2 rx ry hb
  exact wpAny_is_plain h1 ⟨.bl b, H, I, by rw [h2]; rfl, q _ H (Same.refl H) .bool⟩
theorem o_isn : OpR X (compareOp .IsNot) (rP2 X.K isnD) := by
  intro pins s σ H x y v u Q I rx ry ⟨N, d1, d2, d, n, r1, r2, e, q⟩
  obtain ⟨b, hb, e⟩ := Rs.bnd_eq e
  cases e
  obtain ⟨h1, h2⟩ := isV_ok r1 r2 rx ry hb
  exact wpAny_isNot_plain h1 ⟨.bl (!b), H, I, by rw [h2]; rfl, q _ H (Same.refl H) .bool⟩

/-! ### a list times an int -/
theorem list_mulG (pins : List (Addr × Obj)) (s : Shared) (σ : St) (H : Hp) (x y : V) (v u : Value) (Q : VK) (I : Inv X pins σ H s) (rx : RelV x v) (ry : RelV y u) (h : ∃ l k xs, x = .ref l ∧ y = .int k ∧ H l = some (.lst xs) ∧ 0 ≤ k ∧ k ≤ 1000 ∧ xs.length ≤ 1000 ∧
    ∀ p, H p = none → Q (.ref p) (upd H p (.lst (List.replicate k.toNat xs).flatten))) : wpAny (model X.prog X.w) X.A (binaryOp .Mult v u) (EP X pins σ Q) X.xe s := by
  obtain ⟨l, k, xs, e1, e2, hH, h1, h2, h3, q⟩ := h
  refine L2.op_rep pins s σ H x y v u Q I rx ry ⟨l, k, xs, e1, e2, hH, by omega, by omega, ?_, q⟩
  rw [sizeLine_eq]
  have a1 : xs.length * k.toNat ≤ 1000 * 1000 := Nat.mul_le_mul h3 (by omega)
  omega
/-- a written list times an int, a tuple times an int, two ints -/
def mulN : PyData → PyData → Rs PyData
  | .int i, .int j => if mulOk i j then .ok (.int (i * j)) else .no
  | _, _ => .no
theorem o_mulN : OpR X (binaryOp .Mult) (rP2 X.K mulN) := by
  intro pins s σ H x y v u Q I rx ry ⟨N, d1, d2, d, n, r1, r2, e, q⟩
  unfold mulN at e
  split at e
  · split at e <;> first | (cases e; done) | skip
    rename_i hc
    cases e
    exact op_mul pins s σ H x y v u Q I rx ry ⟨_, _, r1.intV, r2.intV, mulOk_iff hc, q _ H (Same.refl H) .int⟩
  · exact nomatch e

/-! ### subscripts -/
def ixD : PyData → PyData → Rs PyData
  | .list ds, .int i => match atI ds i with | some d => .ok d | none => .no
  | .tuple ds, .int i => match atI ds i with | some d => .ok d | none => .no
  | _, _ => .no
theorem RA.atI {K : PySem.W.Frag} {H : Hp} {ds : List PyData} {xs : List V} {i : Int} {d : PyData} (t : RA K H ds xs) (h : L2.atI ds i = some d) : ∃ x, L2.atI xs i = some x ∧ R K H d x := by
  unfold L2.atI at h ⊢
  rw [t.len]
  cases q : ixN ds.length i with
  | none => rw [q] at h; exact nomatch h
  | some j =>
    rw [q] at h
    exact t.get h
theorem i_ix : IxR X (rP2 X.K ixD) := by
  intro value slice pins s σ H x y v u Q I rx ry ⟨N, d1, d2, d, n, r1, r2, e, q⟩ hs
  unfold ixD at e
  split at e
  · split at e <;> first | (cases e; done) | skip
    rename_i hc
    cases e
    obtain ⟨z1, a, xs, e1, h1, t1⟩ := r1.listV
    obtain ⟨w, hw, rw'⟩ := t1.atI hc
    exact ix_list value slice pins s σ H x y v u Q I rx ry ⟨a, xs, _, w, e1, r2.intV, sqL_le h1, hw, q _ H (Same.refl H) rw'⟩ hs
  · split at e <;> first | (cases e; done) | skip
    rename_i hc
    cases e
    obtain ⟨z1, a, xs, e1, h1, t1⟩ := r1.tupV
    obtain ⟨w, hw, rw'⟩ := t1.atI hc
    exact ix_tup value slice pins s σ H x y v u Q I rx ry ⟨a, xs, _, w, e1, r2.intV, sqT_le h1, hw, q _ H (Same.refl H) rw'⟩ hs
  · exact nomatch e
theorem p_ix {F : FC} {a b : Expr} {fa fb : Ev → Rs PyData} {pos : Pos} (ha : EP' X F a fa) (hb : EP' X F b fb) (hs : PlainIx b := by exact fun _ _ => rfl) : EP' X F (.Subscript a b pos) (ap2 ixD fa fb) :=
  wkE (pe_ix i_ix ha hb hs) fun _ _ _ h => to2 h
/-- a slice's bound -/
def tO (K : KB) (F : FC) (g : Ev → Rs (Option Int)) : TO := fun σ H Q => ∃ O ρ o, Rel K F O ρ σ H ∧ g ρ = .ok o ∧ ∀ H', Same H H' → Q o H'
def oN : Ev → Rs (Option Int) := fun _ => .ok none
def asI : PyData → Rs Int
  | .int i => .ok i
  | _ => .no
def oS (f : Ev → Rs PyData) : Ev → Rs (Option Int) := fun ρ => (f ρ).bnd fun d => (asI d).bnd fun i => .ok (some i)
theorem wkO {e : Option Expr} {t t' : TO} (h : PO X e t) (w : ∀ σ H Q, t' σ H Q → t σ H Q) : PO X e t' := ⟨fun pins s σ H Q I q => h.run pins s σ H Q I (w _ _ _ q)⟩
theorem p_oN {F : FC} : PO X none (tO X.kb F oN) := wkO po_none fun σ H Q ⟨O, ρ, o, r, e, q⟩ => by
  cases e
  exact q H (Same.refl H)
theorem p_oS {F : FC} {e : Expr} {f : Ev → Rs PyData} (h : EP' X F e f) : PO X (some e) (tO X.kb F (oS f)) := wkO (po_some h) fun σ H Q ⟨O, ρ, o, r, e, q⟩ => by
  obtain ⟨d, ed, e⟩ := Rs.bnd_eq e
  obtain ⟨i, ei, e⟩ := Rs.bnd_eq e
  cases e
  refine ⟨O, ρ, d, r, ed, fun v H' s r' => ?_⟩
  cases d with
  | int j => cases ei; exact ⟨_, r'.intV, q H' s⟩
  | _ => exact nomatch ei
def cutD (xs : List PyData) (lo hi : Option Int) : List PyData := (xs.drop (HT.sIx xs.length 0 lo)).take (HT.sIx xs.length xs.length hi - HT.sIx xs.length 0 lo)
theorem cutD_len (xs : List PyData) (lo hi : Option Int) : (cutD xs lo hi).length ≤ xs.length := by
  unfold cutD
  rw [List.length_take, List.length_drop]
  omega
theorem RA.cut {K : PySem.W.Frag} {H : Hp} {ds : List PyData} {xs : List V} {lo hi : Option Int} (t : RA K H ds xs) : RA K H (cutD ds lo hi) (cutV xs lo hi) := by
  unfold cutD cutV
  rw [t.len]
  exact (t.drop _).take _
def slD (d : PyData) (lo hi : Option Int) : Rs PyData := match d with
  | .list ds => .ok (.list (cutD ds lo hi))
  | .tuple ds => .ok (.tuple (cutD ds lo hi))
  | _ => .no
def slE (f : Ev → Rs PyData) (g h : Ev → Rs (Option Int)) : Ev → Rs PyData := fun ρ => (f ρ).bnd fun d => (g ρ).bnd fun lo => (h ρ).bnd fun hi => slD d lo hi
def rSlD (K : PySem.W.Frag) : V → Option Int → Option Int → Hp → VK → Prop := fun x lo hi H Q => ∃ (N : Addr → Prop) (d1 d : PyData), (∀ a, N a → H a ≠ none) ∧ R K (hide N H) d1 x ∧ slD d1 lo hi = .ok d ∧ ∀ v H', Same H H' → R K (hide N H') d v → Q v H'
theorem i_sl : SlR X (rSlD X.K) := by
  intro pins s σ H x v vl vu lo hi sl Q I rx hs pl pu ⟨N, d1, d, n, r1, e, q⟩
  unfold slD at e
  split at e
  · cases e
    obtain ⟨z1, a, xs, e1, h1, t1⟩ := r1.listV
    exact sl_list pins s σ H x v vl vu lo hi sl Q I rx hs pl pu ⟨a, xs, e1, sqL_le h1, fun p hp => q _ _ (same_upd hp) (newL n hp (Nat.le_trans (cutD_len _ _ _) z1) t1.cut)⟩
  · cases e
    obtain ⟨z1, a, xs, e1, h1, t1, k1⟩ := r1.tupN
    refine sl_tupN pins s σ H x v vl vu lo hi sl Q I rx hs pl pu ⟨a, xs, e1, sqT_le h1, fun z => ?_, fun _ p o hp ho => q _ _ (same_upd hp) (newT ho n hp (Nat.le_trans (cutD_len _ _ _) z1) t1.cut)⟩
    refine q _ H (Same.refl H) (.tup (Nat.le_trans (cutD_len _ _ _) z1) h1 ?_ (by
      refine k1.imp id fun k => ?_
      unfold cutD
      rw [← t1.len, z.1, z.2, List.drop_zero, Nat.sub_zero, t1.len, List.take_length]
      exact k))
    have e3 : cutV xs lo hi = xs := by
      unfold cutV
      rw [z.1, z.2, List.drop_zero, Nat.sub_zero, List.take_length]
    have t2 : RA X.K (hide N H) (cutD _ lo hi) (cutV xs lo hi) := t1.cut
    rw [e3] at t2
    exact t2
  · exact nomatch e
theorem p_sl {F : FC} {a : Expr} {lo hi : Option Expr} {fa : Ev → Rs PyData} {g h : Ev → Rs (Option Int)} {p2 pos : Pos} (ha : EP' X F a fa) (hl : PO X lo (tO X.kb F g)) (hh : PO X hi (tO X.kb F h)) : EP' X F (.Subscript a (.Slice lo hi none p2) pos) (slE fa g h) :=
  wkE (pe_slice i_sl ha hl hh) fun σ H Q ⟨O, ρ, d, r, e, q⟩ => by
    obtain ⟨x, ex, e⟩ := Rs.bnd_eq e
    obtain ⟨l, el, e⟩ := Rs.bnd_eq e
    obtain ⟨u, eu, e⟩ := Rs.bnd_eq e
    exact ⟨O, ρ, x, r, ex, fun v H1 s1 r1 => ⟨O, ρ, l, r.mono s1, el, fun H2 s2 => ⟨O, ρ, u, (r.mono s1).mono s2, eu, fun H3 s3 => ⟨NN F O, x, d, fun a z => (((r.mono s1).mono s2).mono s3).nlive z, r1.mono (hide_same (s2.trans s3)), e, fun w H' s4 r4 => q w H' (((s1.trans s2).trans s3).trans s4) r4⟩⟩⟩⟩

/-! ### displays -/
theorem p_tup {F : FC} {es : List Expr} {k : Nat} {g : Ev → Rs (List PyData)} {pos : Pos} (h : AP' X F es g) (hn : es.length ≤ 1000 := by decide) : EP' X F (.Tuple es k pos) (fun ρ => (g ρ).bnd fun ds => if ds.length ≤ sizeLine then .ok (.tuple ds) else .no) :=
  wkE (pe_tupN h) fun σ H Q ⟨O, ρ, d, r, e, q⟩ => by
    obtain ⟨ds, ex, e⟩ := Rs.bnd_eq e
    split at e <;> first | (cases e; done) | skip
    rename_i hz
    cases e
    exact ⟨O, ρ, ds, r, ex, fun vs H1 s1 r1 => ⟨by rw [r1.len]; exact hz, fun p o hp ho => q _ _ (s1.trans (same_upd hp)) (newT ho (fun a z => (r.mono s1).nlive z) hp hz r1)⟩⟩
theorem p_lst {F : FC} {es : List Expr} {g : Ev → Rs (List PyData)} {pos : Pos} (h : AP' X F es g) : EP' X F (.List es pos) (fun ρ => (g ρ).bnd fun ds => if ds.length ≤ sizeLine then .ok (.list ds) else .no) :=
  wkE (pe_lst h) fun σ H Q ⟨O, ρ, d, r, e, q⟩ => by
    obtain ⟨ds, ex, e⟩ := Rs.bnd_eq e
    split at e <;> first | (cases e; done) | skip
    rename_i hz
    cases e
    exact ⟨O, ρ, ds, r, ex, fun vs H1 s1 r1 => ⟨by rw [r1.len]; exact hz, fun p hp => q _ _ (s1.trans (same_upd hp)) (newL (fun a z => (r.mono s1).nlive z) hp hz r1)⟩⟩

/-! ### built-in functions -/
def lenD : List PyData → Rs PyData
  | [.list ds] => .ok (.int ds.length)
  | [.tuple ds] => .ok (.int ds.length)
  | [.str x] => if x.length ≤ sizeLine then .ok (.int x.length) else .no
  | _ => .no
theorem c_len : CallR X (.builtin "len") (rPC X.K lenD) := by
  intro pins s σ H xs us Q I r ⟨N, ds, d, n, t, e, q⟩
  unfold lenD at e
  split at e
  · cases e
    obtain ⟨x, rfl, r1⟩ := t.inv1
    obtain ⟨z1, a, ys, rfl, h1, t1⟩ := r1.listV
    exact call_len_seq pins s σ H _ us Q I r ⟨a, ys, rfl, .inl (sqL_le h1), by rw [t1.len]; exact q _ H (Same.refl H) .int⟩
  · cases e
    obtain ⟨x, rfl, r1⟩ := t.inv1
    obtain ⟨z1, a, ys, rfl, h1, t1⟩ := r1.tupV
    exact call_len_seq pins s σ H _ us Q I r ⟨a, ys, rfl, .inr (sqT_le h1), by rw [t1.len]; exact q _ H (Same.refl H) .int⟩
  · split at e <;> first | (cases e; done) | skip
    cases e
    obtain ⟨x, rfl, r1⟩ := t.inv1
    obtain ⟨rfl, _⟩ := r1.strV
    exact call_len_str pins s σ H _ us Q I r ⟨_, rfl, by assumption, q _ H (Same.refl H) .int⟩
  · exact nomatch e
def intD : List PyData → Rs PyData
  | [.int i] => .ok (.int i)
  | [.bool b] => .ok (.int (if b then 1 else 0))
  | _ => .no
theorem c_int : CallR X (.type "int") (rPC X.K intD) := by
  intro pins s σ H xs us Q I r ⟨N, ds, d, n, t, e, q⟩
  unfold intD at e
  split at e
  · cases e
    obtain ⟨x, rfl, r1⟩ := t.inv1
    obtain rfl := r1.intV
    exact call_int1 pins s σ H _ us Q I r (.inl ⟨_, rfl, q _ H (Same.refl H) .int⟩)
  · cases e
    obtain ⟨x, rfl, r1⟩ := t.inv1
    obtain rfl := r1.boolV
    exact call_int1 pins s σ H _ us Q I r (.inr ⟨_, rfl, q _ H (Same.refl H) .int⟩)
  · exact nomatch e
def absD : List PyData → Rs PyData
  | [.int i] => .ok (.int (if i < 0 then -i else i))
  | _ => .no
theorem c_abs : CallR X (.builtin "abs") (rPC X.K absD) := by
  intro pins s σ H xs us Q I r ⟨N, ds, d, n, t, e, q⟩
  unfold absD at e
  split at e <;> first | (cases e; done) | skip
  cases e
  obtain ⟨x, rfl, r1⟩ := t.inv1
  obtain rfl := r1.intV
  exact call_abs pins s σ H _ us Q I r ⟨_, rfl, q _ H (Same.refl H) .int⟩
def maxD : List PyData → Rs PyData
  | [.int i, .int j] => .ok (.int (if j > i then j else i))
  | _ => .no
def minD : List PyData → Rs PyData
  | [.int i, .int j] => .ok (.int (if j < i then j else i))
  | _ => .no
theorem c_max (hc : X.calm = true) : CallR X (.builtin "max") (rPC X.K maxD) := by
  intro pins s σ H xs us Q I r ⟨N, ds, d, n, t, e, q⟩
  unfold maxD at e
  split at e <;> first | (cases e; done) | skip
  cases e
  obtain ⟨x, y, rfl, r1, r2⟩ := t.inv2
  obtain rfl := r1.intV
  obtain rfl := r2.intV
  exact call_max2 hc pins s σ H _ us Q I r ⟨_, _, rfl, q _ H (Same.refl H) .int⟩
theorem c_min (hc : X.calm = true) : CallR X (.builtin "min") (rPC X.K minD) := by
  intro pins s σ H xs us Q I r ⟨N, ds, d, n, t, e, q⟩
  unfold minD at e
  split at e <;> first | (cases e; done) | skip
  cases e
  obtain ⟨x, y, rfl, r1, r2⟩ := t.inv2
  obtain rfl := r1.intV
  obtain rfl := r2.intV
  exact call_min2 hc pins s σ H _ us Q I r ⟨_, _, rfl, q _ H (Same.refl H) .int⟩
def listD : List PyData → Rs PyData
  | [.list ds] => .ok (.list ds)
  | [.tuple ds] => .ok (.list ds)
  | _ => .no
theorem c_list : CallR X (.type "list") (rPC X.K listD) := by
  intro pins s σ H xs us Q I r ⟨N, ds, d, n, t, e, q⟩
  unfold listD at e
  split at e
  · cases e
    obtain ⟨x, rfl, r1⟩ := t.inv1
    obtain ⟨z1, a, ys, rfl, h1, t1⟩ := r1.listV
    exact call_list_of pins s σ H _ us Q I r ⟨a, ys, rfl, .inl (sqL_le h1), fun p hp => q _ _ (same_upd hp) (newL n hp z1 t1)⟩
  · cases e
    obtain ⟨x, rfl, r1⟩ := t.inv1
    obtain ⟨z1, a, ys, rfl, h1, t1⟩ := r1.tupV
    exact call_list_of pins s σ H _ us Q I r ⟨a, ys, rfl, .inr (sqT_le h1), fun p hp => q _ _ (same_upd hp) (newL n hp z1 t1)⟩
  · exact nomatch e
def tupleD : List PyData → Rs PyData
  | [.list ds] => .ok (.tuple ds)
  | [.tuple ds] => .ok (.tuple ds)
  | _ => .no
theorem c_tuple : CallR X (.type "tuple") (rPC X.K tupleD) := by
  intro pins s σ H xs us Q I r ⟨N, ds, d, n, t, e, q⟩
  unfold tupleD at e
  split at e
  · cases e
    obtain ⟨x, rfl, r1⟩ := t.inv1
    obtain ⟨z1, a, ys, rfl, h1, t1⟩ := r1.listV
    exact call_tupleN pins s σ H _ us Q I r ⟨a, ys, rfl, .inl ⟨sqL_le h1, fun p o hp ho => q _ _ (same_upd hp) (newT ho n hp z1 t1)⟩⟩
  · cases e
    obtain ⟨x, rfl, r1⟩ := t.inv1
    obtain ⟨z1, a, ys, rfl, h1, t1, k1⟩ := r1.tupN
    exact call_tupleN pins s σ H _ us Q I r ⟨a, ys, rfl, .inr ⟨sqT_le h1, q _ H (Same.refl H) (.tup z1 h1 t1 k1)⟩⟩
  · exact nomatch e
/-- the bools of a list -/
def bools : List PyData → Rs (List Bool)
  | [] => .ok []
  | .bool b :: r => (bools r).bnd fun bs => .ok (b :: bs)
  | _ :: _ => .no
theorem bools_ra {K : PySem.W.Frag} {H : Hp} : ∀ {ds : List PyData} {xs : List V} {bs : List Bool}, RA K H ds xs → bools ds = .ok bs → xs = bs.map V.bl
  | [], _, _, t, e => by cases e; rw [t.inv0]; rfl
  | d :: ds, _, bs, t, e => by
    cases d with
    | bool b =>
      obtain ⟨r, er, e⟩ := Rs.bnd_eq e
      cases e
      obtain ⟨x, q, rfl, h1, h2⟩ := t.inv
      rw [h1.boolV, bools_ra h2 er]; rfl
    | _ => exact nomatch e
def allD : List PyData → Rs PyData
  | [.list ds] => (bools ds).bnd fun bs => .ok (.bool (bs.all id))
  | _ => .no
def anyD : List PyData → Rs PyData
  | [.list ds] => (bools ds).bnd fun bs => .ok (.bool (bs.any id))
  | _ => .no
theorem c_all (hc : X.calm = true) : CallR X (.builtin "all") (rPC X.K allD) := by
  intro pins s σ H xs us Q I r ⟨N, ds, d, n, t, e, q⟩
  unfold allD at e
  split at e <;> first | (cases e; done) | skip
  obtain ⟨bs, eb, e⟩ := Rs.bnd_eq e
  cases e
  obtain ⟨x, rfl, r1⟩ := t.inv1
  obtain ⟨z1, a, ys, rfl, h1, t1⟩ := r1.listV
  exact cr_all hc pins s σ H _ us Q I r ⟨a, bs, rfl, by rw [← bools_ra t1 eb]; exact sqL_le h1, q _ H (Same.refl H) .bool⟩
theorem c_any (hc : X.calm = true) : CallR X (.builtin "any") (rPC X.K anyD) := by
  intro pins s σ H xs us Q I r ⟨N, ds, d, n, t, e, q⟩
  unfold anyD at e
  split at e <;> first | (cases e; done) | skip
  obtain ⟨bs, eb, e⟩ := Rs.bnd_eq e
  cases e
  obtain ⟨x, rfl, r1⟩ := t.inv1
  obtain ⟨z1, a, ys, rfl, h1, t1⟩ := r1.listV
  exact cr_any hc pins s σ H _ us Q I r ⟨a, bs, rfl, by rw [← bools_ra t1 eb]; exact sqL_le h1, q _ H (Same.refl H) .bool⟩

/-! ### isinstance(e, T) -/
def tname : PyData → String
  | .none => "NoneType"
  | .bool _ => "bool"
  | .int _ => "int"
  | .str _ => "str"
  | .list _ => "list"
  | .tuple _ => "tuple"
  | .dict _ => "dict"
def isi (T : String) (d : PyData) : Bool := match d with
  | .bool _ => T == "bool" || T == "int"
  | d => T == tname d
def isiD (T : String) (d : PyData) : Rs PyData := .ok (.bool (isi T d))
theorem ty_of {K : PySem.W.Frag} {H : Hp} {d : PyData} {v : V} (r : R K H d v) : TyX K H v (.type (tname d)) := by
  cases d with
  | none => rw [r.noneV]; exact .base .non
  | bool b => rw [r.boolV]; exact .base (.bl _)
  | int b => rw [r.intV]; exact .base (.int _)
  | str b => rw [r.strV.1]; exact .base (.str _)
  | list ds =>
    obtain ⟨z1, a, ys, rfl, h1, t1⟩ := r.listV
    rcases h1 with (h | ⟨o, h⟩) | ⟨o, its, m, h, hc, _⟩
    · exact .base (.lst h)
    · exact .base (.frz h)
    · exact .kList h hc
  | tuple ds =>
    obtain ⟨z1, a, ys, rfl, h1, t1⟩ := r.tupV
    rcases h1 with (h | ⟨o, h⟩) | ⟨o, its, m, h, hc, _⟩
    · exact .base (.tup h)
    · exact .fTuple h
    · exact .kTuple h hc
  | dict _ => rw [R] at r; obtain ⟨_, _, a, rfl, h⟩ := r; exact .base (.dK h)
def okT (T : String) : Bool := T == "int" || T == "str" || T == "bool" || T == "list" || T == "tuple" || T == "dict"
theorem kit_isi {T : String} (h : okT T = true) (d : PyData) : kitB (tname d) T = some (isi T d) := by
  simp only [okT, Bool.or_eq_true, beq_iff_eq] at h
  rcases h with ((((rfl | rfl) | rfl) | rfl) | rfl) | rfl <;> cases d <;> (simp only [tname, isi]; decide +kernel)
theorem p_isi {F : FC} {e : Expr} {f : Ev → Rs PyData} {T : String} {x : Str} {p p2 pos : Pos} (he : EP' X F e f) (hT : okT T = true) (hg : Gl X "isinstance") (hm : X.mg "isinstance" = none) (hg2 : Gl X x) (hm2 : X.mg x = none) (hv2 : bootBuiltins x = some (.type T)) (hn2 : x ≠ "__name__" := by decide) (hd2 : (x == ("__debug__" : Str)) = false := by decide)
    (hs : starEach [e, .Name x p2] X.env = (false, eval e X.env) :: starEach [.Name x p2] X.env := by rfl) (hs2 : starEach [.Name x p2] X.env = (false, eval (.Name x p2) X.env) :: starEach [] X.env := by rfl) (hpl : (backTo pos (starEach [.Name x p2] X.env)).any (·.1) = false := by rfl) :
    EP' X F (.Call (.Name "isinstance" p) [e, .Name x p2] [] pos) (ap1 (isiD T) f) :=
  wkE (pe_callB call_isi hg hm (by decide +kernel) (pa_cons he (pa_cons (pe_bltn (v := .ty T) hg2 hm2 hv2 rfl hn2 hd2) pa_nil hs2) hs) (he := hs) (hpl := hpl)) fun σ H Q ⟨O, ρ, d, r, e, q⟩ => by
    obtain ⟨a, ea, e⟩ := Rs.bnd_eq e
    cases e
    exact ⟨O, ρ, a, r, ea, fun v H1 s1 r1 => ⟨v, .ty T, _, _, _, rfl, .ty T, ty_of (r1.mono hide_le), kit_ty (kit_isi hT a), q _ H1 s1 .bool⟩⟩
end
end PL


/-! PL4: fresh lists, targets, walks, comprehensions -/
namespace PL
open PySem PySem.Spec PyProof.Rows L2

/-! ### a new list -/
def nP (N : Addr → Prop) (p : Addr) : Addr → Prop := fun a => N a ∨ a = p
def tN (K : KB) (F : FC) (f : Ev → Rs (List PyData)) : TE := fun σ H Q => ∃ O ρ ds, Rel K F O ρ σ H ∧ f ρ = .ok ds ∧ ∀ p xs H', Same H H' → H p = none → H' p = some (.lst xs) → ds.length ≤ sizeLine → RA K.K (hide (nP (NN F O) p) H') ds xs → Q (.ref p) H'
abbrev NP' (X : Cx) (F : FC) (e : Expr) (f : Ev → Rs (List PyData)) : Prop := PE X e (tN X.kb F f)
/-- as any value -/
def lst (f : Ev → Rs (List PyData)) : Ev → Rs PyData := fun ρ => (f ρ).bnd fun ds => .ok (.list ds)
theorem np_le {N : Addr → Prop} {p : Addr} {H : Hp} : Same (hide (nP N p) H) (hide N H) := hide_anti fun _ h => .inl h
theorem p_new {X : Cx} {F : FC} {e : Expr} {f : Ev → Rs (List PyData)} (h : NP' X F e f) : EP' X F e (lst f) := wkE h fun σ H Q ⟨O, ρ, d, r, e, q⟩ => by
  obtain ⟨ds, ed, e⟩ := Rs.bnd_eq e
  cases e
  refine ⟨O, ρ, ds, r, ed, fun p xs H' s hp hl hz ra => q _ H' s (.list hz (.of (hide_of (fun z => ?_) hl)) (ra.mono np_le))⟩
  exact r.nlive z hp
theorem newP {K : PySem.W.Frag} {N : Addr → Prop} {H : Hp} {p : Addr} {ds : List PyData} {xs : List V} (h : H p = none) (r : RA K (hide N H) ds xs) : RA K (hide (nP N p) (upd H p (.lst xs))) ds xs := by
  refine r.mono fun a o e => ?_
  obtain ⟨e1, e2⟩ := hide_some e
  have e3 := same_upd (o := .lst xs) h _ _ e2
  exact hide_of (fun z => z.elim e1 fun z => by subst z; rw [h] at e2; exact nomatch e2) e3

section
variable {X : Cx} {F : FC}
theorem n_lst {es : List Expr} {g : Ev → Rs (List PyData)} {pos : Pos} (h : AP' X F es g) : NP' X F (.List es pos) (fun ρ => (g ρ).bnd fun ds => if ds.length ≤ sizeLine then .ok ds else .no) :=
  wkE (pe_lst h) fun σ H Q ⟨O, ρ, d, r, e, q⟩ => by
    obtain ⟨ds, ex, e⟩ := Rs.bnd_eq e
    split at e <;> first | (cases e; done) | skip
    rename_i hz
    cases e
    exact ⟨O, ρ, _, r, ex, fun vs H1 s1 r1 => ⟨by rw [r1.len]; exact hz, fun p hp => q p vs _ (s1.trans (same_upd hp)) (s1.free hp) upd_same hz (newP hp r1)⟩⟩
/-- calls that give a new list -/
def rPN (K : PySem.W.Frag) (op : List PyData → Rs (List PyData)) : List V → Hp → VK → Prop := fun xs H Q => ∃ (N : Addr → Prop) (ds es : List PyData), (∀ a, N a → H a ≠ none) ∧ RA K (hide N H) ds xs ∧ op ds = .ok es ∧
  ∀ p ys H', Same H H' → H p = none → H' p = some (.lst ys) → es.length ≤ sizeLine → RA K (hide (nP N p) H') es ys → Q (.ref p) H'
def apN (op : List PyData → Rs (List PyData)) (g : Ev → Rs (List PyData)) : Ev → Rs (List PyData) := fun ρ => (g ρ).bnd op
theorem toN {K : KB} {op : List PyData → Rs (List PyData)} {g : Ev → Rs (List PyData)} {σ : St} {H : Hp} {Q : VK} (h : tN K F (apN op g) σ H Q) : tCB (rPN K.K op) (tA K F g) σ H Q := by
  obtain ⟨O, ρ, d, r, e, q⟩ := h
  obtain ⟨a, ea, e⟩ := Rs.bnd_eq e
  exact ⟨O, ρ, a, r, ea, fun x H1 s1 r1 => ⟨NN F O, a, d, fun z n => (r.mono s1).nlive n, r1, e, fun p ys H' s3 hp hl hz r3 => q p ys H' (s1.trans s3) (s1.free hp) hl hz r3⟩⟩
theorem n_callB {id : String} {o : List PyData → Rs (List PyData)} {x : Str} {p pos : Pos} {e : Expr} {es : List Expr} {g : Ev → Rs (List PyData)} (hc : CallR X (.builtin id) (rPN X.K o)) (hg : Gl X x) (hm : X.mg x = none) (hv : bootBuiltins x = some (.builtin id)) (ha : AP' X F (e :: es) g) (hn : x ≠ "__name__" := by decide) (hdb : (x == ("__debug__" : Str)) = false := by decide)
    (he : starEach (e :: es) X.env = (false, eval e X.env) :: starEach es X.env := by rfl) (hpl : (backTo pos (starEach es X.env)).any (·.1) = false := by rfl) : NP' X F (.Call (.Name x p) (e :: es) [] pos) (apN o g) :=
  wkE (pe_callB hc hg hm hv ha hn hdb he hpl) fun _ _ _ h => toN h
theorem n_callTy {T : String} {o : List PyData → Rs (List PyData)} {x : Str} {p pos : Pos} {e : Expr} {es : List Expr} {g : Ev → Rs (List PyData)} (hc : CallR X (.type T) (rPN X.K o)) (hg : Gl X x) (hm : X.mg x = none) (hv : bootBuiltins x = some (.type T)) (ha : AP' X F (e :: es) g) (hn : x ≠ "__name__" := by decide) (hdb : (x == ("__debug__" : Str)) = false := by decide)
    (he : starEach (e :: es) X.env = (false, eval e X.env) :: starEach es X.env := by rfl) (hpl : (backTo pos (starEach es X.env)).any (·.1) = false := by rfl) : NP' X F (.Call (.Name x p) (e :: es) [] pos) (apN o g) :=
  wkE (pe_callTy hc hg hm hv ha hn hdb he hpl) fun _ _ _ h => toN h
def seqOf : PyData → Rs (List PyData)
  | .list ds => .ok ds
  | .tuple ds => .ok ds
  | _ => .no
def listN : List PyData → Rs (List PyData)
  | [d] => seqOf d
  | _ => .no
theorem c_listN : CallR X (.type "list") (rPN X.K listN) := by
  intro pins s σ H xs us Q I r ⟨N, ds, d, n, t, e, q⟩
  unfold listN at e
  split at e <;> first | (cases e; done) | skip
  obtain ⟨x, rfl, r1⟩ := t.inv1
  unfold seqOf at e
  split at e <;> first | (cases e; done) | skip
  · cases e
    obtain ⟨z1, a, ys, rfl, h1, t1⟩ := r1.listV
    exact call_list_of pins s σ H _ us Q I r ⟨a, ys, rfl, .inl (sqL_le h1), fun p hp => q p ys _ (same_upd hp) hp upd_same z1 (newP hp t1)⟩
  · cases e
    obtain ⟨z1, a, ys, rfl, h1, t1⟩ := r1.tupV
    exact call_list_of pins s σ H _ us Q I r ⟨a, ys, rfl, .inr (sqT_le h1), fun p hp => q p ys _ (same_upd hp) hp upd_same z1 (newP hp t1)⟩
/-! sorted -/
def allAlike (ds : List PyData) : Bool := ds.all fun d => ds.all fun e => PySem.W.alike d e
def isTup1 : PyData → Bool
  | .tuple (_ :: _) => true
  | _ => false
def isFlat : PyData → Bool
  | .none => false
  | .tuple _ => false
  | _ => true
def sortD (ds : List PyData) : List PyData := ds.mergeSort (PySem.W.dataLe false fun d : PyData => d)
def sortOk (ds : List PyData) : Bool := allAlike ds && (ds.all isTup1 || ds.all isFlat) && ds.all fun d => decide (d.depth ≤ 60) && nod d
def sortedN : List PyData → Rs (List PyData)
  | [.list ds] => if sortOk ds then .ok (sortD ds) else .no
  | [.tuple ds] => if sortOk ds then .ok (sortD ds) else .no
  | _ => .no
theorem each_of {K : PySem.W.Frag} {H : Hp} : ∀ {ds : List PyData} {xs : List V} {us : List Value}, RA K H ds xs → Vals xs us → PySem.W.EachIs (fun v d => ∃ x, RelV x v ∧ R K H d x) us ds
  | [], _, _, t, r => by rw [t.inv0] at r; cases r; exact .nil
  | d :: ds, _, _, t, r => by
    obtain ⟨x, q, rfl, h1, h2⟩ := t.inv
    cases r with
    | cons r1 r2 => exact .cons ⟨x, r1, h1⟩ (each_of h2 r2)
theorem of_each {K : PySem.W.Frag} {H : Hp} : ∀ {ds : List PyData} {us : List Value}, PySem.W.EachIs (fun v d => ∃ x, RelV x v ∧ R K H d x) us ds → ∃ xs, RA K H ds xs ∧ Vals xs us
  | _, _, .nil => ⟨[], .nil, .nil⟩
  | _, _, .cons ⟨x, r1, h1⟩ t => by
    obtain ⟨xs, h2, r2⟩ := of_each t
    exact ⟨x :: xs, .cons h1 h2, .cons r1 r2⟩
theorem sortD_len (ds : List PyData) : (sortD ds).length = ds.length := List.length_mergeSort ds
section
open PySem.Calls PySem.W
variable {prog : Program} {w : World} {A : Around} {E : Value → Shared → Prop} {s : Shared}
/-- the items of a tuple, one after the other -/
theorem coll_tup {t0 : Addr} {us : List Value} {Q : List Value → Shared → Prop} (ht0 : s.heap.IsTuple t0 us.toArray) (zz : us.length ≤ sizeLine) (qq : Q us { s with heap := (s.heap.push (seqObj "list" #[] 0)).update s.heap.objs.size (Obj.mapSeq (· ++ us.toArray)) }) : wpAny (model prog w) A (collect (.ref t0)) Q E s := by
  obtain ⟨o, ho, hc, n, hd⟩ := id ht0
  unfold collect; refine wpAny_bind (wpAny_runValue (codeAny_builtin entry_proto_collect' ?_))
  show wpAny _ _ (do again (.builtin "list.__iadd__" ⟨[← newList [], .ref t0], []⟩)) _ _ s; refine wpAny_bind (wpAny_newList (wpAny_pure ⟨Code.quiet_builtin _ (by decide +kernel), codeAny_builtin entry_list_iadd' ?_⟩))
  show wpAny _ _ (Builtin.List.listExtendWith (.ref s.heap.objs.size) (.ref t0) (.ref s.heap.objs.size)) _ _ { s with heap := s.heap.push (seqObj "list" #[] 0) }; unfold Builtin.List.listExtendWith
  have ho1 : (s.heap.push (seqObj "list" #[] 0)).get? t0 = some o := Heap.get?_push_of_some _ ho
  have nw : (s.heap.push (seqObj "list" #[] 0)).get? s.heap.objs.size = some (seqObj "list" #[] 0) := Heap.get?_push_size _ rfl
  refine wpAny_bind (wpAny_typeOf (T := "tuple") ⟨o, ho1, hc⟩ ?_)
  have tt : (Value.type "tuple" == Value.type "tuple") = true := by rfl
  rw [if_pos (by rw [tt]; simp)]; refine wpAny_bind (listItems_at ho1 hd ?_); refine wpAny_bind (listItems_at (xs := #[]) (n := 0) nw rfl ?_)
  rw [if_neg (by simp)]; refine wpAny_bind (listUpdate_at (xs := #[]) (n := 0) nw rfl ?_ (Nat.zero_le _) (by simpa using Nat.le_succ_of_le zz)); refine wpAny_pure ?_
  show wpAny (model prog w) A (do let o ← load s.heap.objs.size; match o.data with | .seq xs _ => pure xs.toList | _ => unsupported "internal:collect") Q E { s with heap := (s.heap.push (seqObj "list" #[] 0)).update s.heap.objs.size (Obj.mapSeq (· ++ us.toArray)) }
  refine wpAny_bind (wpAny_load (get?_update_seq nw _) ?_)
  show wpAny _ _ (pure ((#[] : Array Value) ++ us.toArray).toList) Q E _; rw [show ((#[] : Array Value) ++ us.toArray).toList = us by simp]; exact wpAny_pure qq
theorem sort_tup {t0 : Addr} {us : List Value} {Q : Value → Shared → Prop} {κ : KeyKind} (ht0 : s.heap.IsTuple t0 us.toArray) (S : SortsAt prog w A.in1.in1 { s with heap := sortingHeap (copyHeap s.heap us) (s.heap.objs.size + 1) us } κ us) (zz : us.length ≤ sizeLine)
    (qq : Q (.ref (s.heap.objs.size + 1)) { s with heap := sortedAll s.heap us (sortVals κ false us us).toArray }) : wpAny (model prog w) A (call (.builtin "sorted") [.ref t0]) Q E s := by
  refine call_function_entry kind_sorted plain_sorted entry_sorted (args_sorted1 _) ?_
  unfold Builtin.«sorted»; refine wpAny_bind (m := checkCount "sorted" 1 1 _) (wpAny_pure ?_); refine wpAny_bind (coll_tup ht0 zz ?_); refine wpAny_bind (wpAny_newList ?_ zz)
  have sz1 : ((s.heap.push (seqObj "list" #[] 0)).update s.heap.objs.size (Obj.mapSeq (· ++ us.toArray))).objs.size = s.heap.objs.size + 1 := by rw [Heap.size_update, size_push']
  show wpAny _ _ _ _ _ { s with heap := copyHeap s.heap us }; rw [sz1]
  refine wpAny_bind (wpAny_holding (wpAny_call_entry slot_list_sort ⟨_, copyHeap_at s.heap us, rfl⟩ entry_list_sort ?body (args_list_sort _)))
  case body => exact wpAny_mono (list_sort_vals (P := fun f s' => f = .done (.ret .none) ∧ Q (.ref (s.heap.objs.size + 1)) s') (s := { s with heap := copyHeap s.heap us }) (copyHeap_at s.heap us) S zz ⟨rfl, qq⟩) (fun f s' hf => by obtain ⟨rfl, hq⟩ := hf; exact ⟨_, rfl, wpAny_pure ⟨_, rfl, hq⟩⟩) fun _ _ e => e
theorem sort_tup_data {β : Type} {us : List Value} {bs : List β} {enc : β → PyData} {R : Value → β → Prop} {t0 : Addr} {Q : Value → Shared → Prop} (ht0 : s.heap.IsTuple t0 us.toArray) (e : EachIs R us bs) (er : EachIs (fun v b => ∃ as, Reads s.heap v (enc b) as) us bs) (hal : AllAlike (bs.map enc)) (hk : Sortable (bs.map enc)) (zz : bs.length ≤ sizeLine)
    (hu : ∀ b, b ∈ bs → A.units + 2 + (enc b).depth < cLine) (qq : ∀ out, out.length = bs.length → EachIs R out (bs.mergeSort (dataLe false enc)) → Q (.ref (s.heap.objs.size + 1)) { s with heap := sortedAll s.heap us (List.toArray out) }) : wpAny (model prog w) A (call (.builtin "sorted") [.ref t0]) Q E s := by
  have er1 : EachIs (fun v b => ∃ as, Reads (sortingHeap (copyHeap s.heap us) (s.heap.objs.size + 1) us) v (enc b) as) us bs := er.mono fun _ _ ⟨as, r⟩ => ⟨as, PyProof.Rows.Reads.keeps (fun _ _ => sorting_copy_old) r⟩
  exact sort_tup ht0 (SortsAt.data (s := { s with heap := sortingHeap (copyHeap s.heap us) (s.heap.objs.size + 1) us }) (each_map (R := fun v d => ∃ as, Reads (sortingHeap (copyHeap s.heap us) (s.heap.objs.size + 1) us) v d as) enc er1) hal hk (bound_map hu)) (by rw [e.length]; exact zz) (qq _ (by rw [sortVals_length false rfl]; exact e.length) (sortVals_data false e er1 hal))
end
theorem c_sortedN (hu : X.A.units + 64 < cLine) : CallR X (.builtin "sorted") (rPN X.K sortedN) := by
  intro pins s σ H xs us Q I r ⟨N, ds, es, n, t, e, q⟩
  obtain ⟨dl, hk, rfl, a, ys, its, rfl, z1, t1, rv, hl⟩ : ∃ dl, sortOk dl = true ∧ es = sortD dl ∧ ∃ a ys its, xs = [.ref a] ∧ dl.length ≤ sizeLine ∧ RA X.K (hide N H) dl ys ∧ Vals ys its ∧ (s.heap.IsList a its.toArray ∨ s.heap.IsTuple a its.toArray) := by
    unfold sortedN at e
    split at e <;> first | (cases e; done) | skip
    · rename_i dl
      split at e <;> first | (cases e; done) | skip
      rename_i hk
      cases e
      obtain ⟨x, rfl, r1⟩ := t.inv1
      obtain ⟨z1, a, ys, rfl, h1, t1⟩ := r1.listV
      obtain ⟨its, rv, hl, _⟩ := L2.Inv.list I (sqL_le h1)
      exact ⟨dl, hk, rfl, a, ys, its, rfl, z1, t1, rv, .inl hl.isList⟩
    · rename_i dl
      split at e <;> first | (cases e; done) | skip
      rename_i hk
      cases e
      obtain ⟨x, rfl, r1⟩ := t.inv1
      obtain ⟨z1, a, ys, rfl, h1, t1⟩ := r1.tupV
      obtain ⟨its, rv, hl, _⟩ := L2.Inv.tuple I (sqT_le h1)
      exact ⟨dl, hk, rfl, a, ys, its, rfl, z1, t1, rv, .inr hl⟩
  rw [Vals.ref1 r]
  unfold sortOk at hk
  simp only [Bool.and_eq_true, Bool.or_eq_true, List.all_eq_true, decide_eq_true_eq] at hk
  obtain ⟨⟨hal, hso⟩, hdp⟩ := hk
  have hal' : PySem.W.AllAlike (dl.map fun d : PyData => d) := by
    rw [List.map_id']
    intro d hd d' hd'
    unfold allAlike at hal
    simp only [List.all_eq_true] at hal
    exact hal d hd d' hd'
  have hso' : PySem.W.Sortable (dl.map fun d : PyData => d) := by
    rw [List.map_id']
    rcases hso with h | h
    · refine .inl fun d hd => ?_
      have := h d hd
      unfold isTup1 at this
      split at this
      · exact ⟨_, _, rfl⟩
      · exact nomatch this
    · refine .inr fun d hd => ?_
      have := h d hd
      unfold isFlat at this
      split at this <;> first | (cases this; done) | skip
      rename_i k1 k2
      exact ⟨k1, k2⟩
  have ee := each_of t1 rv
  have eb := (PySem.W.each_mem ee).mono fun v b ⟨⟨x, h1, h2⟩, hb⟩ => Dp.reads I b x v ((h2.mono hide_le).dp (hdp b hb).2) h1
  rcases hl with hl | hl
  · refine PySem.W.sorted_data (R := fun v d => ∃ x, RelV x v ∧ R X.K (hide N H) d x) (enc := fun d : PyData => d) hl ee eb hal' hso' z1
      (fun b hb => by have := (hdp b hb).1; show _ + b.depth < _; omega) fun out ho eo => ?_
    obtain ⟨ep, he'⟩ := PyProof.Rows.sortedAll_at s.heap its out.toArray
    obtain ⟨ws, h2, r2⟩ := of_each eo
    have hw : ws.length ≤ sizeLine := by rw [h2.len]; exact Nat.le_trans (Nat.le_of_eq (sortD_len dl)) z1
    have hf := I.hok.fresh (Nat.le_succ s.heap.objs.size)
    exact ⟨.ref _, upd H (s.heap.objs.size + 1) (.lst ws), I.laid (t' := s.toks) (fun _ _ => PyProof.Rows.sortedAll_old) (Nat.le_succ _) ⟨hw, out, ep, r2, he'⟩, rfl, q _ _ _ (same_upd hf) hf upd_same (by show (sortD dl).length ≤ _; rw [sortD_len]; exact z1) (newP hf h2)⟩
  · refine sort_tup_data (R := fun v d => ∃ x, RelV x v ∧ R X.K (hide N H) d x) (enc := fun d : PyData => d) hl ee eb hal' hso' z1
      (fun b hb => by have := (hdp b hb).1; show _ + b.depth < _; omega) fun out ho eo => ?_
    obtain ⟨ep, he'⟩ := PyProof.Rows.sortedAll_at s.heap its out.toArray
    obtain ⟨ws, h2, r2⟩ := of_each eo
    have hw : ws.length ≤ sizeLine := by rw [h2.len]; exact Nat.le_trans (Nat.le_of_eq (sortD_len dl)) z1
    have hf := I.hok.fresh (Nat.le_succ s.heap.objs.size)
    exact ⟨.ref _, upd H (s.heap.objs.size + 1) (.lst ws), I.laid (t' := s.toks) (fun _ _ => PyProof.Rows.sortedAll_old) (Nat.le_succ _) ⟨hw, out, ep, r2, he'⟩, rfl, q _ _ _ (same_upd hf) hf upd_same (by show (sortD dl).length ≤ _; rw [sortD_len]; exact z1) (newP hf h2)⟩

/-! a display times an int, list + list, a slice of a list -/
def mulL (f : Ev → Rs (List PyData)) (g : Ev → Rs PyData) : Ev → Rs (List PyData) := fun ρ => (f ρ).bnd fun ds => (g ρ).bnd fun k => match k with
  | .int k => if 0 ≤ k ∧ k ≤ 1000 ∧ ds.length ≤ 1000 then .ok (List.replicate k.toNat ds).flatten else .no
  | _ => .no
theorem n_mul {a b : Expr} {f : Ev → Rs (List PyData)} {g : Ev → Rs PyData} {pos : Pos} (ha : NP' X F a f) (hb : EP' X F b g) : NP' X F (.BinOp a .Mult b pos) (mulL f g) :=
  wkE (pe_op L2.op_rep ha hb) fun σ H Q ⟨O, ρ, d, r, e, q⟩ => by
    obtain ⟨ds, ed, e⟩ := Rs.bnd_eq e
    obtain ⟨k, ek, e⟩ := Rs.bnd_eq e
    split at e <;> first | (cases e; done) | skip
    split at e <;> first | (cases e; done) | skip
    rename_i kk hk
    cases e
    refine ⟨O, ρ, ds, r, ed, fun p xs H1 s1 hp hl hz ra => ⟨O, ρ, _, r.mono s1, ek, fun v H2 s2 r2 => ⟨p, _, xs, rfl, r2.intV, s2 _ _ hl, by omega, by omega, ?_, fun p' hp' => ?_⟩⟩⟩
    · have h2 := ra.len
      rw [sizeLine_eq]
      have a1 : xs.length * Int.toNat kk ≤ 1000 * 1000 := Nat.mul_le_mul (by rw [h2]; exact hk.2.2) (show Int.toNat kk ≤ 1000 by omega)
      omega
    · refine q p' _ _ ((s1.trans s2).trans (same_upd hp')) ((s1.trans s2).free hp') upd_same (rep_small hk.2.1 hk.2.2) (newP hp' ((ra.mono ?_).rep _))
      exact np_le.trans (hide_same s2)
def addL (f g : Ev → Rs PyData) : Ev → Rs (List PyData) := fun ρ => (f ρ).bnd fun a => (g ρ).bnd fun b => match a, b with
  | .list xs, .list ys => if xs.length + ys.length ≤ sizeLine then .ok (xs ++ ys) else .no
  | _, _ => .no
theorem n_add {a b : Expr} {f g : Ev → Rs PyData} {pos : Pos} (ha : EP' X F a f) (hb : EP' X F b g) : NP' X F (.BinOp a .Add b pos) (addL f g) :=
  wkE (pe_op op_cat' ha hb) fun σ H Q ⟨O, ρ, d, r, e, q⟩ => by
    obtain ⟨d1, e1, e⟩ := Rs.bnd_eq e
    obtain ⟨d2, e2, e⟩ := Rs.bnd_eq e
    split at e <;> first | (cases e; done) | skip
    split at e <;> first | (cases e; done) | skip
    rename_i hz
    cases e
    refine ⟨O, ρ, _, r, e1, fun x H1 s1 r1 => ⟨O, ρ, _, r.mono s1, e2, fun y H2 s2 r2 => ?_⟩⟩
    obtain ⟨z1, a, xs, e1, h1, t1⟩ := r1.listV
    obtain ⟨z2, b, ys, e2, h2, t2⟩ := r2.listV
    have t1' := t1.mono (hide_same s2)
    exact ⟨a, b, xs, ys, e1, e2, s2.seq (sqL_le h1), sqL_le h2, by rw [t1.len, t2.len]; exact hz, fun p hp => q p _ _ ((s1.trans s2).trans (same_upd hp)) ((s1.trans s2).free hp) upd_same (by rw [List.length_append]; exact hz) (newP hp (t1'.append t2))⟩
end

/-! ### slots changed -/
def minusO (O : Own) (i : Nat) : Own := fun j => if j = i ∧ j < 1000 then none else O j
def plusO (O : Own) (i : Nat) (p : Addr) : Own := fun j => if j = i ∧ j < 1000 then some p else O j
theorem minusO_out {O : Own} {i j : Nat} (h : j ≠ i ∨ 1000 ≤ j) : minusO O i j = O j := if_neg fun z => h.elim (fun h => h z.1) fun h => absurd z.2 (by omega)
theorem plusO_out {O : Own} {i j : Nat} {p : Addr} (h : j ≠ i ∨ 1000 ≤ j) : plusO O i p j = O j := if_neg fun z => h.elim (fun h => h z.1) fun h => absurd z.2 (by omega)
theorem out_of {i j j' : Nat} (h : j ≠ i) (h' : j' = j ∨ 1000 ≤ j') : j' ≠ i ∨ 1000 ≤ j' := h'.imp (fun e => by rw [e]; exact h) id
section
variable {K : KB} {F : FC} {O : Own} {ρ : Ev} {σ : St} {H H' : Hp}
theorem minusO_some {i j : Nat} {a : Addr} (h : minusO O i j = some a) : ¬ (j = i ∧ j < 1000) ∧ O j = some a := by
  unfold minusO at h
  split at h
  · exact nomatch h
  · exact ⟨by assumption, h⟩
theorem minusO_le {i : Nat} : ∀ a, NN F (minusO O i) a → NN F O a := fun a h => h.imp id fun ⟨j, q⟩ => ⟨j, (minusO_some q).2⟩
theorem SlotOk.vis {ht : Option Addr} {N N' : Addr → Prop} {O' : Own} {i : Nat} {c : Cell} (h : SlotOk K ht N O H i σ c) (e : ∀ a, N' a → N a) (eo : ∀ j, (j = i ∨ ∃ k, j = ox i k) → O' j = O j) : SlotOk K ht N' O' H i σ c := h.move (hide_anti e) eo rfl fun _ _ _ _ _ q => q
theorem SlotOk.st {ht : Option Addr} {N : Addr → Prop} {i : Nat} {c : Cell} {σ' : St} (h : SlotOk K ht N O H i σ c) (e : σ'[i]? = σ[i]?) : SlotOk K ht N O H i σ' c := h.move (Same.refl _) (fun _ _ => rfl) e fun _ _ _ _ _ q => q
theorem set_get {α : Type} {l : List α} {i j : Nat} {x y : α} (h : (l.set i x)[j]? = some y) : (j = i ∧ y = x ∧ i < l.length) ∨ (j ≠ i ∧ l[j]? = some y) := by
  by_cases e : j = i
  · subst e
    by_cases hl : j < l.length
    · rw [List.getElem?_set_self hl] at h
      exact .inl ⟨rfl, (Option.some.inj h).symm, hl⟩
    · rw [List.getElem?_eq_none (by simpa using hl)] at h; exact nomatch h
  · rw [List.getElem?_set_ne (Ne.symm e)] at h
    exact .inr ⟨e, h⟩
/-- slot i takes a value; what it owned is let go -/
theorem Rel.setPub (r : Rel K F O ρ σ H) {i : Nat} {d : PyData} {v : V} (h : R K.K (hide (NN F O) H) d v) : Rel K F (minusO O i) (ρ.set i (some (.pub d))) (σ.set i (some v)) H := by
  refine ⟨by rw [List.length_set, List.length_set]; exact r.len, fun j k a h1 h2 => r.inj j k a (minusO_some h1).2 (minusO_some h2).2, fun j a h1 => r.live j a (minusO_some h1).2, r.hidl, fun a x q => ⟨(r.base a x q).1, fun j h1 => (r.base a x q).2 j (minusO_some h1).2⟩, fun j c q => ?_, r.obs.set (fun j h => minusO_out (.inr h)) (fun j hj => by first | rfl | exact List.getElem?_set_ne (Ne.symm hj)) (by simp) (by simp)⟩
  rcases set_get q with ⟨rfl, e, hl⟩ | ⟨hj, q⟩
  · cases e
    exact ⟨v, by rw [List.getElem?_set_self (by rw [r.len]; exact hl)], h.mono (hide_anti minusO_le)⟩
  · exact ((r.slots j c q).vis minusO_le fun j' h' => minusO_out (out_of hj (own_big h'))).st (List.getElem?_set_ne (Ne.symm hj))
/-- slot i is forgotten -/
theorem Rel.setNone (r : Rel K F O ρ σ H) {i : Nat} {o : Option V} : Rel K F O (ρ.set i none) (σ.set i o) H := by
  refine ⟨by rw [List.length_set, List.length_set]; exact r.len, r.inj, r.live, r.hidl, r.base, fun j c q => ?_, r.obs.set (fun _ _ => rfl) (fun j hj => List.getElem?_set_ne (Ne.symm hj)) (by simp) (by simp)⟩
  rcases set_get q with ⟨rfl, e, hl⟩ | ⟨hj, q⟩
  · exact nomatch e
  · exact (r.slots j c q).st (List.getElem?_set_ne (Ne.symm hj))
/-- what slot i owns is published -/
theorem Rel.pubOwn (r : Rel K F O ρ σ H) {i : Nat} {ds : List PyData} (h : ρ[i]? = some (some (.own ds))) : Rel K F (minusO O i) (ρ.set i (some (.pub (.list ds)))) σ H := by
  obtain ⟨z, a, xs, h1, h2, h3, h4⟩ := r.slots i _ h
  refine ⟨by rw [List.length_set]; exact r.len, fun j k a h1 h2 => r.inj j k a (minusO_some h1).2 (minusO_some h2).2, fun j a h1 => r.live j a (minusO_some h1).2, r.hidl, fun a x q => ⟨(r.base a x q).1, fun j h1 => (r.base a x q).2 j (minusO_some h1).2⟩, fun j c q => ?_, r.obs.set (fun j h => minusO_out (.inr h)) (fun j hj => by first | rfl | exact List.getElem?_set_ne (Ne.symm hj)) (by simp) (by simp)⟩
  rcases set_get q with ⟨rfl, e, hl⟩ | ⟨hj, q⟩
  · cases e
    refine ⟨_, h2, .list z (.of (hide_of (fun n => ?_) h3)) (h4.mono (hide_anti minusO_le))⟩
    rcases n with n | ⟨k, n⟩
    · cases q : F.H0 a with
      | none => exact r.hidl a n q
      | some o => exact (r.base a o q).2 j h1
    · obtain ⟨n1, n2⟩ := minusO_some n
      have e1 := r.inj _ _ _ n2 h1
      exact n1 ⟨e1, by have := r.obs.sz; omega⟩
  · exact (r.slots j c q).vis minusO_le fun j' h' => minusO_out (out_of hj (own_big h'))
/-- slot i takes a new list of its own -/
theorem Rel.setOwn (r : Rel K F O ρ σ H) {H' : Hp} (s : Same H H') {p : Addr} {xs : List V} {ds : List PyData} {i : Nat} (hp : H p = none) (hl : H' p = some (.lst xs)) (hz : ds.length ≤ sizeLine) (ra : RA K.K (hide (nP (NN F O) p) H') ds xs) :
    Rel K F (plusO O i p) (ρ.set i (some (.own ds))) (σ.set i (some (.ref p))) H' := by
  have old : ∀ j a, O j = some a → a ≠ p := fun j a h1 z => r.live j a h1 (by rw [z]; exact hp)
  have pl : ∀ {j a}, plusO O i p j = some a → (j = i ∧ a = p) ∨ (¬ (j = i ∧ j < 1000) ∧ O j = some a) := fun {j a} h => by
    unfold plusO at h
    split at h
    · rename_i q; exact .inl ⟨q.1, (Option.some.inj h).symm⟩
    · rename_i q; exact .inr ⟨q, h⟩
  have nn : ∀ a, NN F (plusO O i p) a → nP (NN F O) p a := fun a h => by
    rcases h with h | ⟨j, h⟩
    · exact .inl (.inl h)
    · rcases pl h with ⟨_, e⟩ | ⟨_, e⟩
      · exact .inr e
      · exact .inl (.inr ⟨j, e⟩)
  refine ⟨by rw [List.length_set, List.length_set]; exact r.len, fun j k a h1 h2 => ?_, fun j a h1 => ?_, r.hidl, fun a x q => ⟨s _ _ (r.base a x q).1, fun j h1 => ?_⟩, fun j c q => ?_, r.obs.set (fun j h => plusO_out (.inr h)) (fun j hj => List.getElem?_set_ne (Ne.symm hj)) (by simp) (by simp)⟩
  · rcases pl h1 with ⟨e1, e2⟩ | ⟨e1, e2⟩ <;> rcases pl h2 with ⟨e3, e4⟩ | ⟨e3, e4⟩
    · rw [e1, e3]
    · exact absurd e2 (old _ _ e4)
    · exact absurd e4 (old _ _ e2)
    · exact r.inj _ _ _ e2 e4
  · rcases pl h1 with ⟨_, e⟩ | ⟨_, e⟩
    · rw [e, hl]; simp
    · exact same_ne s (r.live j a e)
  · rcases pl h1 with ⟨_, e⟩ | ⟨_, e⟩
    · have := (r.base a x q).1
      rw [e, hp] at this; exact nomatch this
    · exact (r.base a x q).2 j e
  · rcases set_get q with ⟨rfl, e, hi⟩ | ⟨hj, q⟩
    · cases e
      exact ⟨hz, p, xs, if_pos ⟨rfl, by have := r.obs.sz; omega⟩, by rw [List.getElem?_set_self (by rw [r.len]; exact hi)], hl, ra.mono (hide_anti nn)⟩
    · have base := r.slots j c q
      have mv : Same (hide (NN F O) H) (hide (NN F (plusO O i p)) H') := fun a o e => by
        obtain ⟨e1, e2⟩ := hide_some e
        exact hide_of (fun z => (nn a z).elim e1 fun z => by rw [z, hp] at e2; exact nomatch e2) (s _ _ e2)
      exact base.move mv (fun j' h' => plusO_out (out_of hj (own_big h'))) (List.getElem?_set_ne (Ne.symm hj)) fun _ a x _ _ q => s a x q
theorem own_vis (r : Rel K F O ρ σ H) {H' : Hp} (s : Same H H') {p : Addr} {i : Nat} (hp : H p = none) : Same (hide (NN F O) H) (hide (NN F (plusO O i p)) H') := fun a o e => by
  obtain ⟨e1, e2⟩ := hide_some e
  refine hide_of (fun z => ?_) (s _ _ e2)
  rcases z with z | ⟨j, z⟩
  · exact e1 (.inl z)
  · unfold plusO at z
    split at z
    · cases z; rw [hp] at e2; exact nomatch e2
    · exact e1 (.inr ⟨j, z⟩)
theorem own_ne (r : Rel K F O ρ σ H) {i j j' : Nat} (hj : j ≠ i) (hi : i < ρ.length) (h : j' = j ∨ ∃ k, j' = ox j k) (e : j' = i) : False := by
  have := r.obs.sz
  rcases h with h | ⟨k, h⟩
  · exact hj (h.symm.trans e)
  · have := ox_big j k; omega
/-- the list that slot i owns is changed -/
theorem Rel.mut (r : Rel K F O ρ σ H) {i : Nat} {a : Addr} {xs : List V} {ds es : List PyData} (h0 : ρ[i]? = some (some (.own ds))) (ha : O i = some a) (hz : es.length ≤ sizeLine) (ra : RA K.K (hide (NN F O) H) es xs) :
    Rel K F O (ρ.set i (some (.own es))) σ (upd H a (.lst xs)) ∧ Same (hide (NN F O) H) (hide (NN F O) (upd H a (.lst xs))) := by
  have vis : Same (hide (NN F O) H) (hide (NN F O) (upd H a (.lst xs))) := fun b o e => by
    obtain ⟨e1, e2⟩ := hide_some e
    exact hide_of e1 (by rw [upd_ne (fun z => e1 (.inr ⟨i, by rw [z]; exact ha⟩))]; exact e2)
  refine ⟨⟨by rw [List.length_set]; exact r.len, r.inj, fun j b h1 => ?_, r.hidl, fun b x q => ⟨?_, (r.base b x q).2⟩, fun j c q => ?_, r.obs.set (fun _ _ => rfl) (fun _ _ => rfl) (by simp) (by simp)⟩, vis⟩
  · by_cases e : b = a
    · rw [e, upd_same]; simp
    · rw [upd_ne e]; exact r.live j b h1
  · rw [upd_ne (fun z => (r.base b x q).2 i (by rw [z]; exact ha))]; exact (r.base b x q).1
  · rcases set_get q with ⟨rfl, e, hi⟩ | ⟨hj, q⟩
    · cases e
      obtain ⟨_, b, ys, h1, h2, _, _⟩ := r.slots j _ h0
      rw [ha] at h1
      cases h1
      exact ⟨hz, a, xs, ha, h2, upd_same, ra.mono vis⟩
    · have base := r.slots j c q
      exact base.move vis (fun _ _ => rfl) rfl fun j' b x hj' h1 h3 => by rw [upd_ne (fun z => own_ne r hj (List.getElem?_eq_some_iff.mp h0).1 hj' (r.inj _ _ _ h1 (by rw [z]; exact ha)))]; exact h3
end
end PL


/-! PL5: targets, walks, comprehensions -/
namespace PL
open PySem PySem.Spec PyProof.Rows L2

/-! ### targets -/
inductive Tg where
  | one (i : Nat)
  | many (is : List Nat)
def Tg.slots : Tg → List Nat
  | .one i => [i]
  | .many is => is
def setAll : List Nat → List PyData → Ev → Rs Ev
  | [], [], ρ => .ok ρ
  | i :: is, d :: ds, ρ => setAll is ds (ρ.set i (some (.pub d)))
  | _, _, _ => .no
def tgt : Tg → PyData → Ev → Rs Ev
  | .one i, d, ρ => .ok (ρ.set i (some (.pub d)))
  | .many is, .tuple ds, ρ => setAll is ds ρ
  | _, _, _ => .no
/-- behind a target -/
structure Got (K : KB) (F : FC) (O : Own) (σ : St) (H : Hp) (is : List Nat) (O' : Own) (ρ' : Ev) (σ' : St) : Prop where
  rel : Rel K F O' ρ' σ' H
  vis : Same (hide (NN F O) H) (hide (NN F O') H)
  out : ∀ j, j ∉ is → σ'[j]? = σ[j]?
  len : σ'.length = σ.length
  own : (∀ j ∈ is, j < 1000 → O j = none) → O' = O
/-- what a target asks of a value -/
def RQ (t : Tg) (K : PySem.W.Frag) (H : Hp) (d : PyData) (v : V) : Prop := match t with
  | .one _ => R K H d v
  | .many _ => ∀ ds, d = .tuple ds → ∃ a xs, v = .ref a ∧ SqT K H a xs ∧ RA K H ds xs
theorem RQ.of {t : Tg} {K : PySem.W.Frag} {H : Hp} {d : PyData} {v : V} (r : R K H d v) : RQ t K H d v := by
  cases t with
  | one i => exact r
  | many is =>
    intro ds e
    subst e
    obtain ⟨z, a, xs, e1, h1, t1⟩ := r.tupV
    exact ⟨a, xs, e1, h1, t1⟩
def gP (K : KB) (F : FC) (t : Tg) : TG := fun v σ H Q => ∃ O ρ d ρ', Rel K F O ρ σ H ∧ RQ t K.K (hide (NN F O) H) d v ∧ tgt t d ρ = .ok ρ' ∧ ∀ O' σ', Got K F O σ H t.slots O' ρ' σ' → Q σ' H
def gsP (K : KB) (F : FC) (is : List Nat) : TGs := fun vs σ H Q => ∃ O ρ ds ρ', Rel K F O ρ σ H ∧ RA K.K (hide (NN F O) H) ds vs ∧ setAll is ds ρ = .ok ρ' ∧ ∀ O' σ', Got K F O σ H is O' ρ' σ' → Q σ' H
theorem wkG {X : Cx} {e : Expr} {t t' : TG} (h : PG X e t) (w : ∀ v σ H Q, t' v σ H Q → t v σ H Q) : PG X e t' := ⟨fun pins s σ H v u Q I r q => h.run pins s σ H v u Q I r (w _ _ _ _ q)⟩
theorem wkGs {X : Cx} {e : List Expr} {t t' : TGs} (h : PGs X e t) (w : ∀ v σ H Q, t' v σ H Q → t v σ H Q) : PGs X e t' := ⟨fun pins s σ H v u Q I r q => h.run pins s σ H v u Q I r (w _ _ _ _ q)⟩
theorem minusO_none {O : Own} {i : Nat} (h : i < 1000 → O i = none) : minusO O i = O := by
  funext j
  unfold minusO
  split
  · rename_i e; rw [e.1, h (e.1 ▸ e.2)]
  · rfl
theorem got_one {K : KB} {F : FC} {O : Own} {ρ : Ev} {σ : St} {H : Hp} {d : PyData} {v : V} {i : Nat} (r : Rel K F O ρ σ H) (h : R K.K (hide (NN F O) H) d v) : Got K F O σ H [i] (minusO O i) (ρ.set i (some (.pub d))) (σ.set i (some v)) :=
  ⟨r.setPub h, hide_anti minusO_le, fun j hj => List.getElem?_set_ne (fun z => hj (by rw [z]; simp)), by simp, fun h => minusO_none (h i (by simp))⟩
section
variable {X : Cx} {F : FC}
theorem g_one {x : Str} {pos : Pos} {i : Nat} (h : PG X (.Name x pos) (gName i)) : PG X (.Name x pos) (gP X.kb F (.one i)) := wkG h fun v σ H Q ⟨O, ρ, d, ρ', r, h, e, q⟩ => by
  cases e
  exact q _ _ (got_one r h)
theorem gs_nil : PGs X [] (gsP X.kb F []) := wkGs pgs_nil fun vs σ H Q ⟨O, ρ, ds, ρ', r, h, e, q⟩ => by
  cases ds with
  | nil => cases e; exact ⟨h.inv0, q O σ ⟨r, Same.refl _, fun _ _ => rfl, rfl, fun _ => rfl⟩⟩
  | cons d ds => exact nomatch e
theorem gs_cons {e : Expr} {es : List Expr} {i : Nat} {is : List Nat} (h1 : PG X e (gName i)) (h2 : PGs X es (gsP X.kb F is))
    (hs : (assignEach (e :: es) X.env).map (·.2) = assign e X.env :: (assignEach es X.env).map (·.2) := by rfl) : PGs X (e :: es) (gsP X.kb F (i :: is)) := wkGs (pgs_cons h1 h2 hs) fun vs σ H Q ⟨O, ρ, ds, ρ', r, h, e, q⟩ => by
  cases ds with
  | nil => exact nomatch e
  | cons d ds =>
    obtain ⟨v, vr, rfl, h1, h2⟩ := h.inv
    have g := got_one (i := i) r h1
    refine ⟨v, vr, rfl, minusO O i, _, ds, ρ', g.rel, h2.mono g.vis, e, fun O' σ' g' => q O' σ' ⟨g'.rel, g.vis.trans g'.vis, fun j hj => ?_, g'.len.trans g.len, fun hn => ?_⟩⟩
    · rw [g'.out j (fun z => hj (by simp [z])), g.out j (fun z => hj (by simp at z; simp [z]))]
    · rw [g'.own, g.own fun j hj => hn j (by simp at hj; simp [hj])]
      intro j hj
      rw [g.own fun j hj => hn j (by simp at hj; simp [hj])]
      exact hn j (by simp [hj])
theorem g_many {es : List Expr} {k : Nat} {is : List Nat} {n : Nat} {pos : Pos} (hc : X.calm = true) (h : PGs X es (gsP X.kb F is)) (hl : is.length = n := by rfl)
    (hn : (assignEach es X.env).length = n := by rfl) (hst : (assignEach es X.env).findIdx? (·.1) = none := by rfl) : PG X (.Tuple es k pos) (gP X.kb F (.many is)) := wkG (pg_tup hc h hn hst) fun v σ H Q ⟨O, ρ, d, ρ', r, h, e, q⟩ => by
  have ln : ∀ {is : List Nat} {ds : List PyData} {ρ ρ' : Ev}, setAll is ds ρ = .ok ρ' → ds.length = is.length := by
    intro is
    induction is with
    | nil => intro ds ρ ρ' e; cases ds with | nil => rfl | cons _ _ => exact nomatch e
    | cons i is ih => intro ds ρ ρ' e; cases ds with | nil => exact nomatch e | cons d ds => rw [List.length_cons, List.length_cons, ih e]
  cases d with
  | tuple ds =>
    obtain ⟨a, xs, e1, h1, t1⟩ := h ds rfl
    exact ⟨a, xs, e1, sqT_le h1, by rw [t1.len, ln e, hl], O, ρ, ds, ρ', r, t1, e, q⟩
  | _ => exact nomatch e
end

/-! ### walks -/
structure Wk (t : Tg) (K : PySem.W.Frag) (B E : Hp) (J : It) (ds : List PyData) : Prop where
  sz : ds.length ≤ sizeLine
  go : ∀ H i, Same B H → i < ds.length → J.go i H
  stop : ∀ H, Same B H → J.stop ds.length H
  yld : ∀ H i x H', Same B H → i < ds.length → J.yld i H x H' → Same H H' ∧ ∃ d, ds[i]? = some d ∧ ∀ N, (∀ a, N a → H a ≠ none) → Same E (hide N H) → RQ t K (hide N H') d x
def tI (K : KB) (F : FC) (t : Tg) (g : Ev → Rs (List PyData)) : TI := fun σ H RR => ∃ O ρ ds, Rel K F O ρ σ H ∧ g ρ = .ok ds ∧ ∀ J H', Same H H' → Wk t K.K (hide (NN F O) H') (hide (NN F O) H') J ds → RR J H'
def tJ (K : KB) (F : FC) (t : Tg) (g : Ev → Rs (List PyData)) : TI := fun σ H RR => ∃ O ρ ds, Rel K F O ρ σ H ∧ g ρ = .ok ds ∧ ∀ J H', Same H H' → Wk t K.K H' (hide (NN F O) H') J ds → RR J H'
theorem wkI {X : Cx} {tg e : Expr} {t t' : TI} (h : PI X tg e t) (w : ∀ σ H Q, t' σ H Q → t σ H Q) : PI X tg e t' := ⟨fun pins s σ H Q I q => h.run pins s σ H Q I (w _ _ _ q)⟩
theorem Wk.big {t : Tg} {K : PySem.W.Frag} {B B' E : Hp} {J : It} {ds : List PyData} (w : Wk t K B E J ds) (s : Same B B') : Wk t K B' E J ds :=
  ⟨w.sz, fun H i h => w.go H i (s.trans h), fun H h => w.stop H (s.trans h), fun H i x H' h => w.yld H i x H' (s.trans h)⟩
theorem i_j {X : Cx} {F : FC} {t : Tg} {tg e : Expr} {g : Ev → Rs (List PyData)} (h : PI X tg e (tI X.kb F t g)) : PI X tg e (tJ X.kb F t g) := wkI h fun σ H Q ⟨O, ρ, ds, r, e, q⟩ => ⟨O, ρ, ds, r, e, fun J H' s w => q J H' s (w.big hide_le)⟩
theorem wk_list {tq : Tg} {K : PySem.W.Frag} {B E : Hp} {a : Addr} {ds : List PyData} {xs : List V} (z : ds.length ≤ sizeLine) (h : SqL K B a xs) (t : RA K E ds xs) : Wk tq K B E (Itl K a) ds := by
  refine ⟨z, fun H i s hi => ?_, fun H s => ⟨xs, s.seq h, by rw [t.len]; exact Nat.le_refl _⟩, fun H i x H' s hi y => ?_⟩
  · obtain ⟨x, e1, e2⟩ := t.get (List.getElem?_eq_getElem hi)
    exact ⟨xs, x, s.seq h, e1⟩
  · obtain ⟨e, y⟩ := y
    subst e
    obtain ⟨d, e1, e2⟩ := t.getV (y xs (s.seq h))
    exact ⟨Same.refl _, d, e1, fun N hn se => .of (e2.mono se)⟩
theorem wk_tup {tq : Tg} {K : PySem.W.Frag} {B E : Hp} {a : Addr} {ds : List PyData} {xs : List V} (z : ds.length ≤ sizeLine) (h : SqT K B a xs) (t : RA K E ds xs) : Wk tq K B E (Itt K a) ds := by
  refine ⟨z, fun H i s hi => ?_, fun H s => ⟨xs, sqt_mono s h, by rw [t.len]; exact Nat.le_refl _⟩, fun H i x H' s hi y => ?_⟩
  · obtain ⟨x, e1, e2⟩ := t.get (List.getElem?_eq_getElem hi)
    exact ⟨xs, x, sqt_mono s h, e1⟩
  · obtain ⟨e, y⟩ := y
    subst e
    obtain ⟨d, e1, e2⟩ := t.getV (y xs (sqt_mono s h))
    exact ⟨Same.refl _, d, e1, fun N hn se => .of (e2.mono se)⟩
def rangeL (lo : Int) (n : Nat) : List PyData := (List.range n).map fun (k : Nat) => .int (lo + (k : Int))
theorem wk_range {tq : Tg} {K : PySem.W.Frag} {B E : Hp} {lo : Int} {n : Nat} (z : n ≤ sizeLine) : Wk tq K B E (Itr lo n) (rangeL lo n) := by
  have ln : (rangeL lo n).length = n := by simp [rangeL]
  refine ⟨by rw [ln]; exact z, fun H i s hi => by rw [ln] at hi; exact hi, fun H s => by rw [ln]; exact Nat.le_refl _, fun H i x H' s hi y => ?_⟩
  obtain ⟨e1, e2⟩ := y
  subst e1 e2
  rw [ln] at hi
  exact ⟨Same.refl _, .int (lo + i), by simp [rangeL, hi], fun N hn se => .of .int⟩
section
variable {X : Cx} {F : FC} {tg : Expr}
/-- what a list or a tuple gives -/
def seqE (f : Ev → Rs PyData) : Ev → Rs (List PyData) := fun ρ => (f ρ).bnd seqOf
theorem i_seq {t : Tg} {e : Expr} {f : Ev → Rs PyData} (h : EP' X F e f) : PI X tg e (tI X.kb F t (seqE f)) := by
  refine ⟨fun pins s σ H Q I ⟨O, ρ, ds, r, e, q⟩ => ?_⟩
  obtain ⟨d, ed, e⟩ := Rs.bnd_eq e
  unfold seqOf at e
  split at e <;> first | (cases e; done) | skip
  · cases e
    refine (pi_list h).run pins s σ H Q I ⟨O, ρ, _, r, ed, fun v H' s1 r1 => ?_⟩
    obtain ⟨z, a, xs, e1, h1, t1⟩ := r1.listV
    exact ⟨a, e1, ⟨xs, sqL_le h1⟩, q _ H' s1 (wk_list z h1 t1)⟩
  · cases e
    refine (pi_tup h).run pins s σ H Q I ⟨O, ρ, _, r, ed, fun v H' s1 r1 => ?_⟩
    obtain ⟨z, a, xs, e1, h1, t1⟩ := r1.tupV
    exact ⟨a, e1, ⟨xs, sqT_le h1⟩, q _ H' s1 (wk_tup z h1 t1)⟩
/-- the list that a slot owns -/
def ownL (i : Nat) : Ev → Rs (List PyData) := fun ρ => match getC ρ i with | some (.own ds) => .ok ds | _ => .no
theorem j_own {t : Tg} {x : Str} {pos : Pos} (i : Nat) (h : PE X (.Name x pos) (tVar i)) : PI X tg (.Name x pos) (tJ X.kb F t (ownL i)) := wkI (pi_list h) fun σ H Q ⟨O, ρ, ds, r, e, q⟩ => by
  unfold ownL at e
  split at e <;> first | (cases e; done) | skip
  rename_i hc
  cases e
  obtain ⟨z, a, xs, h1, h2, h3, h4⟩ := r.slots i _ (getC_iff.mp hc)
  exact ⟨_, h2, a, rfl, ⟨xs, .of h3⟩, q _ H (Same.refl H) (wk_list z (.of h3) h4)⟩
/-- the longest range as a pair, read by rgMax_eq -/
def rgMax : { n : Int // n = 16777216 } := ⟨16777216, rfl⟩
theorem rgMax_eq : rgMax.1 = 16777216 := rgMax.2
def rng1 : List PyData → Rs (List PyData)
  | [.int j] => if j ≤ rgMax.1 ∧ -(2 ^ 62) ≤ j then .ok (rangeL 0 j.toNat) else .no
  | _ => .no
def rng2 : List PyData → Rs (List PyData)
  | [.int i, .int j] => if -(2 ^ 61) ≤ i ∧ i < 2 ^ 61 ∧ -(2 ^ 61) ≤ j ∧ j < 2 ^ 61 ∧ j - i ≤ rgMax.1 then .ok (rangeL i (j - i).toNat) else .no
  | _ => .no
theorem i_range1 {t : Tg} {a : Expr} {g : Ev → Rs (List PyData)} {p pos : Pos} (hg : Gl X "range") (hm : X.mg "range" = none) (ha : AP' X F [a] g) (hs : starEach [a] X.env = [(false, eval a X.env)] := by rfl) : PI X tg (.Call (.Name "range" p) [a] [] pos) (tI X.kb F t (apN rng1 g)) :=
  wkI (pi_range1 hg hm ha hs) fun σ H Q ⟨O, ρ, ds, r, e, q⟩ => by
    obtain ⟨l, el, e⟩ := Rs.bnd_eq e
    unfold rng1 at e
    split at e <;> first | (cases e; done) | skip
    split at e <;> first | (cases e; done) | skip
    rename_i hc
    rw [rgMax_eq] at hc
    cases e
    refine ⟨O, ρ, _, r, el, fun vs H' s t => ?_⟩
    obtain ⟨x, rfl, r1⟩ := t.inv1
    exact ⟨_, by rw [r1.intV], hc.2, by omega, q _ H' s (wk_range (by rw [sizeLine_eq]; omega))⟩
theorem i_range2 {t : Tg} {a b : Expr} {g : Ev → Rs (List PyData)} {p pos : Pos} (hg : Gl X "range") (hm : X.mg "range" = none) (ha : AP' X F [a, b] g) (hs : starEach [a, b] X.env = [(false, eval a X.env), (false, eval b X.env)] := by rfl) (hs2 : starEach [b] X.env = [(false, eval b X.env)] := by rfl) : PI X tg (.Call (.Name "range" p) [a, b] [] pos) (tI X.kb F t (apN rng2 g)) :=
  wkI (pi_range2 hg hm ha hs hs2) fun σ H Q ⟨O, ρ, ds, r, e, q⟩ => by
    obtain ⟨l, el, e⟩ := Rs.bnd_eq e
    unfold rng2 at e
    split at e <;> first | (cases e; done) | skip
    split at e <;> first | (cases e; done) | skip
    rename_i hc
    rw [rgMax_eq] at hc
    cases e
    refine ⟨O, ρ, _, r, el, fun vs H' s t => ?_⟩
    obtain ⟨x, y, rfl, r1, r2⟩ := t.inv2
    exact ⟨_, _, by rw [r1.intV, r2.intV], ⟨by omega, by omega, by omega, by omega⟩, q _ H' s (wk_range (by rw [sizeLine_eq]; omega))⟩
end

/-! ### comprehensions -/
def wipeE (ρ : Ev) : List Nat → Ev
  | [] => ρ
  | v :: vs => (wipeE ρ vs).set v none
theorem Rel.wipe {K : KB} {F : FC} {O : Own} {ρ : Ev} {σ : St} {H : Hp} (r : Rel K F O ρ σ H) : ∀ vs : List Nat, Rel K F O (wipeE ρ vs) (L2.wipe σ vs) H
  | [] => r
  | v :: vs => by unfold wipeE L2.wipe; exact (r.wipe vs).setNone
theorem wipe_get (σ : St) (j : Nat) : ∀ vs : List Nat, (L2.wipe σ vs)[j]? = if j ∈ vs then (if j < σ.length then some none else none) else σ[j]?
  | [] => by simp [L2.wipe]
  | v :: vs => by
    unfold L2.wipe
    by_cases e : v = j
    · subst e
      by_cases hl : v < σ.length
      · rw [List.getElem?_set_self (by rw [wipe_length]; exact hl)]; simp [hl]
      · rw [List.getElem?_eq_none (by rw [List.length_set, wipe_length]; omega)]; simp [hl]
    · rw [List.getElem?_set_ne e, wipe_get σ j vs]
      have : (j ∈ v :: vs) ↔ j ∈ vs := by simp [Ne.symm e]
      simp only [this]
theorem wipe_eq {σ σ' : St} {vs : List Nat} (h : ∀ j, j ∉ vs → σ'[j]? = σ[j]?) (hl : σ'.length = σ.length) : L2.wipe σ' vs = L2.wipe σ vs := by
  refine List.ext_getElem? fun j => ?_
  rw [wipe_get, wipe_get, hl]
  split
  · rfl
  · exact h j (by assumption)
theorem wipe_wipe (σ : St) (vs : List Nat) : L2.wipe (L2.wipe σ vs) vs = L2.wipe σ vs := wipe_eq (fun j hj => by rw [wipe_get, if_neg hj]) (wipe_length _ _)
def compL (t : Tg) (cond : Ev → Rs Bool) (elt : Ev → Rs PyData) (ρ : Ev) : List PyData → Rs (List PyData)
  | [] => .ok []
  | d :: r => (tgt t d ρ).bnd fun ρ1 => (cond ρ1).bnd fun b => if b = true then (elt ρ1).bnd fun y => (compL t cond elt ρ r).bnd fun ys => .ok (y :: ys) else compL t cond elt ρ r
def comp (it : Ev → Rs (List PyData)) (t : Tg) (own : List Nat) (cond : Ev → Rs Bool) (elt : Ev → Rs PyData) : Ev → Rs (List PyData) := fun ρ => (it ρ).bnd fun ds => compL t cond elt (wipeE ρ own) ds
theorem compL_len {t : Tg} {cond : Ev → Rs Bool} {elt : Ev → Rs PyData} {ρ : Ev} : ∀ {ds ys : List PyData}, compL t cond elt ρ ds = .ok ys → ys.length ≤ ds.length
  | [], _, e => by cases e; exact Nat.le_refl _
  | d :: ds, ys, e => by
    unfold compL at e
    obtain ⟨ρ1, e1, e⟩ := Rs.bnd_eq e
    obtain ⟨b, e2, e⟩ := Rs.bnd_eq e
    split at e
    · obtain ⟨y, e3, e⟩ := Rs.bnd_eq e
      obtain ⟨zs, e4, e⟩ := Rs.bnd_eq e
      cases e
      have := compL_len e4
      simp only [List.length_cons]; omega
    · have := compL_len e
      simp only [List.length_cons]; omega
def noIf : Ev → Rs Bool := fun _ => .ok true
def gE (K : KB) (t : Tg) : TG := fun v σ H Q => ∃ F, gP K F t v σ H Q
def tTE (K : KB) (g : Ev → Rs Bool) : TT := fun σ H Q => ∃ F, tT K F g σ H Q
def tPE (K : KB) (f : Ev → Rs PyData) : TE := fun σ H Q => ∃ F, tP K F f σ H Q
theorem all_g {X : Cx} {e : Expr} {t : Tg} (h : ∀ F, PG X e (gP X.kb F t)) : PG X e (gE X.kb t) := ⟨fun pins s σ H v u Q I r ⟨F, q⟩ => (h F).run pins s σ H v u Q I r q⟩
theorem all_p {X : Cx} {e : Expr} {f : Ev → Rs PyData} (h : ∀ F, EP' X F e f) : PE X e (tPE X.kb f) := ⟨fun pins s σ H Q I ⟨F, q⟩ => (h F).run pins s σ H Q I q⟩
theorem pts_no {X : Cx} : PTs X [] (tTE X.kb noIf) := ⟨fun pins s σ H Q I ⟨F, O, ρ, b, r, e, q⟩ => by cases e; exact pts_nil.run pins s σ H Q I (q H (Same.refl H))⟩
theorem pts_if {X : Cx} {c : Expr} {g : Ev → Rs Bool} (h : ∀ F, TP' X F c g) : PTs X [c] (tTE X.kb g) := ⟨fun pins s σ H Q I ⟨F, q⟩ => (pts_one (h F)).run pins s σ H Q I q⟩

/-- the context of the elements: what is hidden, and what the block's own names held, and the new list -/
noncomputable def fcAt (F : FC) (O : Own) (vs : List Nat) (H : Hp) (D : Addr) : FC where
  hid := fun a => F.hid a ∨ a = D ∨ ∃ i, (i ∈ vs ∧ i < 1000) ∧ O i = some a
  H0 := fun a => if a = D then H D else match F.H0 a with | some x => some x | none => (open Classical in if ∃ i, (i ∈ vs ∧ i < 1000) ∧ O i = some a then H a else none)
  ht := F.ht
def outO (O : Own) (vs : List Nat) : Own := fun i => if i ∈ vs ∧ i < 1000 then none else O i
theorem nn_at {F : FC} {O : Own} {vs : List Nat} {H : Hp} {D : Addr} (a : Addr) : NN (fcAt F O vs H D) (outO O vs) a ↔ nP (NN F O) D a := by
  constructor
  · rintro ((h | h | ⟨i, h1, h2⟩) | ⟨i, h⟩)
    · exact .inl (.inl h)
    · exact .inr h
    · exact .inl (.inr ⟨i, h2⟩)
    · unfold outO at h
      split at h
      · exact nomatch h
      · exact .inl (.inr ⟨i, h⟩)
  · rintro ((h | ⟨i, h⟩) | h)
    · exact .inl (.inl h)
    · by_cases hi : i ∈ vs ∧ i < 1000
      · exact .inl (.inr (.inr ⟨i, hi, h⟩))
      · exact .inr ⟨i, by unfold outO; rw [if_neg hi]; exact h⟩
    · exact .inl (.inr (.inl h))
theorem same_nn {F F' : FC} {O O' : Own} {H : Hp} (h : ∀ a, NN F O a ↔ NN F' O' a) : hide (NN F O) H = hide (NN F' O') H := by
  have e : NN F O = NN F' O' := funext fun a => propext (h a)
  rw [e]
theorem rel_at {K : KB} {F : FC} {O : Own} {ρ : Ev} {σ : St} {H1 H : Hp} {D : Addr} {vs : List Nat} {acc : List V} (r : Rel K F O ρ σ H1) (hD : H1 D = none) (s : Same H1 H) (hl : H D = some (.lst acc)) : Rel K (fcAt F O vs H D) (outO O vs) (wipeE ρ vs) (L2.wipe σ vs) H := by
  have r' := (r.mono s).wipe vs
  have oD : ∀ i a, O i = some a → a ≠ D := fun i a h z => r.live i a h (by rw [z]; exact hD)
  have hs : ∀ {i a}, outO O vs i = some a → ¬ (i ∈ vs ∧ i < 1000) ∧ O i = some a := fun {i a} h => by
    unfold outO at h
    split at h
    · exact nomatch h
    · exact ⟨by assumption, h⟩
  refine ⟨r'.len, fun i j a h1 h2 => r.inj i j a (hs h1).2 (hs h2).2, fun i a h => r'.live i a (hs h).2, fun a h => ?_, fun a x h => ?_, fun i c q => ?_, ?_⟩
  · show (if a = D then H D else match F.H0 a with | some x => some x | none => _) ≠ none
    by_cases e : a = D
    · rw [if_pos e, hl]; simp
    · rw [if_neg e]
      cases q : F.H0 a with
      | some x => simp
      | none =>
        simp only
        rcases h with h | h | h
        · exact absurd q (r.hidl a h)
        · exact absurd h e
        · rw [if_pos h]
          obtain ⟨i, _, h⟩ := h
          exact r'.live i a h
  · have h' : (if a = D then H D else match F.H0 a with | some x => some x | none => (open Classical in if ∃ i, (i ∈ vs ∧ i < 1000) ∧ O i = some a then H a else none)) = some x := h
    by_cases e : a = D
    · rw [if_pos e] at h'
      exact ⟨by rw [e]; exact h', fun i z => oD i a (hs z).2 e⟩
    · rw [if_neg e] at h'
      cases q : F.H0 a with
      | some y =>
        rw [q] at h'
        simp only at h'
        cases h'
        exact ⟨(r'.base a _ q).1, fun i z => (r'.base a _ q).2 i (hs z).2⟩
      | none =>
        rw [q] at h'
        simp only at h'
        split at h'
        · rename_i hx
          obtain ⟨i, h1, h2⟩ := hx
          exact ⟨h', fun j z => (hs z).1 (by rw [r.inj _ _ _ (hs z).2 h2]; exact h1)⟩
        · exact nomatch h'
  · -- the slots hold what they held: nothing in them is D
    have base : SlotOk K F.ht (NN F O) O H1 i (L2.wipe σ vs) c := (r.wipe vs).slots i c q
    have mv : Same (hide (NN F O) H1) (hide (NN (fcAt F O vs H D) (outO O vs)) H) := fun a o e => by
      obtain ⟨e1, e2⟩ := hide_some e
      exact hide_of (fun z => ((nn_at a).mp z).elim e1 fun z => by rw [z, hD] at e2; exact nomatch e2) (s _ _ e2)
    have hi : i ∉ vs := fun z => by
      have len : ∀ (l : List Nat), i ∈ l → (wipeE ρ l)[i]? ≠ some (some c) := by
        intro l
        induction l with
        | nil => intro h; exact nomatch h
        | cons v l ih =>
          intro h e
          unfold wipeE at e
          rcases set_get e with ⟨_, e, _⟩ | ⟨hj, e⟩
          · exact nomatch e
          · exact ih ((List.mem_cons.mp h).resolve_left hj) e
      exact len vs z q
    exact base.move mv (fun j q => by unfold outO; rw [if_neg (fun z => (own_big q).elim (fun e => hi (e ▸ z.1)) fun e => absurd z.2 (by omega))]) rfl fun _ a x _ _ q => s a x q

  · have ob := r'.obs
    refine ⟨ob.sz, fun i a c e => (nomatch (show (none : Option Addr) = some a from e)), fun i j k c e1 e2 => ?_⟩
    obtain ⟨a, h1, h2⟩ := ob.als i j k c e1 e2
    exact ⟨a, by unfold outO; rw [if_neg (fun z => absurd z.2 (by have := ox_big j k; omega))]; exact h1, h2⟩
section
variable {X : Cx} {F : FC}
theorem lc_read {it : Ev → Rs (List PyData)} {t : Tg} {vs : List Nat} {cond : Ev → Rs Bool} {elt : Ev → Rs PyData} (hsl : ∀ i ∈ t.slots, i ∈ vs) (σ : St) (H : Hp) (Q : VK) (h : tN X.kb F (comp it t vs cond elt) σ H Q) :
    tLc (tJ X.kb F t it) (gE X.kb t) (tTE X.kb cond) (tPE X.kb elt) vs σ H Q := by
  obtain ⟨O, ρ, ys, r, e, q⟩ := h
  obtain ⟨ds, ed, e⟩ := Rs.bnd_eq e
  refine ⟨O, ρ, ds, r, ed, fun J H1 s1 w D hD => ?_⟩
  have r1 := r.mono s1
  -- the state of a turn
  let P : Nat → Hp → Prop := fun i H => ∃ acc yd yr, H D = some (.lst acc) ∧ Same H1 H ∧ RA X.K (hide (nP (NN F O) D) H) yd acc ∧ compL t cond elt (wipeE ρ vs) (ds.drop i) = .ok yr ∧ ys = yd ++ yr ∧ acc.length ≤ i ∧ i ≤ ds.length
  have s0 : Same H1 (upd H1 D (.lst [])) := same_upd hD
  refine ⟨fun i m H => m = ds.length - i ∧ P i H, ⟨_, rfl, [], [], ys, upd_same, s0, .nil, by rw [List.drop_zero]; exact e, rfl, Nat.le_refl _, Nat.zero_le _⟩, ?_⟩
  rintro i m H2 ⟨rfl, acc, yd, yr, hl, sm, ra, ec, ey, ha, hi⟩
  by_cases hlt : i < ds.length
  · refine .inr ⟨w.go H2 i sm hlt, P (i + 1), fun H' p => ⟨ds.length - (i + 1), by omega, rfl, p⟩, fun x H3 y => ?_⟩
    obtain ⟨s3, d, edd, rd⟩ := w.yld H2 i x H3 sm hlt y
    have hl3 := s3 _ _ hl
    have rel3 := rel_at (vs := vs) (H := H3) r1 hD (sm.trans s3) hl3
    have edrop : ds.drop i = d :: ds.drop (i + 1) := by
      rw [List.drop_eq_getElem_cons hlt]
      rw [List.getElem?_eq_getElem hlt] at edd
      rw [Option.some.inj edd]
    rw [edrop] at ec
    unfold compL at ec
    obtain ⟨ρ1, e1, ec⟩ := Rs.bnd_eq ec
    obtain ⟨b, e2, ec⟩ := Rs.bnd_eq ec
    have live2 : ∀ a, NN (fcAt F O vs H3 D) (outO O vs) a → H2 a ≠ none := fun a z => by
      rcases (nn_at a).mp z with z | z
      · exact same_ne sm (r1.nlive z)
      · rw [z, hl]; simp
    have seen : Same (hide (NN F O) H1) (hide (NN (fcAt F O vs H3 D) (outO O vs)) H2) := fun a o e => by
      obtain ⟨e1, e2⟩ := hide_some e
      exact hide_of (fun z => ((nn_at a).mp z).elim e1 fun z => by rw [z, hD] at e2; exact nomatch e2) (sm _ _ e2)
    refine ⟨fcAt F O vs H3 D, outO O vs, wipeE ρ vs, d, ρ1, rel3, rd _ live2 seen, e1, fun O' σ' g => ?_⟩
    have eO : O' = outO O vs := g.own fun j hj => fun hb => by unfold outO; rw [if_pos ⟨hsl j hj, hb⟩]
    subst eO
    refine ⟨?_, fcAt F O vs H3 D, outO O vs, ρ1, b, g.rel, e2, fun H4 s4 => ?_⟩
    · rw [wipe_eq (σ := L2.wipe σ vs) (fun j hj => g.out j fun z => hj (hsl j z)) g.len, wipe_wipe]
    · have rel4 := g.rel.mono s4
      cases b with
      | true =>
        simp only [if_true] at ec ⊢
        obtain ⟨y', e3, ec⟩ := Rs.bnd_eq ec
        obtain ⟨zs, e4, ec⟩ := Rs.bnd_eq ec
        cases ec
        refine ⟨fcAt F O vs H3 D, outO O vs, ρ1, y', rel4, e3, fun v H5 s5 r5 => ⟨acc, s5 _ _ (s4 _ _ hl3), Nat.lt_of_le_of_lt ha (Nat.lt_of_lt_of_le hlt w.sz), ?_⟩⟩
        have s25 : Same H2 H5 := (s3.trans s4).trans s5
        have hl5 := s25 _ _ hl
        have r5' : R X.K (hide (nP (NN F O) D) H5) y' v := by
          have e : hide (NN (fcAt F O vs H3 D) (outO O vs)) H5 = hide (nP (NN F O) D) H5 := by
            have e' : NN (fcAt F O vs H3 D) (outO O vs) = nP (NN F O) D := funext fun a => propext (nn_at a)
            rw [e']
          rw [← e]; exact r5
        have keep : Same (hide (nP (NN F O) D) H5) (hide (nP (NN F O) D) (upd H5 D (.lst (acc ++ [v])))) := fun a o e => by
          obtain ⟨n1, n2⟩ := hide_some e
          exact hide_of n1 (by rw [upd_ne (fun z => n1 (.inr z))]; exact n2)
        refine ⟨acc ++ [v], yd ++ [y'], zs, upd_same, fun a o e => ?_, ?_, e4, by rw [ey, List.append_assoc]; rfl, by rw [List.length_append, List.length_singleton]; omega, hlt⟩
        · rw [upd_ne (fun z => by rw [z, hD] at e; exact nomatch e)]
          exact s25 _ _ (sm _ _ e)
        · exact ((ra.mono (hide_same s25)).append (.cons r5' .nil)).mono keep
      | false =>
        simp only [Bool.false_eq_true, if_false] at ec ⊢
        have s24 : Same H2 H4 := s3.trans s4
        exact ⟨acc, yd, yr, s24 _ _ hl, sm.trans s24, ra.mono (hide_same s24), ec, ey, Nat.le_succ_of_le ha, hlt⟩
  · have ei : i = ds.length := by omega
    subst ei
    refine .inl ⟨w.stop H2 sm, ?_⟩
    rw [List.drop_length] at ec
    cases ec
    rw [List.append_nil] at ey
    subst ey
    have lenY : ys.length ≤ sizeLine := by rw [← ra.len]; exact Nat.le_trans ha w.sz
    exact q D acc H2 (s1.trans sm) (s1.free hD) hl lenY ra
theorem n_comp {el tg iter : Expr} {ifs : List Expr} {scope : Scope} {own : List (Str × Nat)} {pos : Pos} {it : Ev → Rs (List PyData)} {t : Tg} {cond : Ev → Rs Bool} {elt : Ev → Rs PyData} (hc : X.calm = true) (hN : X.N.Nodup) (hi : PI X tg iter (tJ X.kb F t it)) (ok : BlkOk X.N X.env.scope scope own) (hsl : ∀ i ∈ t.slots, i ∈ own.map (·.2))
    (hg : ∀ (F : FC) (s : Shared) (H : Hp) (C : Addr) (cl : List (Str × Addr)) (fp : List Addr), PG (X.blk s H scope (compEnvC scope cl C X.env) fp) tg (gP X.kb F t))
    (ht : ∀ (s : Shared) (H : Hp) (C : Addr) (cl : List (Str × Addr)) (fp : List Addr), PTs (X.blk s H scope (compEnvC scope cl C X.env) fp) ifs (tTE X.kb cond))
    (he : ∀ (F : FC) (s : Shared) (H : Hp) (C : Addr) (cl : List (Str × Addr)) (fp : List Addr), PE (X.blk s H scope (compEnvC scope cl C X.env) fp) el (tP X.kb F elt)) (hs : ∀ x, foldedSetIterable iter X.env x = pure x := by intro _; rfl) :
    NP' X F (.ListComp el [⟨tg, iter, ifs, 0⟩] scope pos) (comp it t (own.map (·.2)) cond elt) :=
  wkE (pe_lc hc hN hi ok (fun s H C cl fp => all_g fun F => hg F s H C cl fp) ht (fun s H C cl fp => all_p fun F => he F s H C cl fp) hs) fun σ H Q h => lc_read hsl σ H Q h
end
end PL


/-! PL6: statements -/
namespace PL
open PySem PySem.Spec PyProof.Rows L2

inductive Out where
  | nx (ρ : Ev) | rt (d : PyData) | bk (ρ : Ev) | ct (ρ : Ev) | xc (ρ : Ev) (c : Nat) (fs : List PyData) | rn (ds : List PyData) | ro (ρ : Ev) (d : PyData)
/-- an exception of the class c with these fields -/
def ExOk (xm : Nat → Option (Addr × Option Str)) (nw : Addr → Prop) (H : Hp) (c : Nat) (fs : List PyData) (cls : Value) (d : Option Addr) : Prop :=
  ∃ C fn, xm c = some (C, fn) ∧ cls = .ref C ∧ match fn, fs with
    | none, [] => d = none
    | some f, [.int i] => ∃ dd, d = some dd ∧ nw dd ∧ H dd = some (.xd [(f, .int i)])
    | _, _ => False
/-- what is new, seen from a def's body -/
def Nw (F : FC) (O : Own) : Addr → Prop := fun a => ¬ NN F O a ∧ F.H0 a = none
theorem ExOk.imp {xm : Nat → Option (Addr × Option Str)} {nw nw' : Addr → Prop} {H : Hp} {c : Nat} {fs : List PyData} {cls : Value} {d : Option Addr} (h : ExOk xm nw H c fs cls d) (w : ∀ a, nw a → nw' a) : ExOk xm nw' H c fs cls d := by
  obtain ⟨C, fn, h1, h2, h3⟩ := h
  refine ⟨C, fn, h1, h2, ?_⟩
  split at h3
  · exact h3
  · obtain ⟨dd, e1, e2, e3⟩ := h3
    exact ⟨dd, e1, w _ e2, e3⟩
  · exact h3.elim
def Post (K : KB) (F : FC) (D : Ends) (O : Own) (H : Hp) : Out → Prop
  | .nx ρ' => ∀ O' σ' H', Rel K F O' ρ' σ' H' → Same (hide (NN F O) H) (hide (NN F O') H') → D.nx σ' H'
  | .bk ρ' => ∀ O' σ' H', Rel K F O' ρ' σ' H' → Same (hide (NN F O) H) (hide (NN F O') H') → D.bk σ' H'
  | .ct ρ' => ∀ O' σ' H', Rel K F O' ρ' σ' H' → Same (hide (NN F O) H) (hide (NN F O') H') → D.ct σ' H'
  | .rt d => ∀ v H', Same F.H0 H' → R K.K (hide F.hid H') d v → D.rt v H'
  | .xc ρ' c fs => (F.xm c).isSome = true ∧ ∀ O' σ' H' cls d, Rel K F O' ρ' σ' H' → Same (hide (NN F O) H) (hide (NN F O') H') → ExOk F.xm (Nw F O') H' c fs cls d → F.W cls d σ' H'
  | .rn ds => ∀ p xs H', Same F.H0 H' → F.H0 p = none → ¬ F.hid p → H' p = some (.lst xs) → ds.length ≤ sizeLine → RA K.K (hide (nP F.hid p) H') ds xs → D.rt (.ref p) H'
  | .ro ρ' d => ∀ O' σ' H' v, Rel K F O' ρ' σ' H' → R K.K (hide (NN F O') H') d v → D.rt v H'
def tS (K : KB) (F : FC) (f : Ev → Rs Out) : TS := fun D σ H => ∃ O ρ o, Rel K F O ρ σ H ∧ f ρ = .ok o ∧ Post K F D O H o
abbrev SP' (X : Cx) (F : FC) (st : Stmt) (f : Ev → Rs Out) : Prop := PS X st (tS X.kb F f)
abbrev SSP' (X : Cx) (F : FC) (st : List Stmt) (f : Ev → Rs Out) : Prop := PSs X st (tS X.kb F f)
theorem Post.from {K : KB} {F : FC} {D : Ends} {O O1 : Own} {H H1 : Hp} {o : Out} (p : Post K F D O H o) (s : Same (hide (NN F O) H) (hide (NN F O1) H1)) : Post K F D O1 H1 o := by
  cases o with
  | nx ρ => exact fun O' σ' H' r q => p O' σ' H' r (s.trans q)
  | bk ρ => exact fun O' σ' H' r q => p O' σ' H' r (s.trans q)
  | ct ρ => exact fun O' σ' H' r q => p O' σ' H' r (s.trans q)
  | rt d => exact p
  | xc ρ c fs => exact ⟨p.1, fun O' σ' H' cls d r q => p.2 O' σ' H' cls d r (s.trans q)⟩
  | rn ds => exact p
  | ro ρ d => exact p
theorem Rel.h0 {K : KB} {F : FC} {O : Own} {ρ : Ev} {σ : St} {H : Hp} (r : Rel K F O ρ σ H) : Same F.H0 H := fun a x e => (r.base a x e).1
theorem hid_le {F : FC} {O : Own} {H : Hp} : Same (hide (NN F O) H) (hide F.hid H) := hide_anti fun _ h => .inl h

/-- what an expression gives, or the exception that it lets out -/
def lft {α : Type} (r : Rs α) (ρ : Ev) (k : α → Rs Out) : Rs Out := match r with
  | .ok a => k a
  | .ex c fs => .ok (.xc ρ c fs)
  | .no => .no
@[simp] theorem lft_ok {α : Type} (a : α) (ρ : Ev) (k : α → Rs Out) : lft (.ok a) ρ k = k a := (Eq.refl _).trans (Eq.refl _)
@[simp] theorem lft_ex {α : Type} (c : Nat) (fs : List PyData) (ρ : Ev) (k : α → Rs Out) : lft (.ex c fs : Rs α) ρ k = .ok (.xc ρ c fs) := (Eq.refl _).trans (Eq.refl _)
/-- where no exception may leave -/
def Calm (F : FC) : Prop := F.xm = fun _ => none
def sNil : Ev → Rs Out := fun ρ => .ok (.nx ρ)
def sq (f g : Ev → Rs Out) : Ev → Rs Out := fun ρ => (f ρ).bnd fun o => match o with | .nx ρ' => g ρ' | o => .ok o
def sIf (g : Ev → Rs Bool) (a b : Ev → Rs Out) : Ev → Rs Out := fun ρ => (g ρ).bnd fun c => if c = true then a ρ else b ρ
def sRet (f : Ev → Rs PyData) : Ev → Rs Out := fun ρ => (f ρ).bnd fun d => .ok (.rt d)
def sAsg (t : Tg) (f : Ev → Rs PyData) : Ev → Rs Out := fun ρ => (f ρ).bnd fun d => (tgt t d ρ).bnd fun ρ' => .ok (.nx ρ')
def sSet (i : Nat) (f : Ev → Rs PyData) : Ev → Rs Out := fun ρ => (f ρ).bnd fun d => .ok (.nx (ρ.set i (some (.pub d))))
def sOwn (i : Nat) (f : Ev → Rs (List PyData)) : Ev → Rs Out := fun ρ => (f ρ).bnd fun ds => .ok (.nx (ρ.set i (some (.own ds))))
def pubE (i : Nat) (ρ : Ev) : Ev := match getC ρ i with | some (.own ds) => ρ.set i (some (.pub (.list ds))) | _ => ρ
def sApp (i : Nat) (f : Ev → Rs PyData) : Ev → Rs Out := fun ρ => match getC ρ i with
  | some (.own ds) => (f ρ).bnd fun d => if ds.length < sizeLine then .ok (.nx (ρ.set i (some (.own (ds ++ [d]))))) else .no
  | _ => .no
def sSetIx (i : Nat) (fi fe : Ev → Rs PyData) : Ev → Rs Out := fun ρ => match getC ρ i with
  | some (.own ds) => (fe ρ).bnd fun d => (fi ρ).bnd fun k => (asI k).bnd fun k => match ixN ds.length k with | some j => .ok (.nx (ρ.set i (some (.own (ds.set j d))))) | none => .no
  | _ => .no
/-- a place of a list for pop: the place, what stands there -/
def popAt (ds : List PyData) (k : Int) : Rs (PyData × List PyData) := if -(2 ^ 63) ≤ k ∧ k < 2 ^ 63 then match seqIndex? k ds.length with | some m => (match ds[m]? with | some d => .ok (d, ds.eraseIdx m) | none => .no) | none => .no else .no
def sPopAt (j i : Nat) (f : Ev → Rs PyData) : Ev → Rs Out := fun ρ => match getC ρ i with
  | some (.own ds) => (f ρ).bnd fun k => (asI k).bnd fun k => (popAt ds k).bnd fun p => .ok (.nx ((ρ.set i (some (.own p.2))).set j (some (.pub p.1))))
  | _ => .no
def sAppPopAt (j i : Nat) (f : Ev → Rs PyData) : Ev → Rs Out := fun ρ => match getC ρ j with
  | some (.own es) => (match getC ρ i with
    | some (.own ds) => (f ρ).bnd fun k => (asI k).bnd fun k => (popAt ds k).bnd fun p => if es.length < sizeLine ∧ i ≠ j then .ok (.nx ((ρ.set i (some (.own p.2))).set j (some (.own (es ++ [p.1]))))) else .no
    | _ => .no)
  | _ => .no
def sAug (i : Nat) (op : Int → Int → Int) (f : Ev → Rs PyData) : Ev → Rs Out := fun ρ => match getC ρ i with
  | some (.pub (.int a)) => (f ρ).bnd fun d => (asI d).bnd fun b => .ok (.nx (ρ.set i (some (.pub (.int (op a b))))))
  | _ => .no
def forL (t : Tg) (f : Ev → Rs Out) : List PyData → Ev → Rs Out
  | [], ρ => .ok (.nx ρ)
  | d :: r, ρ => (tgt t d ρ).bnd fun ρ1 => (f ρ1).bnd fun o => match o with
    | .nx ρ2 => forL t f r ρ2
    | .ct ρ2 => forL t f r ρ2
    | .bk ρ2 => .ok (.nx ρ2)
    | .rt d => .ok (.rt d)
    | .xc ρ c fs => .ok (.xc ρ c fs)
    | .rn ds => .ok (.rn ds)
    | .ro ρ d => .ok (.ro ρ d)
def sFor (it : Ev → Rs (List PyData)) (t : Tg) (f : Ev → Rs Out) : Ev → Rs Out := fun ρ => (it ρ).bnd fun ds => forL t f ds ρ
def whL (g : Ev → Rs Bool) (f : Ev → Rs Out) : Nat → Ev → Rs Out
  | 0, _ => .no
  | n + 1, ρ => (g ρ).bnd fun b => if b = true then (f ρ).bnd fun o => match o with
    | .nx ρ2 => whL g f n ρ2
    | .ct ρ2 => whL g f n ρ2
    | .bk ρ2 => .ok (.nx ρ2)
    | .rt d => .ok (.rt d)
    | .xc ρ c fs => .ok (.xc ρ c fs)
    | .rn ds => .ok (.rn ds)
    | .ro ρ d => .ok (.ro ρ d)
    else .ok (.nx ρ)

section
variable {X : Cx} {F : FC}
theorem s_nil : SSP' X F [] sNil := wkSs pss_nil fun D σ H ⟨O, ρ, o, r, e, p⟩ => by
  cases e
  exact p O σ H r (Same.refl _)
theorem s_cons {st : Stmt} {rest : List Stmt} {f g : Ev → Rs Out} (h1 : SP' X F st f) (h2 : SSP' X F rest g) : SSP' X F (st :: rest) (sq f g) := wkSs (pss_cons h1 h2) fun D σ H ⟨O, ρ, o, r, e, p⟩ => by
  obtain ⟨o1, e1, e⟩ := Rs.bnd_eq e
  refine ⟨O, ρ, o1, r, e1, ?_⟩
  cases o1 with
  | nx ρ1 => exact fun O' σ' H' r' s' => ⟨O', ρ1, o, r', e, p.from s'⟩
  | bk ρ1 => cases e; exact p
  | ct ρ1 => cases e; exact p
  | rt d => cases e; exact p
  | xc ρ c fs => cases e; exact p
  | rn ds => cases e; exact p
  | ro ρ d => cases e; exact p
theorem s_one {st : Stmt} {f : Ev → Rs Out} (h1 : SP' X F st f) : SSP' X F [st] f := wkSs (pss_one h1) fun _ _ _ h => h
theorem s_pub {st : Stmt} {f : Ev → Rs Out} (i : Nat) (h : SP' X F st f) : SP' X F st (fun ρ => f (pubE i ρ)) := wkS h fun D σ H ⟨O, ρ, o, r, e, p⟩ => by
  have e' : f (pubE i ρ) = .ok o := e
  unfold pubE at e'
  split at e'
  · rename_i ds hc
    exact ⟨minusO O i, _, o, r.pubOwn (getC_iff.mp hc), e', p.from (hide_anti minusO_le)⟩
  · exact ⟨O, ρ, o, r, e', p⟩
theorem s_if {c : Expr} {a b : List Stmt} {g : Ev → Rs Bool} {f1 f2 : Ev → Rs Out} {pos : Pos} (hc : TP' X F c g) (ha : SSP' X F a f1) (hb : SSP' X F b f2) : SP' X F (.If c a b pos) (sIf g f1 f2) := wkS (ps_if hc ha hb) fun D σ H ⟨O, ρ, o, r, e, p⟩ => by
  obtain ⟨b, eb, e⟩ := Rs.bnd_eq e
  refine ⟨O, ρ, b, r, eb, fun H' s => ?_⟩
  cases b with
  | true => exact ⟨O, ρ, o, r.mono s, e, p.from (hide_same s)⟩
  | false => exact ⟨O, ρ, o, r.mono s, e, p.from (hide_same s)⟩
theorem s_ret {e : Expr} {f : Ev → Rs PyData} {pos : Pos} (h : EP' X F e f) : SP' X F (.Return (some e) pos) (sRet f) := wkS (ps_ret h) fun D σ H ⟨O, ρ, o, r, e, p⟩ => by
  obtain ⟨d, ed, e⟩ := Rs.bnd_eq e
  cases e
  exact ⟨O, ρ, d, r, ed, fun v H' s r' => p v H' (r.mono s).h0 (r'.mono hid_le)⟩
/-- return of a new list -/
def sRetL (f : Ev → Rs (List PyData)) : Ev → Rs Out := fun ρ => (f ρ).bnd fun ds => .ok (.rn ds)
theorem s_retL {e : Expr} {f : Ev → Rs (List PyData)} {pos : Pos} (h : NP' X F e f) : SP' X F (.Return (some e) pos) (sRetL f) := wkS (ps_ret h) fun D σ H ⟨O, ρ, o, r, e, p⟩ => by
  obtain ⟨ds, ed, e⟩ := Rs.bnd_eq e
  cases e
  refine ⟨O, ρ, ds, r, ed, fun q xs H' s hp hl hz ra => ?_⟩
  have h0 : F.H0 q = none := by
    cases w : F.H0 q with
    | none => rfl
    | some x => rw [(r.base q x w).1] at hp; exact nomatch hp
  exact p q xs H' ((r.mono s).h0) h0 (fun z => r.nlive (.inl z) hp) hl hz (ra.mono (hide_anti fun a z => z.imp (fun z => .inl z) id))
/-- return of a slot's own list -/
def sRetO (i : Nat) : Ev → Rs Out := fun ρ => match getC ρ i with | some (.own ds) => .ok (.rn ds) | _ => .no
theorem s_retO {e : Expr} {i : Nat} {pos : Pos} (h : PE X e (tVar i)) : SP' X F (.Return (some e) pos) (sRetO i) := wkS (ps_ret h) fun D σ H ⟨O, ρ, o, r, e, p⟩ => by
  unfold sRetO at e
  split at e <;> first | (cases e; done) | skip
  rename_i hc
  cases e
  obtain ⟨hz, a, xs, h1, h2, h3, h4⟩ := r.slots i _ (getC_iff.mp hc)
  have h0 : F.H0 a = none := by
    cases w : F.H0 a with
    | none => rfl
    | some x => exact absurd h1 ((r.base a x w).2 i)
  refine ⟨_, h2, p a xs H r.h0 h0 (fun z => r.hidl a z h0) h3 hz (h4.mono (hide_anti fun b z => ?_))⟩
  rcases z with z | z
  · exact .inl z
  · exact .inr ⟨i, by rw [z]; exact h1⟩
theorem s_retN {pos : Pos} : SP' X F (.Return none pos) (sRet (cn .none)) := wkS ps_retN fun D σ H ⟨O, ρ, o, r, e, p⟩ => by
  cases e
  exact p _ H r.h0 .none
theorem s_pass {pos : Pos} : SP' X F (.Pass pos) sNil := wkS ps_pass fun D σ H ⟨O, ρ, o, r, e, p⟩ => by
  cases e
  exact p O σ H r (Same.refl _)
theorem s_break {pos : Pos} : SP' X F (.Break pos) (fun ρ => .ok (.bk ρ)) := wkS ps_break fun D σ H ⟨O, ρ, o, r, e, p⟩ => by
  cases e
  exact p O σ H r (Same.refl _)
theorem s_cont {pos : Pos} : SP' X F (.Continue pos) (fun ρ => .ok (.ct ρ)) := wkS ps_continue fun D σ H ⟨O, ρ, o, r, e, p⟩ => by
  cases e
  exact p O σ H r (Same.refl _)
theorem s_never {st : Stmt} : SP' X F st (fun _ => .no) := wkS ps_never fun D σ H ⟨O, ρ, o, r, e, p⟩ => nomatch e
theorem s_doc {x j pos pos'} : SP' X F (.Expr (.Constant (.str x) j pos) pos') sNil := wkS ps_doc fun D σ H ⟨O, ρ, o, r, e, p⟩ => by
  cases e
  exact p O σ H r (Same.refl _)
/-! assignments -/
theorem s_asg {tg e : Expr} {t : Tg} {f : Ev → Rs PyData} {pos : Pos} (he : EP' X F e f) (hg : PG X tg (gP X.kb F t)) (hs : swapsWithSole [tg] e pos.line X.env = pure false := by rfl) (hw : swappedStores [tg] e X.env = pure none := by rfl)
    (h1 : (assignEach [tg] X.env).map (·.2) = [assign tg X.env] := by rfl) : SP' X F (.Assign [tg] e pos) (sAsg t f) := wkS (ps_asg he hg hs hw h1) fun D σ H ⟨O, ρ, o, r, e, p⟩ => by
  obtain ⟨d, ed, e⟩ := Rs.bnd_eq e
  obtain ⟨ρ', et, e⟩ := Rs.bnd_eq e
  cases e
  exact ⟨O, ρ, d, r, ed, fun v H' s r' => ⟨O, ρ, d, ρ', r.mono s, .of r', et, fun O' σ' g => p O' σ' H' g.rel ((hide_same s).trans g.vis)⟩⟩
/-- from an assignment to a name, as HandS reads it -/
theorem s_set {st : Stmt} {i : Nat} {f : Ev → Rs PyData} (h : PS X st (tAsg (tP X.kb F f) (gName i))) : SP' X F st (sSet i f) := wkS h fun D σ H ⟨O, ρ, o, r, e, p⟩ => by
  obtain ⟨d, ed, e⟩ := Rs.bnd_eq e
  cases e
  refine ⟨O, ρ, d, r, ed, fun v H' s r' => ?_⟩
  have g := got_one (i := i) (r.mono s) r'
  exact p _ _ H' g.rel ((hide_same s).trans g.vis)
theorem s_own {st : Stmt} {i : Nat} {f : Ev → Rs (List PyData)} (h : PS X st (tAsg (tN X.kb F f) (gName i))) : SP' X F st (sOwn i f) := wkS h fun D σ H ⟨O, ρ, o, r, e, p⟩ => by
  obtain ⟨ds, ed, e⟩ := Rs.bnd_eq e
  cases e
  exact ⟨O, ρ, ds, r, ed, fun q xs H' s hp hl hz ra => p _ _ H' (r.setOwn s hp hl hz ra) (own_vis r s hp)⟩
/-- a comprehension given to a name -/
theorem s_comp {st : Stmt} {i : Nat} {it : Ev → Rs (List PyData)} {t : Tg} {vs : List Nat} {cond : Ev → Rs Bool} {elt : Ev → Rs PyData} (hsl : ∀ i ∈ t.slots, i ∈ vs) (h : PS X st (tAsg (tLc (tJ X.kb F t it) (gE X.kb t) (tTE X.kb cond) (tPE X.kb elt) vs) (gName i))) : PS X st (tAsg (tN X.kb F (comp it t vs cond elt)) (gName i)) :=
  wkS h fun D σ H q => lc_read hsl σ H _ q
theorem s_newset {st : Stmt} {i : Nat} {f : Ev → Rs (List PyData)} (h : PS X st (tAsg (tN X.kb F f) (gName i))) : SP' X F st (sSet i (lst f)) := s_set (wkS h fun D σ H ⟨O, ρ, d, r, e, q⟩ => by
  obtain ⟨ds, ed, e⟩ := Rs.bnd_eq e
  cases e
  refine ⟨O, ρ, ds, r, ed, fun p xs H' s hp hl hz ra => q _ H' s (.list hz (.of (hide_of (fun z => ?_) hl)) (ra.mono np_le))⟩
  exact r.nlive z hp)
/-! what a slot's own list takes -/
theorem own_at {K : KB} {O : Own} {ρ : Ev} {σ : St} {H : Hp} {i : Nat} {ds : List PyData} (r : Rel K F O ρ σ H) (h : getC ρ i = some (.own ds)) : ds.length ≤ sizeLine ∧ ∃ a xs, O i = some a ∧ σ[i]? = some (some (.ref a)) ∧ H a = some (.lst xs) ∧ RA K.K (hide (NN F O) H) ds xs := r.slots i _ (getC_iff.mp h)
theorem s_app {st : Stmt} {i : Nat} {f : Ev → Rs PyData} (h : PS X st (tDrop (tBM X.K "list" rAppend (tVar i) (tCons (tP X.kb F f) tNil)))) : SP' X F st (sApp i f) := wkS h fun D σ H ⟨O, ρ, o, r, e, p⟩ => by
  unfold sApp at e
  split at e <;> first | (cases e; done) | skip
  rename_i ds hc
  obtain ⟨d, ed, e⟩ := Rs.bnd_eq e
  split at e <;> first | (cases e; done) | skip
  rename_i hz
  cases e
  obtain ⟨_, a, xs, h1, h2, h3, h4⟩ := own_at r hc
  refine ⟨_, h2, .inl ⟨rfl, xs, .of h3⟩, O, ρ, d, r, ed, fun v H' s r' => ?_⟩
  have h3' := s _ _ h3
  refine ⟨a, xs, v, rfl, rfl, h3', by rw [h4.len]; exact hz, ?_⟩
  obtain ⟨m1, m2⟩ := (r.mono s).mut (i := i) (xs := xs ++ [v]) (es := ds ++ [d]) (getC_iff.mp hc) h1 (by rw [List.length_append, List.length_singleton]; omega) ((h4.mono (hide_same s)).append (.cons r' .nil))
  exact p O _ _ m1 ((hide_same s).trans m2)
theorem s_setIx {st : Stmt} {i : Nat} {fi fe : Ev → Rs PyData} (h : PS X st (tAsg (tP X.kb F fe) (gSub (tVar i) (tP X.kb F fi) rSetL))) : SP' X F st (sSetIx i fi fe) := wkS h fun D σ H ⟨O, ρ, o, r, e, p⟩ => by
  unfold sSetIx at e
  split at e <;> first | (cases e; done) | skip
  rename_i ds hc
  obtain ⟨d, ed, e⟩ := Rs.bnd_eq e
  obtain ⟨k, ek, e⟩ := Rs.bnd_eq e
  obtain ⟨kk, ekk, e⟩ := Rs.bnd_eq e
  split at e <;> first | (cases e; done) | skip
  rename_i j hj
  cases e
  obtain ⟨hz, a, xs, h1, h2, h3, h4⟩ := own_at r hc
  refine ⟨O, ρ, d, r, ed, fun v H1 s1 r1 => ⟨_, h2, O, ρ, k, r.mono s1, ek, fun w H2 s2 r2 => ?_⟩⟩
  have s := s1.trans s2
  have ek' : w = .int kk := by
    cases k with
    | int q => cases ekk; exact r2.intV
    | _ => exact nomatch ekk
  refine ⟨a, xs, kk, j, rfl, ek', s _ _ h3, by rw [h4.len]; exact hj, ?_⟩
  obtain ⟨m1, m2⟩ := (r.mono s).mut (i := i) (xs := xs.set j v) (es := ds.set j d) (getC_iff.mp hc) h1 (by rw [List.length_set]; exact hz) ((h4.mono (hide_same s)).set (r1.mono (hide_same s2)) j)
  exact p O _ _ m1 ((hide_same s).trans m2)
theorem popAt_ok {K : PySem.W.Frag} {H : Hp} {ds : List PyData} {xs : List V} {k : Int} {p : PyData × List PyData} (t : RA K H ds xs) (e : popAt ds k = .ok p) : -(2 ^ 63) ≤ k ∧ k < 2 ^ 63 ∧ ∃ m y, seqIndex? k xs.length = some m ∧ xs[m]? = some y ∧ R K H p.1 y ∧ RA K H p.2 (xs.eraseIdx m) ∧ p.2.length ≤ ds.length := by
  unfold popAt at e
  split at e <;> first | (cases e; done) | skip
  rename_i hk
  split at e <;> first | (cases e; done) | skip
  rename_i m hm
  split at e <;> first | (cases e; done) | skip
  rename_i d hd
  cases e
  obtain ⟨y, h1, h2⟩ := t.get hd
  exact ⟨hk.1, hk.2, m, y, by rw [t.len]; exact hm, h1, h2, t.eraseIdx m, len_erase _ _⟩
theorem s_popAt {st : Stmt} {j i : Nat} {f : Ev → Rs PyData} (h : PS X st (tAsg (tBM X.K "list" rPopAt (tVar i) (tCons (tP X.kb F f) tNil)) (gName j))) : SP' X F st (sPopAt j i f) := wkS h fun D σ H ⟨O, ρ, o, r, e, p⟩ => by
  unfold sPopAt at e
  split at e <;> first | (cases e; done) | skip
  rename_i ds hc
  obtain ⟨k, ek, e⟩ := Rs.bnd_eq e
  obtain ⟨kk, ekk, e⟩ := Rs.bnd_eq e
  obtain ⟨q, eq, e⟩ := Rs.bnd_eq e
  cases e
  obtain ⟨hz, a, xs, h1, h2, h3, h4⟩ := own_at r hc
  refine ⟨_, h2, .inl ⟨rfl, xs, .of h3⟩, O, ρ, k, r, ek, fun w H1 s r1 => ?_⟩
  have ek' : w = .int kk := by
    cases k with
    | int q => cases ekk; exact r1.intV
    | _ => exact nomatch ekk
  obtain ⟨k1, k2, m, y, q1, q2, q3, q4, q5⟩ := popAt_ok (h4.mono (hide_same s)) eq
  refine ⟨a, xs, kk, m, y, rfl, by rw [ek'], s _ _ h3, k1, k2, q1, q2, ?_⟩
  obtain ⟨m1, m2⟩ := (r.mono s).mut (i := i) (xs := xs.eraseIdx m) (es := q.2) (getC_iff.mp hc) h1 (by omega) q4
  have g := got_one (i := j) m1 (q3.mono m2)
  exact p _ _ _ g.rel (((hide_same s).trans m2).trans g.vis)
theorem s_appPopAt {st : Stmt} {j i : Nat} {f : Ev → Rs PyData} (h : PS X st (tDrop (tBM X.K "list" rAppend (tVar j) (tCons (tBM X.K "list" rPopAt (tVar i) (tCons (tP X.kb F f) tNil)) tNil)))) : SP' X F st (sAppPopAt j i f) := wkS h fun D σ H ⟨O, ρ, o, r, e, p⟩ => by
  unfold sAppPopAt at e
  split at e <;> first | (cases e; done) | skip
  rename_i es hj
  split at e <;> first | (cases e; done) | skip
  rename_i ds hc
  obtain ⟨k, ek, e⟩ := Rs.bnd_eq e
  obtain ⟨kk, ekk, e⟩ := Rs.bnd_eq e
  obtain ⟨q, eq, e⟩ := Rs.bnd_eq e
  split at e <;> first | (cases e; done) | skip
  rename_i hes
  cases e
  obtain ⟨hz, a, xs, h1, h2, h3, h4⟩ := own_at r hc
  obtain ⟨hz', b, ys, g1, g2, g3, g4⟩ := own_at r hj
  have hab : b ≠ a := fun z => hes.2 (r.inj _ _ _ h1 (by rw [← z]; exact g1))
  refine ⟨_, g2, .inl ⟨rfl, ys, .of g3⟩, _, h2, .inl ⟨rfl, xs, .of h3⟩, O, ρ, k, r, ek, fun w H1 s r1 => ?_⟩
  have ek' : w = .int kk := by
    cases k with
    | int q => cases ekk; exact r1.intV
    | _ => exact nomatch ekk
  obtain ⟨k1, k2, m, y, q1, q2, q3, q4, q5⟩ := popAt_ok (h4.mono (hide_same s)) eq
  refine ⟨a, xs, kk, m, y, rfl, by rw [ek'], s _ _ h3, k1, k2, q1, q2, ?_⟩
  obtain ⟨m1, m2⟩ := (r.mono s).mut (i := i) (xs := xs.eraseIdx m) (es := q.2) (getC_iff.mp hc) h1 (by omega) q4
  have hj' : (ρ.set i (some (.own q.2)))[j]? = some (some (.own es)) := by rw [List.getElem?_set_ne hes.2]; exact getC_iff.mp hj
  refine ⟨b, ys, y, rfl, rfl, by rw [upd_ne hab]; exact s _ _ g3, by rw [g4.len]; exact hes.1, ?_⟩
  obtain ⟨n1, n2⟩ := m1.mut (i := j) (xs := ys ++ [y]) (es := es ++ [q.1]) hj' g1 (by rw [List.length_append, List.length_singleton]; omega) (((g4.mono (hide_same s)).mono m2).append (.cons (q3.mono m2) .nil))
  exact p O _ _ n1 (((hide_same s).trans m2).trans n2)
theorem s_aug {st : Stmt} {i : Nat} {op : Int → Int → Int} {f : Ev → Rs PyData} (h : PS X st (tAug i (tP X.kb F f) (ipI op))) : SP' X F st (sAug i op f) := wkS h fun D σ H ⟨O, ρ, o, r, e, p⟩ => by
  unfold sAug at e
  split at e <;> first | (cases e; done) | skip
  rename_i a hc
  obtain ⟨d, ed, e⟩ := Rs.bnd_eq e
  obtain ⟨b, eb, e⟩ := Rs.bnd_eq e
  cases e
  obtain ⟨v, h1, h2⟩ := r.slots i _ (getC_iff.mp hc)
  refine ⟨v, h1, O, ρ, d, r, ed, fun w H' s r' => ?_⟩
  have ew : w = .int b := by
    cases d with
    | int q => cases eb; exact r'.intV
    | _ => exact nomatch eb
  refine ⟨a, b, h2.intV, ew, ?_⟩
  have g := got_one (i := i) (d := .int (op a b)) (v := .int (op a b)) (r.mono s) .int
  exact p _ _ H' g.rel ((hide_same s).trans g.vis)

/-! loops -/
theorem s_for {tg iter : Expr} {body : List Stmt} {t : Tg} {it : Ev → Rs (List PyData)} {f : Ev → Rs Out} {pos : Pos} (hp : PassesOwn (model X.prog X.w) X.A X.env X.xe) (hc : X.calm = true) (hi : PI X tg iter (tI X.kb F t it)) (hg : PG X tg (gP X.kb F t)) (hb : SSP' X F body f)
    (hs : ∀ x, foldedSetIterable iter X.env x = pure x := by intro _; rfl) : SP' X F (.For tg iter body [] pos) (sFor it t f) := wkS (ps_for hp hc hi hg hb hs) fun D σ H ⟨O, ρ, o, r, e, p⟩ => by
  obtain ⟨ds, ed, e⟩ := Rs.bnd_eq e
  refine ⟨O, ρ, ds, r, ed, fun J H1 s1 w => ?_⟩
  have p1 := p.from (hide_same s1)
  let P : Nat → St → Hp → Prop := fun i σ H => ∃ O' ρ', Rel X.kb F O' ρ' σ H ∧ Same (hide (NN F O) H1) (hide (NN F O') H) ∧ forL t f (ds.drop i) ρ' = .ok o ∧ i ≤ ds.length
  refine ⟨fun i m σ H => m = ds.length - i ∧ P i σ H, ⟨_, rfl, O, ρ, r.mono s1, Same.refl _, by rw [List.drop_zero]; exact e, Nat.zero_le _⟩, ?_⟩
  rintro i m σ2 H2 ⟨rfl, O', ρ', r2, v2, e2, hi2⟩
  have vis2 : Same (hide (NN F O) H1) H2 := v2.trans hide_le
  by_cases hlt : i < ds.length
  · refine .inr ⟨w.go H2 i vis2 hlt, P (i + 1), fun σ' H' q => ⟨_, by omega, rfl, q⟩, fun x H3 y => ?_⟩
    obtain ⟨s3, d, edd, rd⟩ := w.yld H2 i x H3 vis2 hlt y
    have edrop : ds.drop i = d :: ds.drop (i + 1) := by
      rw [List.drop_eq_getElem_cons hlt]
      rw [List.getElem?_eq_getElem hlt] at edd
      rw [Option.some.inj edd]
    rw [edrop] at e2
    unfold forL at e2
    obtain ⟨ρ1, e3, e2⟩ := Rs.bnd_eq e2
    obtain ⟨o1, e4, e2⟩ := Rs.bnd_eq e2
    refine ⟨O', ρ', d, ρ1, r2.mono s3, rd _ (fun a z => r2.nlive z) v2, e3, fun O4 σ4 g => ⟨O4, ρ1, o1, g.rel, e4, ?_⟩⟩
    have v4 := (v2.trans (hide_same s3)).trans g.vis
    cases o1 with
    | nx ρ5 => exact fun O5 σ5 H5 r5 v5 => ⟨O5, ρ5, r5, v4.trans v5, e2, hlt⟩
    | ct ρ5 => exact fun O5 σ5 H5 r5 v5 => ⟨O5, ρ5, r5, v4.trans v5, e2, hlt⟩
    | bk ρ5 => cases e2; exact p1.from v4
    | rt d => cases e2; exact p1
    | xc ρ5 c fs => cases e2; exact p1.from v4
    | rn ds => cases e2; exact p1
    | ro ρ d => cases e2; exact p1
  · have ei : i = ds.length := by omega
    subst ei
    rw [List.drop_length] at e2
    cases e2
    exact .inl ⟨w.stop H2 vis2, p1 O' σ2 H2 r2 v2⟩
theorem s_while {c : Expr} {body : List Stmt} {g : Ev → Rs Bool} {f : Ev → Rs Out} {pos : Pos} (n : Nat) (hp : PassesOwn (model X.prog X.w) X.A X.env X.xe) (hc : TP' X F c g) (hb : SSP' X F body f) : SP' X F (.While c body [] pos) (whL g f n) := wkS (ps_while hp hc hb) fun D σ H ⟨O, ρ, o, r, e, p⟩ => by
  let P : Nat → St → Hp → Prop := fun m σ' H' => ∃ O' ρ', Rel X.kb F O' ρ' σ' H' ∧ Same (hide (NN F O) H) (hide (NN F O') H') ∧ whL g f m ρ' = .ok o
  refine ⟨P, ⟨n, O, ρ, r, Same.refl _, e⟩, ?_⟩
  rintro m σ2 H2 ⟨O', ρ', r2, v2, e2⟩
  cases m with
  | zero => exact nomatch e2
  | succ m =>
    unfold whL at e2
    obtain ⟨b, e3, e2⟩ := Rs.bnd_eq e2
    refine ⟨O', ρ', b, r2, e3, fun H3 s3 => ?_⟩
    have v3 := v2.trans (hide_same s3)
    cases b with
    | true =>
      simp only [if_true] at e2 ⊢
      obtain ⟨o1, e4, e2⟩ := Rs.bnd_eq e2
      refine ⟨P m, fun σ' H' q => ⟨m, Nat.lt_succ_self m, q⟩, O', ρ', o1, r2.mono s3, e4, ?_⟩
      cases o1 with
      | nx ρ5 => exact fun O5 σ5 H5 r5 v5 => ⟨O5, ρ5, r5, v3.trans v5, e2⟩
      | ct ρ5 => exact fun O5 σ5 H5 r5 v5 => ⟨O5, ρ5, r5, v3.trans v5, e2⟩
      | bk ρ5 => cases e2; exact p.from v3
      | rt d => cases e2; exact p
      | xc ρ5 c fs => cases e2; exact p.from v3
      | rn ds => cases e2; exact p
      | ro ρ d => cases e2; exact p
    | false =>
      simp only [Bool.false_eq_true, if_false] at e2 ⊢
      cases e2
      exact p O' σ2 H3 (r2.mono s3) v3
end
end PL


/-! PL7: tests, choices, calls of own defs, a def from its body, the law's end -/
namespace PL
open PySem PySem.Spec PyProof.Rows L2

def tru (f : Ev → Rs PyData) : Ev → Rs Bool := fun ρ => (f ρ).bnd truD
def tNot' (g : Ev → Rs Bool) : Ev → Rs Bool := fun ρ => (g ρ).bnd fun b => .ok (!b)
def tAnd' (a b : Ev → Rs Bool) : Ev → Rs Bool := fun ρ => (a ρ).bnd fun c => if c = true then b ρ else .ok false
def tOr' (a b : Ev → Rs Bool) : Ev → Rs Bool := fun ρ => (a ρ).bnd fun c => if c = true then .ok true else b ρ
def notV (f : Ev → Rs PyData) : Ev → Rs PyData := fun ρ => (f ρ).bnd fun d => (isB d).bnd fun b => .ok (.bool (!b))
def andV (f g : Ev → Rs PyData) : Ev → Rs PyData := fun ρ => (f ρ).bnd fun d => (isB d).bnd fun b => if b = true then g ρ else .ok (.bool false)
def orV (f g : Ev → Rs PyData) : Ev → Rs PyData := fun ρ => (f ρ).bnd fun d => (isB d).bnd fun b => if b = true then .ok (.bool true) else g ρ
def ifE (g : Ev → Rs Bool) (a b : Ev → Rs PyData) : Ev → Rs PyData := fun ρ => (g ρ).bnd fun c => if c = true then a ρ else b ρ
def chain (o1 o2 : PyData → PyData → Rs PyData) (fa fb fc : Ev → Rs PyData) : Ev → Rs PyData := fun ρ => (fa ρ).bnd fun a => (fb ρ).bnd fun b => (o1 a b).bnd fun k => (isB k).bnd fun k => if k = true then (fc ρ).bnd fun c => o2 b c else .ok (.bool false)
section
variable {X : Cx} {F : FC}
theorem tru_v {K : PySem.W.Frag} {H : Hp} {d : PyData} {v : V} {b : Bool} (r : R K H d v) (e : truD d = .ok b) : TruV K v H b := by
  cases d with
  | none => cases e; rw [r.noneV]; rfl
  | bool c => cases e; rw [r.boolV]; rfl
  | int i => cases e; rw [r.intV]; rfl
  | str x => exact nomatch e
  | list ds =>
    cases e
    obtain ⟨z, a, xs, rfl, h1, t1⟩ := r.listV
    refine .inl ⟨xs, h1, ?_⟩
    have := t1.len
    cases ds <;> cases xs <;> first | rfl | (simp at this)
  | tuple ds =>
    cases e
    obtain ⟨z, a, xs, rfl, h1, t1⟩ := r.tupV
    refine .inr (.inl ⟨xs, h1, ?_⟩)
    have := t1.len
    cases ds <;> cases xs <;> first | rfl | (simp at this)
  | dict _ => exact nomatch e
theorem t_tru {e : Expr} {f : Ev → Rs PyData} (h : EP' X F e f) (he : ∀ whole, isTrue e X.env whole = (do let v ← whole; standAt e.pos; holding [v] (truthy v)) := by intro _; rfl) : TP' X F e (tru f) := wkT (pt_truth h he) fun σ H Q ⟨O, ρ, b, r, e, q⟩ => by
  obtain ⟨d, ed, e⟩ := Rs.bnd_eq e
  exact ⟨O, ρ, d, r, ed, fun v H' s r' => ⟨b, tru_v (r'.mono hide_le) e, q H' s⟩⟩
theorem t_not {e : Expr} {g : Ev → Rs Bool} {pos : Pos} (h : TP' X F e g) : TP' X F (.UnaryOp .Not e pos) (tNot' g) := wkT (pt_not h) fun σ H Q ⟨O, ρ, b, r, e, q⟩ => by
  obtain ⟨c, ec, e⟩ := Rs.bnd_eq e
  cases e
  exact ⟨O, ρ, c, r, ec, fun H' s => q H' s⟩
abbrev WP' (X : Cx) (F : FC) (e : Expr) (g : Ev → Rs Bool) : Prop := PW X e (tT X.kb F g)
theorem w_and1 {a : Expr} {g : Ev → Rs Bool} {pos : Pos} (h : TP' X F a g) : WP' X F (.BoolOp .And [a] pos) g := pw_and1 h
theorem w_or1 {a : Expr} {g : Ev → Rs Bool} {pos : Pos} (h : TP' X F a g) : WP' X F (.BoolOp .Or [a] pos) g := pw_or1 h
theorem w_and {a b : Expr} {rest : List Expr} {g h : Ev → Rs Bool} {pos : Pos} (ha : TP' X F a g) (hb : WP' X F (.BoolOp .And (b :: rest) pos) h) : WP' X F (.BoolOp .And (a :: b :: rest) pos) (tAnd' g h) := wkW (pw_and ha hb) fun σ H Q ⟨O, ρ, c, r, e, q⟩ => by
  obtain ⟨b, eb, e⟩ := Rs.bnd_eq e
  refine ⟨O, ρ, b, r, eb, fun H' s => ?_⟩
  cases b with
  | true => exact ⟨O, ρ, c, r.mono s, e, fun H2 s2 => q H2 (s.trans s2)⟩
  | false => cases e; exact q H' s
theorem w_or {a b : Expr} {rest : List Expr} {g h : Ev → Rs Bool} {pos : Pos} (ha : TP' X F a g) (hb : WP' X F (.BoolOp .Or (b :: rest) pos) h) : WP' X F (.BoolOp .Or (a :: b :: rest) pos) (tOr' g h) := wkW (pw_or ha hb) fun σ H Q ⟨O, ρ, c, r, e, q⟩ => by
  obtain ⟨b, eb, e⟩ := Rs.bnd_eq e
  refine ⟨O, ρ, b, r, eb, fun H' s => ?_⟩
  cases b with
  | false => exact ⟨O, ρ, c, r.mono s, e, fun H2 s2 => q H2 (s.trans s2)⟩
  | true => cases e; exact q H' s
theorem t_w {e : Expr} {g : Ev → Rs Bool} (h : WP' X F e g) : TP' X F e g := h.pt
theorem p_not {e : Expr} {f : Ev → Rs PyData} {pos : Pos} (h : EP' X F e f) : EP' X F (.UnaryOp .Not e pos) (notV f) := wkE (pe_not h) fun σ H Q ⟨O, ρ, d, r, e, q⟩ => by
  obtain ⟨c, ec, e⟩ := Rs.bnd_eq e
  obtain ⟨b, eb, e⟩ := Rs.bnd_eq e
  cases e
  exact ⟨O, ρ, c, r, ec, fun v H' s r' => ⟨b, r'.isB eb, q _ H' s .bool⟩⟩
theorem p_one {op : BoolOp} {e : Expr} {f : Ev → Rs PyData} {pos : Pos} (h : EP' X F e f) : EP' X F (.BoolOp op [e] pos) f := pe_one h
theorem p_and {a b : Expr} {rest : List Expr} {f g : Ev → Rs PyData} {pos : Pos} (ha : EP' X F a f) (hb : EP' X F (.BoolOp .And (b :: rest) pos) g) : EP' X F (.BoolOp .And (a :: b :: rest) pos) (andV f g) := wkE (pe_and ha hb) fun σ H Q ⟨O, ρ, d, r, e, q⟩ => by
  obtain ⟨c, ec, e⟩ := Rs.bnd_eq e
  obtain ⟨b, eb, e⟩ := Rs.bnd_eq e
  refine ⟨O, ρ, c, r, ec, fun v H' s r' => ⟨b, r'.isB eb, ?_⟩⟩
  cases b with
  | true => exact ⟨O, ρ, d, r.mono s, e, fun w H2 s2 r2 => q w H2 (s.trans s2) r2⟩
  | false => cases e; exact q _ H' s .bool
theorem p_or {a b : Expr} {rest : List Expr} {f g : Ev → Rs PyData} {pos : Pos} (ha : EP' X F a f) (hb : EP' X F (.BoolOp .Or (b :: rest) pos) g) : EP' X F (.BoolOp .Or (a :: b :: rest) pos) (orV f g) := wkE (pe_or ha hb) fun σ H Q ⟨O, ρ, d, r, e, q⟩ => by
  obtain ⟨c, ec, e⟩ := Rs.bnd_eq e
  obtain ⟨b, eb, e⟩ := Rs.bnd_eq e
  refine ⟨O, ρ, c, r, ec, fun v H' s r' => ⟨b, r'.isB eb, ?_⟩⟩
  cases b with
  | false => exact ⟨O, ρ, d, r.mono s, e, fun w H2 s2 r2 => q w H2 (s.trans s2) r2⟩
  | true => cases e; exact q _ H' s .bool
theorem p_if {c a b : Expr} {g : Ev → Rs Bool} {f1 f2 : Ev → Rs PyData} {pos : Pos} (hc : TP' X F c g) (ha : EP' X F a f1) (hb : EP' X F b f2) : EP' X F (.IfExp c a b pos) (ifE g f1 f2) := wkE (pe_ifExp hc ha hb) fun σ H Q ⟨O, ρ, d, r, e, q⟩ => by
  obtain ⟨b, eb, e⟩ := Rs.bnd_eq e
  refine ⟨O, ρ, b, r, eb, fun H' s => ?_⟩
  cases b with
  | true => exact ⟨O, ρ, d, r.mono s, e, fun w H2 s2 r2 => q w H2 (s.trans s2) r2⟩
  | false => exact ⟨O, ρ, d, r.mono s, e, fun w H2 s2 r2 => q w H2 (s.trans s2) r2⟩
theorem to_chain {K : KB} {o1 o2 : PyData → PyData → Rs PyData} {fa fb fc : Ev → Rs PyData} {σ : St} {H : Hp} {Q : VK} (h : tP K F (chain o1 o2 fa fb fc) σ H Q) : tChain (rP2 K.K o1) (rP2 K.K o2) (tP K F fa) (tP K F fb) (tP K F fc) σ H Q := by
  obtain ⟨O, ρ, d, r, e, q⟩ := h
  obtain ⟨a, ea, e⟩ := Rs.bnd_eq e
  obtain ⟨b, eb, e⟩ := Rs.bnd_eq e
  obtain ⟨k, ek, e⟩ := Rs.bnd_eq e
  obtain ⟨kb, ekb, e⟩ := Rs.bnd_eq e
  refine ⟨O, ρ, a, r, ea, fun x H1 s1 r1 => ⟨O, ρ, b, r.mono s1, eb, fun y H2 s2 r2 => ⟨NN F O, a, b, k, fun z n => ((r.mono s1).mono s2).nlive n, r1.mono (hide_same s2), r2, ek, fun z H3 s3 r3 => ⟨kb, r3.isB ekb, ?_⟩⟩⟩⟩
  have s13 := (s1.trans s2).trans s3
  cases kb with
  | true =>
    simp only [if_true] at e ⊢
    obtain ⟨c, ec, e⟩ := Rs.bnd_eq e
    exact ⟨O, ρ, c, r.mono s13, ec, fun w H4 s4 r4 => ⟨NN F O, b, c, d, fun z n => ((r.mono s13).mono s4).nlive n, r2.mono (hide_same (s3.trans s4)), r4, e, fun v H5 s5 r5 => q v H5 ((s13.trans s4).trans s5) r5⟩⟩
  | false =>
    simp only [Bool.false_eq_true, if_false] at e ⊢
    cases e
    exact q _ H3 s13 .bool
theorem p_chain {op op' : CmpOp} {o1 o2 : PyData → PyData → Rs PyData} {a b c : Expr} {fa fb fc : Ev → Rs PyData} {pos : Pos} (h1 : OpR X (compareOp op) (rP2 X.K o1)) (h2 : OpR X (compareOp op') (rP2 X.K o2)) (ha : EP' X F a fa) (hb : EP' X F b fb) (hc : EP' X F c fc)
    (hm : lastMarks [op, op'] [b, c] = false := by with_unfolding_all rfl) : EP' X F (.Compare a [op, op'] [b, c] pos) (chain o1 o2 fa fb fc) := wkE (pe_chain h1 h2 ha hb hc hm) fun _ _ _ h => to_chain h
theorem t_chain {op op' : CmpOp} {o1 o2 : PyData → PyData → Rs PyData} {a b c : Expr} {fa fb fc : Ev → Rs PyData} {pos : Pos} (h1 : OpR X (compareOp op) (rP2 X.K o1)) (h2 : OpR X (compareOp op') (rP2 X.K o2)) (ha : EP' X F a fa) (hb : EP' X F b fb) (hc : EP' X F c fc)
    (hm : lastMarks [op, op'] [b, c] = false := by with_unfolding_all rfl) : TP' X F (.Compare a [op, op'] [b, c] pos) (tB' (chain o1 o2 fa fb fc)) := wkT (pt_chain h1 h2 ha hb hc hm) fun σ H Q ⟨O, ρ, b, r, e, q⟩ => by
  obtain ⟨x, ex, e⟩ := Rs.bnd_eq e
  exact to_chain ⟨O, ρ, x, r, ex, fun v H' s r' => ⟨b, r'.isB e, q H' s⟩⟩
end

/-! ### own defs -/
def spP (K : PySem.W.Frag) (n : Nat) (G : List PyData → Rs PyData) : Sp := fun vs H Q _ => ∃ (hid : Addr → Prop) (ds : List PyData) (d : PyData), (∀ a, hid a → H a ≠ none) ∧ RA K (hide hid H) ds vs ∧ ds.length = n ∧ G ds = .ok d ∧ ∀ v H', Same H H' → R K (hide hid H') d v → Q v H'
theorem p_call {X : Cx} {F : FC} {k n : Nat} {f : Addr} {fd : FuncData} {ps : List Str} {G : List PyData → Rs PyData} {x : Str} {p pos : Pos} {e : Expr} {es : List Expr} {g : Ev → Rs (List PyData)} (Fn : FnOk X.prog X.w X.K X.mg X.base CX0 k f fd ps (spP X.K n G)) (hr : Room k X.A) (hg : Gl X x) (hm : X.mg x = some (.ref f)) (hk : PySem.W.keepIn X.K (.ref f) = true) (hb : Binds X.K fd ps [])
    (ha : AP' X F (e :: es) (fun ρ => (g ρ).bnd fun ds => if ds.length = n then .ok ds else .no)) (hdb : (x == ("__debug__" : Str)) = false := by decide) (he : starEach (e :: es) X.env = (false, eval e X.env) :: starEach es X.env := by rfl) (hpl : (backTo pos (starEach es X.env)).any (·.1) = false := by rfl) :
    EP' X F (.Call (.Name x p) (e :: es) [] pos) (apC G (fun ρ => (g ρ).bnd fun ds => if ds.length = n then .ok ds else .no)) :=
  wkE (pe_call Fn hr hg hm hk hb .nil pass0 ha hdb he hpl) fun σ H Q ⟨O, ρ, d, r, e, q⟩ => by
    obtain ⟨a, ea, e⟩ := Rs.bnd_eq e
    refine ⟨O, ρ, a, r, ea, fun vs H1 s1 r1 => ⟨NN F O, a, d, fun z n => (r.mono s1).nlive n, by rw [List.append_nil]; exact r1, ?_, e, fun v H' s3 r3 => q v H' (s1.trans s3) r3⟩⟩
    obtain ⟨b, eb, e3⟩ := Rs.bnd_eq ea
    split at e3 <;> first | (cases e3; done) | skip
    cases e3
    assumption
def startE (n : Nat) (ds : List PyData) : Ev := ds.map (fun d => some (.pub d)) ++ List.replicate (n - ds.length) none
def run (n : Nat) (body : Ev → Rs Out) (ds : List PyData) : Rs PyData := match body (startE n ds) with
  | .ok (.rt d) => .ok d
  | .ok (.nx _) => .ok .none
  | .ok (.xc _ c fs) => .ex c fs
  | .ok (.rn ds) => .ok (.list ds)
  | _ => .no
theorem start_rel {K : KB} {F : FC} {hid : Addr → Prop} {H : Hp} {ds : List PyData} {vs : List V} {N : List Str} (hl : ∀ a, hid a → H a ≠ none) (t : RA K.K (hide hid H) ds vs) (hn : ds.length ≤ N.length) (hF : F.hid = hid := by rfl) (hF0 : F.H0 = H := by rfl) (hN : N.length ≤ 1000 := by assumption) (hfx : F.fix = (fun _ => none) := by rfl) : Rel K F (fun _ => none) (startE N.length ds) (L2.start N vs) H := by
  subst hF hF0
  have e := t.len
  refine ⟨by (unfold startE L2.start; simp [e]), (fun i j a h => nomatch h), (fun i a h => nomatch h), hl, (fun a x h => ⟨h, fun i z => nomatch z⟩), fun i c q => ?_, ⟨by (unfold startE; simp; omega), (fun i a c e => by rw [hfx] at e; cases e), fun i j k c e1 e2 => ?_⟩⟩
  have vis : NN F (fun _ => none) = F.hid := funext fun a => propext ⟨fun h => h.elim id (fun ⟨_, z⟩ => absurd z (by simp)), Or.inl⟩
  by_cases hi : i < ds.length
  · have q' : (ds.map fun d => some (Cell.pub d))[i]? = some (some c) := by
      unfold startE at q
      rw [List.getElem?_append_left (by simpa using hi)] at q
      exact q
    rw [List.getElem?_map, List.getElem?_eq_getElem hi] at q'
    cases q'
    obtain ⟨v, h1, h2⟩ := t.get (List.getElem?_eq_getElem hi)
    refine ⟨v, ?_, by rw [vis]; exact h2⟩
    unfold L2.start
    rw [List.getElem?_append_left (by rw [List.length_map, e]; exact hi), List.getElem?_map, h1]; rfl
  · unfold startE at q
    rw [List.getElem?_append_right (by simpa using hi), List.getElem?_replicate] at q
    split at q <;> first | exact nomatch q | (cases q; done) | skip
  · have no : ∀ {i : Nat} {c : Cell}, (startE N.length ds)[i]? = some (some c) → ∃ d, c = .pub d := fun {i c} q => by
      unfold startE at q
      by_cases hi : i < ds.length
      · rw [List.getElem?_append_left (by simpa using hi), List.getElem?_map, List.getElem?_eq_getElem hi] at q
        cases q; exact ⟨_, rfl⟩
      · rw [List.getElem?_append_right (by simpa using hi), List.getElem?_replicate] at q
        split at q <;> first | exact nomatch q | (cases q; done) | skip
    obtain ⟨d, e⟩ := no e1
    exact nomatch e
/-- THE RULE for a def: its body's function -/
theorem fn_rule {P : Program} {w : World} {K : PySem.W.Frag} {mg : Str → Option Value} {base : Heap} {x qual : Str} {st : Stmt} {f : Addr} {fd : FuncData} {N ps : List Str} {k : Nat} {body : Ev → Rs Out} (Fn : Fun K x qual st f fd) (S : FnScope N ps (defScope st)) (hn : ps.length ≤ N.length) (hN : N.length ≤ 1000)
    (hb : ∀ (cdv : Value) (A : Around) (outer : List Env) (s : Shared) (H : Hp) (E : XK) (F : FC), Room k (A.deeper (envOfC qual (defScope st) s.heap.objs.size f cdv)) → Calm F → PSs (cxOf CX0 P w K mg base N qual (defScope st) f cdv A outer s H E).nox (defBody st) (tS ⟨K, P, w⟩ F body)) :
    FnOk P w K mg base CX0 (k + 1) f fd ps (spP K ps.length (run N.length body)) := by
  refine Fn.ok S (fun vs H Q E h => ?_) (fun cdv A outer s H vs Q E hr h => ?_)
  · obtain ⟨hid, ds, d, h1, h2, h3, _⟩ := h
    rw [h2.len, h3]
  · obtain ⟨hid, ds, d, h1, h2, h3, h4, q⟩ := h
    refine ⟨_, hb cdv A outer s H E { hid := hid, H0 := H } hr rfl, ?_⟩
    unfold run at h4
    split at h4 <;> first | (cases h4; done) | skip
    · rename_i d' eo
      cases h4
      exact ⟨fun _ => none, startE N.length ds, _, start_rel (F := { hid := hid, H0 := H }) h1 h2 (by omega), eo, fun v H' s r' => q v H' s r'⟩
    · rename_i ρ' eo
      cases h4
      exact ⟨fun _ => none, startE N.length ds, _, start_rel (F := { hid := hid, H0 := H }) h1 h2 (by omega), eo, fun O' σ' H' r' v' => q _ H' r'.h0 .none⟩
    · rename_i es eo
      cases h4
      exact ⟨fun _ => none, startE N.length ds, _, start_rel (F := { hid := hid, H0 := H }) h1 h2 (by omega), eo, fun p xs H' s hp hh hl hz ra => q _ H' s (.list hz (.of (hide_of hh hl)) (ra.mono (hide_anti fun a z => .inl z)))⟩
/-- the promise of a def that gives a new list -/
def spN (K : PySem.W.Frag) (n : Nat) (G : List PyData → Rs (List PyData)) : Sp := fun vs H Q _ => ∃ (hid : Addr → Prop) (ds es : List PyData), (∀ a, hid a → H a ≠ none) ∧ RA K (hide hid H) ds vs ∧ ds.length = n ∧ G ds = .ok es ∧ ∀ p xs H', Same H H' → H p = none → H' p = some (.lst xs) → es.length ≤ sizeLine → RA K (hide (nP hid p) H') es xs → Q (.ref p) H'
def runN (n : Nat) (body : Ev → Rs Out) (ds : List PyData) : Rs (List PyData) := match body (startE n ds) with
  | .ok (.rn es) => .ok es
  | _ => .no
theorem fn_ruleN {P : Program} {w : World} {K : PySem.W.Frag} {mg : Str → Option Value} {base : Heap} {x qual : Str} {st : Stmt} {f : Addr} {fd : FuncData} {N ps : List Str} {k : Nat} {body : Ev → Rs Out} (Fn : Fun K x qual st f fd) (S : FnScope N ps (defScope st)) (hn : ps.length ≤ N.length) (hN : N.length ≤ 1000)
    (hb : ∀ (cdv : Value) (A : Around) (outer : List Env) (s : Shared) (H : Hp) (E : XK) (F : FC), Room k (A.deeper (envOfC qual (defScope st) s.heap.objs.size f cdv)) → Calm F → PSs (cxOf CX0 P w K mg base N qual (defScope st) f cdv A outer s H E).nox (defBody st) (tS ⟨K, P, w⟩ F body)) :
    FnOk P w K mg base CX0 (k + 1) f fd ps (spN K ps.length (runN N.length body)) := by
  refine Fn.ok S (fun vs H Q E h => ?_) (fun cdv A outer s H vs Q E hr h => ?_)
  · obtain ⟨hid, ds, d, h1, h2, h3, _⟩ := h
    rw [h2.len, h3]
  · obtain ⟨hid, ds, d, h1, h2, h3, h4, q⟩ := h
    refine ⟨_, hb cdv A outer s H E { hid := hid, H0 := H } hr rfl, ?_⟩
    unfold runN at h4
    split at h4 <;> first | (cases h4; done) | skip
    rename_i es eo
    cases h4
    exact ⟨fun _ => none, startE N.length ds, _, start_rel (F := { hid := hid, H0 := H }) h1 h2 (by omega), eo, fun p xs H' s hp hh hl hz ra => q p xs H' s hp hl hz ra⟩
/-- the law: from its function's value -/
theorem law_sp {K : PySem.W.Frag} {H : Hp} {a : Addr} {ns : List Int} {G : List PyData → Rs PyData} (hz : ns.length ≤ 63) (h : SqL K H a (ns.map V.int)) (e : G [.list (ns.map .int)] = .ok (.bool true)) : spP K 1 G [.ref a] H (fun v _ => v = .bl true) fun _ _ _ => False := by
  have vis : Same H (hide (fun _ => False) H) := fun b o e => hide_of (fun z => z) e
  refine ⟨fun _ => False, [.list (ns.map .int)], .bool true, fun _ z => z.elim, .cons (.list (by rw [List.length_map, sizeLine_eq]; omega) (vis.seq h) RA.ints) .nil, rfl, e, fun v H' s r => r.boolV⟩
end PL


/-! PL8: argument lists of known length, reads of a slot's own list, constants of the module -/
namespace PL
open PySem PySem.Spec PyProof.Rows L2

/-- g gives n values -/
def Ln (n : Nat) (g : Ev → Rs (List PyData)) : Prop := ∀ ρ ds, g ρ = .ok ds → ds.length = n
theorem ln0 : Ln 0 aN := fun ρ ds e => by cases e; rfl
theorem lnS {n : Nat} {f : Ev → Rs PyData} {g : Ev → Rs (List PyData)} (h : Ln n g) : Ln (n + 1) (aC f g) := fun ρ ds e => by
  obtain ⟨a, ea, e⟩ := Rs.bnd_eq e
  obtain ⟨b, eb, e⟩ := Rs.bnd_eq e
  cases e
  rw [List.length_cons, h ρ b eb]
def tupE (g : Ev → Rs (List PyData)) : Ev → Rs PyData := fun ρ => (g ρ).bnd fun ds => .ok (.tuple ds)
theorem small_n {n : Nat} (h : n ≤ 1000) : n ≤ sizeLine := by rw [sizeLine_eq]; omega
section
variable {X : Cx} {F : FC}
theorem e_tup {es : List Expr} {k n : Nat} {g : Ev → Rs (List PyData)} {pos : Pos} (h : AP' X F es g) (hl : Ln n g) (hn : n ≤ 1000 := by decide) : EP' X F (.Tuple es k pos) (tupE g) :=
  wkE (pe_tupN h) fun σ H Q ⟨O, ρ, d, r, e, q⟩ => by
    obtain ⟨ds, ex, e⟩ := Rs.bnd_eq e
    cases e
    have hz : ds.length ≤ sizeLine := by rw [hl ρ ds ex]; exact small_n hn
    exact ⟨O, ρ, ds, r, ex, fun vs H1 s1 r1 => ⟨by rw [r1.len]; exact hz, fun p o hp ho => q _ _ (s1.trans (same_upd hp)) (newT ho (fun a z => (r.mono s1).nlive z) hp hz r1)⟩⟩
theorem e_lst {es : List Expr} {n : Nat} {g : Ev → Rs (List PyData)} {pos : Pos} (h : AP' X F es g) (hl : Ln n g) (hn : n ≤ 1000 := by decide) : NP' X F (.List es pos) g :=
  wkE (pe_lst h) fun σ H Q ⟨O, ρ, ds, r, ex, q⟩ => by
    have hz : ds.length ≤ sizeLine := by rw [hl ρ ds ex]; exact small_n hn
    exact ⟨O, ρ, _, r, ex, fun vs H1 s1 r1 => ⟨by rw [r1.len]; exact hz, fun p hp => q p vs _ (s1.trans (same_upd hp)) (s1.free hp) upd_same hz (newP hp r1)⟩⟩
theorem e_call {k n : Nat} {f : Addr} {fd : FuncData} {ps : List Str} {G : List PyData → Rs PyData} {x : Str} {p pos : Pos} {e : Expr} {es : List Expr} {g : Ev → Rs (List PyData)} (Fn : FnOk X.prog X.w X.K X.mg X.base CX0 k f fd ps (spP X.K n G)) (hr : Room k X.A) (hm : X.mg x = some (.ref f)) (hk : PySem.W.keepIn X.K (.ref f) = true) (hb : Binds X.K fd ps [])
    (ha : AP' X F (e :: es) g) (hl : Ln n g) (hg : Gl X x := by rfl) (hdb : (x == ("__debug__" : Str)) = false := by decide) (he : starEach (e :: es) X.env = (false, eval e X.env) :: starEach es X.env := by rfl) (hpl : (backTo pos (starEach es X.env)).any (·.1) = false := by rfl) :
    EP' X F (.Call (.Name x p) (e :: es) [] pos) (apC G g) :=
  wkE (pe_call Fn hr hg hm hk hb .nil pass0 ha hdb he hpl) fun σ H Q ⟨O, ρ, d, r, e, q⟩ => by
    obtain ⟨a, ea, e⟩ := Rs.bnd_eq e
    exact ⟨O, ρ, a, r, ea, fun vs H1 s1 r1 => ⟨NN F O, a, d, fun z n => (r.mono s1).nlive n, by rw [List.append_nil]; exact r1, hl ρ a ea, e, fun v H' s3 r3 => q v H' (s1.trans s3) r3⟩⟩

/-! a slot's own list, read where it stands -/
def tW (K : KB) (F : FC) (f : Ev → Rs PyData) : TE := fun σ H Q => ∃ O ρ d, Rel K F O ρ σ H ∧ f ρ = .ok d ∧ ∀ v H', Same H H' → R K.K H' d v → Q v H'
abbrev WE' (X : Cx) (F : FC) (e : Expr) (f : Ev → Rs PyData) : Prop := PE X e (tW X.kb F f)
def ownV (i : Nat) : Ev → Rs PyData := fun ρ => (ownL i ρ).bnd fun ds => .ok (.list ds)
theorem no_hide {K : PySem.W.Frag} {H : Hp} {d : PyData} {v : V} (r : R K H d v) : R K (hide (fun _ => False) H) d v := r.mono fun _ _ e => hide_of (fun z => z) e
theorem w_own {x : Str} {pos : Pos} (i : Nat) (h : PE X (.Name x pos) (tVar i)) : WE' X F (.Name x pos) (ownV i) := wkE h fun σ H Q ⟨O, ρ, d, r, e, q⟩ => by
  obtain ⟨ds, ed, e⟩ := Rs.bnd_eq e
  cases e
  unfold ownL at ed
  split at ed <;> first | (cases ed; done) | skip
  rename_i hc
  cases ed
  obtain ⟨hz, a, xs, h1, h2, h3, h4⟩ := own_at r hc
  exact ⟨_, h2, q _ H (Same.refl H) (.list hz (.of h3) (h4.mono hide_le))⟩
theorem w_p {e : Expr} {f : Ev → Rs PyData} (h : EP' X F e f) : WE' X F e f := wkE h fun σ H Q ⟨O, ρ, d, r, e, q⟩ => ⟨O, ρ, d, r, e, fun v H' s r' => q v H' s (r'.mono hide_le)⟩
theorem wt_tru {e : Expr} {f : Ev → Rs PyData} (h : WE' X F e f) (he : ∀ whole, isTrue e X.env whole = (do let v ← whole; standAt e.pos; holding [v] (truthy v)) := by intro _; rfl) : TP' X F e (tru f) := wkT (pt_truth h he) fun σ H Q ⟨O, ρ, b, r, e, q⟩ => by
  obtain ⟨d, ed, e⟩ := Rs.bnd_eq e
  exact ⟨O, ρ, d, r, ed, fun v H' s r' => ⟨b, tru_v r' e, q H' s⟩⟩
/-- a value that stands on no heap -/
def flatD : PyData → Rs PyData
  | .none => .ok .none
  | .bool b => .ok (.bool b)
  | .int i => .ok (.int i)
  | .str x => .ok (.str x)
  | _ => .no
def flatE (f : Ev → Rs PyData) : Ev → Rs PyData := fun ρ => (f ρ).bnd flatD
theorem flat_any {K : PySem.W.Frag} {H H' : Hp} {d e : PyData} {v : V} (h : flatD d = .ok e) (r : R K H d v) : R K H' e v := by
  cases d <;> first | (cases h; simpa [R] using r) | (cases h; done)
theorem p_flat {e : Expr} {f : Ev → Rs PyData} (h : WE' X F e f) : EP' X F e (flatE f) := wkE h fun σ H Q ⟨O, ρ, d, r, e, q⟩ => by
  obtain ⟨d', ed, e⟩ := Rs.bnd_eq e
  exact ⟨O, ρ, d', r, ed, fun v H' s r' => q v H' s (flat_any e r')⟩
theorem w_op {op : PyData → PyData → Rs PyData} {fa fb : Ev → Rs PyData} {σ : St} {H : Hp} {Q : VK} (h : tW X.kb F (ap2 op fa fb) σ H Q) : tOp (rP2 X.K op) (tW X.kb F fa) (tW X.kb F fb) σ H Q := by
  obtain ⟨O, ρ, d, r, e, q⟩ := h
  obtain ⟨a, ea, e⟩ := Rs.bnd_eq e
  obtain ⟨b, eb, e⟩ := Rs.bnd_eq e
  exact ⟨O, ρ, a, r, ea, fun x H1 s1 r1 => ⟨O, ρ, b, r.mono s1, eb, fun y H2 s2 r2 => ⟨fun _ => False, a, b, d, fun z n => n.elim, no_hide (r1.mono s2), no_hide r2, e, fun v H' s3 r3 => q v H' ((s1.trans s2).trans s3) (r3.mono hide_le)⟩⟩⟩
theorem w_cmp {op : CmpOp} {o : PyData → PyData → Rs PyData} {a b : Expr} {fa fb : Ev → Rs PyData} {pos : Pos} (ho : OpR X (compareOp op) (rP2 X.K o)) (ha : WE' X F a fa) (hb : WE' X F b fb) (hm : behindInMarks op b = false) : WE' X F (.Compare a [op] [b] pos) (ap2 o fa fb) := wkE (pe_cmpR ho ha hb hm) fun _ _ _ h => w_op h
theorem wt_cmp {op : CmpOp} {o : PyData → PyData → Rs PyData} {a b : Expr} {fa fb : Ev → Rs PyData} {pos : Pos} (ho : OpR X (compareOp op) (rP2 X.K o)) (ha : WE' X F a fa) (hb : WE' X F b fb) (hm : behindInMarks op b = false) : TP' X F (.Compare a [op] [b] pos) (tB' (ap2 o fa fb)) :=
  wkT (pt_cmpR ho ha hb hm) fun σ H Q ⟨O, ρ, d, r, e, q⟩ => by
    obtain ⟨x, ex, e⟩ := Rs.bnd_eq e
    exact w_op ⟨O, ρ, x, r, ex, fun v H' s r' => ⟨d, r'.isB e, q H' s⟩⟩
theorem w_len {p pos : Pos} {e : Expr} {f : Ev → Rs PyData} (hg : Gl X "len") (hm : X.mg "len" = none) (h : WE' X F e f) (hs : starEach [e] X.env = (false, eval e X.env) :: starEach [] X.env := by rfl) (hpl : (backTo pos (starEach [] X.env)).any (·.1) = false := by rfl) : EP' X F (.Call (.Name "len" p) [e] [] pos) (fun ρ => (f ρ).bnd fun d => (lenD [d]).bnd flatD) :=
  wkE (pe_callB c_len hg hm PySem.boot_len (pa_cons h pa_nil hs) (he := hs) (hpl := hpl)) fun σ H Q ⟨O, ρ, d, r, e, q⟩ => by
    obtain ⟨a, ea, e⟩ := Rs.bnd_eq e
    obtain ⟨b, eb, e⟩ := Rs.bnd_eq e
    exact ⟨O, ρ, a, r, ea, fun v H1 s1 r1 => ⟨fun _ => False, [a], b, fun z n => n.elim, .cons (no_hide r1) .nil, eb, fun w H' s3 r3 => q w H' (s1.trans s3) (flat_any e r3)⟩⟩
/-- x[k] -/
def ownIx (i : Nat) (f : Ev → Rs PyData) : Ev → Rs PyData := fun ρ => (ownL i ρ).bnd fun ds => (f ρ).bnd fun k => (asI k).bnd fun k => match atI ds k with | some d => .ok d | none => .no
theorem p_ixOwn {x : Str} {p pos : Pos} {b : Expr} {f : Ev → Rs PyData} (i : Nat) (h : PE X (.Name x p) (tVar i)) (hb : EP' X F b f) (hs : PlainIx b := by exact fun _ _ => rfl) : EP' X F (.Subscript (.Name x p) b pos) (ownIx i f) :=
  wkE (pe_ix ix_list h hb hs) fun σ H Q ⟨O, ρ, d, r, e, q⟩ => by
    obtain ⟨ds, ed, e⟩ := Rs.bnd_eq e
    obtain ⟨k, ek, e⟩ := Rs.bnd_eq e
    obtain ⟨kk, ekk, e⟩ := Rs.bnd_eq e
    split at e <;> first | (cases e; done) | skip
    rename_i hat
    cases e
    unfold ownL at ed
    split at ed <;> first | (cases ed; done) | skip
    rename_i hc
    cases ed
    obtain ⟨hz, a, xs, h1, h2, h3, h4⟩ := own_at r hc
    refine ⟨_, h2, O, ρ, k, r, ek, fun w H1 s1 r1 => ?_⟩
    have ew : w = .int kk := by
      cases k with
      | int q => cases ekk; exact r1.intV
      | _ => exact nomatch ekk
    obtain ⟨y, hy, ry⟩ := (h4.mono (hide_same s1)).atI hat
    exact ⟨a, xs, kk, y, rfl, ew, .of (s1 _ _ h3), hy, q _ H1 s1 ry⟩
/-- tuple(x) -/
theorem p_tupOwn {x y : Str} {p p2 pos : Pos} (i : Nat) (h : PE X (.Name x p) (tVar i)) (hg : Gl X "tuple") (hm : X.mg "tuple" = none) (hs : starEach [.Name x p] X.env = (false, eval (.Name x p) X.env) :: starEach [] X.env := by rfl) (hpl : (backTo pos (starEach [] X.env)).any (·.1) = false := by rfl) :
    EP' X F (.Call (.Name "tuple" p2) [.Name x p] [] pos) (fun ρ => (ownL i ρ).bnd fun ds => .ok (.tuple ds)) :=
  wkE (pe_callTy call_tupleN hg hm (by decide +kernel) (pa_cons h pa_nil hs) (he := hs) (hpl := hpl)) fun σ H Q ⟨O, ρ, d, r, e, q⟩ => by
    obtain ⟨ds, ed, e⟩ := Rs.bnd_eq e
    cases e
    unfold ownL at ed
    split at ed <;> first | (cases ed; done) | skip
    rename_i hc
    cases ed
    obtain ⟨hz, a, xs, h1, h2, h3, h4⟩ := own_at r hc
    exact ⟨_, h2, a, xs, rfl, .inl ⟨.of h3, fun l o hl ho => q _ _ (same_upd hl) (newT ho (fun a z => r.nlive z) hl hz h4)⟩⟩
/-- list(x) -/
theorem n_listOwn {x y : Str} {p p2 pos : Pos} (i : Nat) (h : PE X (.Name x p) (tVar i)) (hg : Gl X "list") (hm : X.mg "list" = none) (hs : starEach [.Name x p] X.env = (false, eval (.Name x p) X.env) :: starEach [] X.env := by rfl) (hpl : (backTo pos (starEach [] X.env)).any (·.1) = false := by rfl) :
    NP' X F (.Call (.Name "list" p2) [.Name x p] [] pos) (ownL i) :=
  wkE (pe_callTy call_list_of hg hm (by decide +kernel) (pa_cons h pa_nil hs) (he := hs) (hpl := hpl)) fun σ H Q ⟨O, ρ, ds, r, ed, q⟩ => by
    unfold ownL at ed
    split at ed <;> first | (cases ed; done) | skip
    rename_i hc
    cases ed
    obtain ⟨hz, a, xs, h1, h2, h3, h4⟩ := own_at r hc
    exact ⟨_, h2, a, xs, rfl, .inl (.of h3), fun l hl => q _ _ _ (same_upd hl) hl upd_same hz (newP hl h4)⟩
/-- a slice of a list -/
def slL (f : Ev → Rs PyData) (g h : Ev → Rs (Option Int)) : Ev → Rs (List PyData) := fun ρ => (f ρ).bnd fun d => (g ρ).bnd fun lo => (h ρ).bnd fun hi => match d with | .list ds => .ok (cutD ds lo hi) | _ => .no
theorem n_sl {a : Expr} {lo hi : Option Expr} {fa : Ev → Rs PyData} {g h : Ev → Rs (Option Int)} {p2 pos : Pos} (ha : EP' X F a fa) (hl : PO X lo (tO X.kb F g)) (hh : PO X hi (tO X.kb F h)) : NP' X F (.Subscript a (.Slice lo hi none p2) pos) (slL fa g h) :=
  wkE (pe_slice sl_list ha hl hh) fun σ H Q ⟨O, ρ, d, r, e, q⟩ => by
    obtain ⟨x, ex, e⟩ := Rs.bnd_eq e
    obtain ⟨l, el, e⟩ := Rs.bnd_eq e
    obtain ⟨u, eu, e⟩ := Rs.bnd_eq e
    split at e <;> first | (cases e; done) | skip
    cases e
    refine ⟨O, ρ, _, r, ex, fun v H1 s1 r1 => ⟨O, ρ, l, r.mono s1, el, fun H2 s2 => ⟨O, ρ, u, (r.mono s1).mono s2, eu, fun H3 s3 => ?_⟩⟩⟩
    obtain ⟨z1, a, xs, e1, h1, t1⟩ := r1.listV
    have s23 := s2.trans s3
    exact ⟨a, xs, e1, s23.seq (sqL_le h1), fun p hp => q p _ _ ((s1.trans s23).trans (same_upd hp)) ((s1.trans s23).free hp) upd_same (Nat.le_trans (cutD_len _ _ _) z1) (newP hp (t1.mono (hide_same s23)).cut)⟩

/-! a def of the top -/
structure FnI (K : PySem.W.Frag) (mg : Str → Option Value) (x : Str) (st : Stmt) (ps : List Str) where
  a : Addr
  d : FuncData
  F : Fun K x x st a d
  m : mg x = some (.ref a)
  b : Binds K d ps []
theorem fn_rule' {P : Program} {w : World} {K : PySem.W.Frag} {mg : Str → Option Value} {base : Heap} {x : Str} {st : Stmt} {N ps : List Str} {k n m : Nat} {body : Ev → Rs Out} {G : List PyData → Rs PyData} {sc : Scope} (I : FnI K mg x st ps) (hsc : defScope st = sc) (S : FnScope N ps sc) (hn : ps.length ≤ N.length) (hp : ps.length = n) (hm : N.length = m) (hG : G = run m body)
    (hb : ∀ (cdv : Value) (A : Around) (outer : List Env) (s : Shared) (H : Hp) (E : XK) (F : FC), Room k (A.deeper (envOfC x sc s.heap.objs.size I.a cdv)) → Calm F → PSs (cxOf CX0 P w K mg base N x sc I.a cdv A outer s H E).nox (defBody st) (tS ⟨K, P, w⟩ F body)) (hm' : m ≤ 1000 := by decide) :
    FnOk P w K mg base CX0 (k + 1) I.a I.d ps (spP K n G) := by
  subst hsc hp hm hG
  exact fn_rule I.F S hn hm' hb
theorem fn_ruleN' {P : Program} {w : World} {K : PySem.W.Frag} {mg : Str → Option Value} {base : Heap} {x : Str} {st : Stmt} {N ps : List Str} {k n m : Nat} {body : Ev → Rs Out} {G : List PyData → Rs (List PyData)} {sc : Scope} (I : FnI K mg x st ps) (hsc : defScope st = sc) (S : FnScope N ps sc) (hn : ps.length ≤ N.length) (hp : ps.length = n) (hm : N.length = m) (hG : G = runN m body)
    (hb : ∀ (cdv : Value) (A : Around) (outer : List Env) (s : Shared) (H : Hp) (E : XK) (F : FC), Room k (A.deeper (envOfC x sc s.heap.objs.size I.a cdv)) → Calm F → PSs (cxOf CX0 P w K mg base N x sc I.a cdv A outer s H E).nox (defBody st) (tS ⟨K, P, w⟩ F body)) (hm' : m ≤ 1000 := by decide) :
    FnOk P w K mg base CX0 (k + 1) I.a I.d ps (spN K n G) := by
  subst hsc hp hm hG
  exact fn_ruleN I.F S hn hm' hb
/-- a call of a def that gives a new list -/
theorem n_callI {X : Cx} {F : FC} {k n : Nat} {ps : List Str} {st : Stmt} {G : List PyData → Rs (List PyData)} {x : Str} {p pos : Pos} {e : Expr} {es : List Expr} {g : Ev → Rs (List PyData)} (I : FnI X.K X.mg x st ps) (Fn : FnOk X.prog X.w X.K X.mg X.base CX0 k I.a I.d ps (spN X.K n G)) (hr : Room k X.A)
    (ha : AP' X F (e :: es) g) (hl : Ln n g) (hg : Gl X x := by rfl) (hdb : (x == ("__debug__" : Str)) = false := by decide) (he : starEach (e :: es) X.env = (false, eval e X.env) :: starEach es X.env := by rfl) (hpl : (backTo pos (starEach es X.env)).any (·.1) = false := by rfl) :
    NP' X F (.Call (.Name x p) (e :: es) [] pos) (fun ρ => (g ρ).bnd G) :=
  wkE (pe_call Fn hr hg I.m I.F.kp I.b .nil pass0 ha hdb he hpl) fun σ H Q ⟨O, ρ, d, r, e, q⟩ => by
    obtain ⟨a, ea, e⟩ := Rs.bnd_eq e
    exact ⟨O, ρ, a, r, ea, fun vs H1 s1 r1 => ⟨NN F O, a, d, fun z n => (r.mono s1).nlive n, by rw [List.append_nil]; exact r1, hl ρ a ea, e, fun p xs H' s3 hp hl hz ra => q p xs H' (s1.trans s3) (s1.free hp) hl hz ra⟩⟩
theorem e_callI {X : Cx} {F : FC} {k n : Nat} {ps : List Str} {st : Stmt} {G : List PyData → Rs PyData} {x : Str} {p pos : Pos} {e : Expr} {es : List Expr} {g : Ev → Rs (List PyData)} (I : FnI X.K X.mg x st ps) (Fn : FnOk X.prog X.w X.K X.mg X.base CX0 k I.a I.d ps (spP X.K n G)) (hr : Room k X.A)
    (ha : AP' X F (e :: es) g) (hl : Ln n g) (hg : Gl X x := by rfl) (hdb : (x == ("__debug__" : Str)) = false := by decide) (he : starEach (e :: es) X.env = (false, eval e X.env) :: starEach es X.env := by rfl) (hpl : (backTo pos (starEach es X.env)).any (·.1) = false := by rfl) :
    EP' X F (.Call (.Name x p) (e :: es) [] pos) (apC G g) := e_call Fn hr I.m I.F.kp I.b ha hl hg hdb he hpl

/-! constants of the module -/
theorem p_gint {x : Str} {i : Int} {t : Tok} {pos : Pos} (hm : X.mg x = some (.int i t)) (hg : Gl X x := by rfl) (hd : (x == ("__debug__" : Str)) = false := by decide) : EP' X F (.Name x pos) (cn (.int i)) := p_const (pe_glob (v := .int i) hg hm ⟨t, rfl⟩ hd) fun _ => .int
theorem p_gdat {x : Str} {a : Addr} {d : PyData} {pos : Pos} (hm : X.mg x = some (.ref a)) (h : ∀ H, R X.K H d (.ref a)) (hg : Gl X x := by rfl) (hd : (x == ("__debug__" : Str)) = false := by decide) : EP' X F (.Name x pos) (cn d) := p_const (pe_glob (v := .ref a) hg hm rfl hd) h
/-- a tuple of texts of the top -/
theorem k_strs {K : PySem.W.Frag} {H : Hp} {a : Addr} {o : Obj} {its : Array Value} {n : Nat} {xs : List Str} (h : K.lookup a = some o) (hc : o.cls = .type "tuple") (hd : o.data = .seq its n) (hz : xs.length ≤ 1000) (hx : Vals (xs.map V.str) its.toList) (hs : xs.all PyData.strOk = true) (hdn : strT (xs.map .str) = true := by rfl) : R K H (.tuple (xs.map .str)) (.ref a) := by
  have ra : ∀ l : List Str, l.all PyData.strOk = true → RA K H (l.map .str) (l.map V.str) := by
    intro l
    induction l with
    | nil => intro _; exact .nil
    | cons x l ih =>
      intro q
      rw [List.all_cons, Bool.and_eq_true] at q
      exact .cons (.str q.1) (ih q.2)
  have hn := hx.length
  rw [List.length_map] at hn
  refine .tup (by rw [List.length_map]; exact small_n hz) (.inr ⟨o, its, n, h, hc, hd, ?_, hx⟩) (ra xs hs) (.inr hdn)
  rw [← Array.length_toList, ← hn]
  exact small_n hz
end
end PL


/-! PL9: dicts of a slot's own, keyed by tuples -/
namespace PL
open PySem PySem.Spec PyProof.Rows L2

def dget (kvs : List (PyData × PyData)) (k : NestedKey) : Option PyData := (kvs.find? fun p => decide (nkOf p.1 = some k)).map (·.2)
def dput (kvs : List (PyData × PyData)) (kd : PyData) (k : NestedKey) (v : PyData) : List (PyData × PyData) :=
  if (kvs.any fun p => decide (nkOf p.1 = some k)) = true then kvs.map fun p => if nkOf p.1 = some k then (p.1, v) else p else kvs ++ [(kd, v)]
def keyOk (kd : PyData) : Rs NestedKey := match kd with
  | .tuple _ => (match nkOf kd with | some k => if k.depth ≤ 8 then .ok k else .no | none => .no)
  | _ => .no
theorem keyOk_iff {kd : PyData} {k : NestedKey} (h : keyOk kd = .ok k) : (∃ ds, kd = .tuple ds) ∧ nkOf kd = some k ∧ k.depth ≤ 8 := by
  unfold keyOk at h
  split at h <;> first | (cases h; done) | skip
  split at h <;> first | (cases h; done) | skip
  split at h <;> first | (cases h; done) | skip
  rename_i h1 h2
  cases h
  exact ⟨⟨_, rfl⟩, h1, h2⟩
section
variable {K : PySem.W.Frag} {G : Hp}
theorem DK.at : ∀ {kvs : List (PyData × PyData)} {xs : List EntK} {k : NestedKey}, DK K G kvs xs → (match dget kvs k with | some d => ∃ ad vl v, atKey xs k = some (ad, vl) ∧ RelV v vl ∧ R K G d v | none => atKey xs k = none)
  | [], _, k, h => by rw [show _ = [] from h]; rfl
  | p :: r, _, k, ⟨nk, ad, vl, v, t, h1, h2, h3, h4, h5, h6, h7⟩ => by
    have ih := DK.at (k := k) h7
    subst h1
    by_cases e : nk = k
    · subst e
      have e1 : dget (p :: r) nk = some p.2 := by unfold dget; rw [List.find?_cons]; simp [h2]
      rw [e1]
      exact ⟨ad, vl, v, by unfold atKey; rw [List.find?_cons]; simp, h5, h6⟩
    · have e1 : dget (p :: r) k = dget r k := by unfold dget; rw [List.find?_cons]; simp [h2, e]
      have e2 : atKey ((nk, ad, vl) :: t) k = atKey t k := by unfold atKey; rw [List.find?_cons]; simp [e]
      rw [e1, e2]
      exact ih
theorem DK.any {kvs : List (PyData × PyData)} {xs : List EntK} {k : NestedKey} (h : DK K G kvs xs) : (kvs.any fun p => decide (nkOf p.1 = some k)) = (atKey xs k).isSome := by
  have q := h.at (k := k)
  unfold dget at q
  cases e : kvs.find? fun p => decide (nkOf p.1 = some k) with
  | none =>
    rw [e] at q
    have q' : atKey xs k = none := q
    rw [q']
    have z := List.find?_eq_none.mp e
    exact Bool.eq_false_iff.mpr fun c => by
      obtain ⟨x, hx, y⟩ := List.any_eq_true.mp c
      exact z x hx y
  | some p =>
    rw [e] at q
    obtain ⟨ad, vl, v, q', _⟩ := q
    rw [q']
    exact List.any_eq_true.mpr ⟨p, List.mem_of_find?_eq_some e, by simpa using List.find?_some e⟩
theorem DK.snoc {kd vd : PyData} {nk : NestedKey} {ad : Addr} {vl : Value} {v : V} (h2 : nkOf kd = some nk) (h3 : nk.depth ≤ 8) (h4 : R K G kd (.ref ad)) (h5 : RelV v vl) (h6 : R K G vd v) : ∀ {kvs : List (PyData × PyData)} {xs : List EntK}, DK K G kvs xs → DK K G (kvs ++ [(kd, vd)]) (xs ++ [(nk, ad, vl)])
  | [], _, h => by rw [show _ = [] from h]; exact ⟨nk, ad, vl, v, [], rfl, h2, h3, h4, h5, h6, rfl⟩
  | p :: r, _, ⟨nk', ad', vl', v', t, h1, g2, g3, g4, g5, g6, g7⟩ => by
    rw [h1]
    exact ⟨nk', ad', vl', v', _, rfl, g2, g3, g4, g5, g6, DK.snoc h2 h3 h4 h5 h6 g7⟩
theorem DK.upd {vd : PyData} {k : NestedKey} {vl : Value} {v : V} (h5 : RelV v vl) (h6 : R K G vd v) : ∀ {kvs : List (PyData × PyData)} {xs : List EntK}, DK K G kvs xs → DK K G (kvs.map fun p => if nkOf p.1 = some k then (p.1, vd) else p) (xs.map (putAt k vl))
  | [], _, h => by rw [show _ = [] from h]; rfl
  | p :: r, _, ⟨nk', ad', vl', v', t, h1, g2, g3, g4, g5, g6, g7⟩ => by
    subst h1
    rw [List.map_cons, List.map_cons]
    by_cases e : nk' = k
    · subst e
      rw [if_pos g2]
      exact ⟨nk', ad', vl, v, _, by unfold putAt; rw [if_pos rfl], g2, g3, g4, h5, h6, DK.upd h5 h6 g7⟩
    · rw [if_neg (by rw [g2]; intro z; exact e (Option.some.inj z))]
      exact ⟨nk', ad', vl', v', _, by unfold putAt; rw [if_neg e], g2, g3, g4, g5, g6, DK.upd h5 h6 g7⟩
theorem DK.put {kd vd : PyData} {k : NestedKey} {ad : Addr} {vl : Value} {v : V} {kvs : List (PyData × PyData)} {xs : List EntK} (h : DK K G kvs xs) (h2 : nkOf kd = some k) (h3 : k.depth ≤ 8) (h4 : R K G kd (.ref ad)) (h5 : RelV v vl) (h6 : R K G vd v) : DK K G (dput kvs kd k vd) (storedH xs k ad vl) := by
  unfold dput
  rw [h.any]
  cases e : atKey xs k with
  | none => rw [storedH_new e, if_neg (by simp)]; exact h.snoc h2 h3 h4 h5 h6
  | some p => rw [storedH_old e, if_pos (by simp)]; exact h.upd h5 h6
theorem dput_len (kvs : List (PyData × PyData)) (kd : PyData) (k : NestedKey) (v : PyData) : (dput kvs kd k v).length ≤ kvs.length + 1 := by
  unfold dput
  split
  · rw [List.length_map]; omega
  · rw [List.length_append, List.length_singleton]; omega
theorem DK.keys : ∀ {kvs : List (PyData × PyData)} {xs : List EntK} {i : Nat} {p : PyData × PyData}, DK K G kvs xs → kvs[i]? = some p → ∃ x, xs[i]? = some x ∧ R K G p.1 (.ref x.2.1)
  | [], _, _, _, _, e => by simp at e
  | q :: r, _, 0, p, ⟨nk', ad', vl', v', t, h1, g2, g3, g4, g5, g6, g7⟩, e => by
    simp at e; subst e h1
    exact ⟨_, rfl, g4⟩
  | q :: r, _, i + 1, p, ⟨nk', ad', vl', v', t, h1, g2, g3, g4, g5, g6, g7⟩, e => by
    subst h1
    obtain ⟨x, e1, e2⟩ := DK.keys (i := i) g7 (by simpa using e)
    exact ⟨x, by simpa using e1, e2⟩
theorem DK.is : ∀ {kvs : List (PyData × PyData)} {xs : List EntK}, DK K G kvs xs → ∀ x ∈ xs, x.1.depth ≤ 8 ∧ ∃ kd, R K G kd (.ref x.2.1) ∧ nkOf kd = some x.1
  | [], _, h, x, hx => by rw [show _ = [] from h] at hx; exact nomatch hx
  | p :: r, _, ⟨nk', ad', vl', v', t, h1, g2, g3, g4, g5, g6, g7⟩, x, hx => by
    subst h1
    rcases List.mem_cons.mp hx with rfl | hx
    · exact ⟨g3, p.1, g4, g2⟩
    · exact DK.is g7 x hx
end
section
variable {X : Cx} {pins : List (Addr × Obj)} {σ : St} {H : Hp} {s : Shared}
mutual
theorem nested_of (I : Inv X pins σ H s) : ∀ (d : PyData) (v : V) (u : Value) (k : NestedKey), R X.K H d v → RelV v u → nkOf d = some k → NestedIs s.heap k u
  | .none, v, u, k, r, rv, e => by rw [nkOf] at e; cases e; rw [r.noneV] at rv; cases rv; exact .none
  | .bool b, v, u, k, r, rv, e => by rw [nkOf] at e; cases e; rw [r.boolV] at rv; cases rv; exact .bool rfl
  | .int i, v, u, k, r, rv, e => by rw [nkOf] at e; cases e; rw [r.intV] at rv; obtain ⟨t, rfl⟩ := rv; exact .int _ _
  | .str x, v, u, k, r, rv, e => by rw [nkOf] at e; cases e; rw [r.strV.1] at rv; obtain ⟨t, rfl⟩ := rv; exact .text _ _
  | .list _, v, u, k, r, rv, e => by simp [nkOf] at e
  | .dict _, v, u, k, r, rv, e => by simp [nkOf] at e
  | .tuple ds, v, u, k, r, rv, e => by
    rw [nkOf] at e
    obtain ⟨ks, e1, e2⟩ := Option.map_eq_some_iff.mp e
    subst e2
    obtain ⟨z, a, xs, rfl, h1, t1⟩ := r.tupV
    cases rv
    obtain ⟨its, rr, ⟨o, ho, hc, n, hd⟩, _⟩ := L2.Inv.tuple I h1
    exact .tup ho hc hd (by simpa using nested_all I ds xs its ks t1 rr e1)
theorem nested_all (I : Inv X pins σ H s) : ∀ (ds : List PyData) (vs : List V) (us : List Value) (ks : List NestedKey), RA X.K H ds vs → Vals vs us → nkAll ds = some ks → NestedAll s.heap ks us
  | [], vs, us, ks, t, rv, e => by rw [nkAll] at e; cases e; rw [t.inv0] at rv; cases rv; exact .nil
  | d :: ds, vs, us, ks, t, rv, e => by
    rw [nkAll] at e
    obtain ⟨k, e1, e⟩ := Option.bind_eq_some_iff.mp e
    obtain ⟨ks', e2, e⟩ := Option.map_eq_some_iff.mp e
    subst e
    obtain ⟨x, r, rfl, h1, h2⟩ := t.inv
    cases rv with
    | cons r1 r2 => exact .cons (nested_of I d x _ k h1 r1 e1) (nested_all I ds r _ ks' h2 r2 e2)
end
theorem dict_h (I : Inv X pins σ H s) {a : Addr} {es : Array DictEntry} {ep : Nat} {xs : List EntK} {N : Addr → Prop} {kvs : List (PyData × PyData)} (h : H a = some (dicO a es ep)) (h5 : es.toList = xs.map (entryOfKey (nestedKind X.prog X.w))) (h6 : (xs.map (·.1)).Nodup) (h7 : DK X.K (hide N H) kvs xs) : s.heap.DictOfH (nestedKind X.prog X.w) a xs := by
  obtain ⟨⟨o, ho, hc, hd⟩, _⟩ := I.hok a _ h
  refine ⟨o, es, ep, ho, hc, hd, h5, fun x hx => ?_, h6⟩
  obtain ⟨g1, kd, g2, g3⟩ := h7.is x hx
  exact ⟨nested_of I kd _ _ _ (g2.mono hide_le) rfl g3, g1⟩
theorem key_h (I : Inv X pins σ H s) {N : Addr → Prop} {kd : PyData} {k : NestedKey} {ad : Addr} (r : R X.K (hide N H) kd (.ref ad)) (e : nkOf kd = some k) (z : k.depth ≤ 8) : (nestedKind X.prog X.w).is s.heap k ad := ⟨nested_of I kd _ _ _ (r.mono hide_le) rfl e, z⟩
theorem dic_ok {P : Program} {w : World} {H' : Hp} {h' : Heap} {a : Addr} {es : Array DictEntry} {ep : Nat} (h : h'.DictRaw a es ep) : ObjOk P w H' h' a (dicO a es ep) :=
  ⟨h, (let ⟨o, ho, _⟩ := h; ⟨o, ho⟩), fun h1 h2 q e => q.at e⟩
end
section
variable {X : Cx} {F : FC}
/-! x = {} -/
def tDic : TE := fun _ H Q => ∀ p, H p = none → (p == sysModules) = false → Q (.ref p) (upd H p (dicO p #[] 0))
theorem e_dic {pos : Pos} : PE X (.Dict [] [] pos) tDic := ⟨fun pins s σ H Q I h => by
  have hb : (s.heap.objs.size == sysModules) = false := (dk_empty (P := X.prog) (w := X.w) (H := H) s.heap I.big).2.1
  exact wpAny_Dict_empty ⟨.ref s.heap.objs.size, _, I.laid (a := s.heap.objs.size) (o := dicO s.heap.objs.size #[] 0) (t' := s.toks) (fun _ _ q => Heap.get?_push_of_some _ q) (Nat.le_refl _) (dic_ok ⟨_, Heap.get?_push_size _ rfl, ⟨rfl, rfl, rfl⟩, rfl⟩), rfl, h _ (I.hok.fresh (Nat.le_refl _)) hb⟩⟩
def sDic (i : Nat) : Ev → Rs Out := fun ρ => .ok (.nx (ρ.set i (some (.odc []))))
theorem Rel.setCell {K : KB} {O : Own} {ρ : Ev} {σ : St} {H H' : Hp} (r : Rel K F O ρ σ H) (s : Same H H') {p : Addr} {c : Cell} {i : Nat} (hp : H p = none) (hl : H' p ≠ none) (ok : ∀ N' O' σ', (∀ a, N' a → nP (NN F O) p a) → O' i = some p → σ'[i]? = some (some (.ref p)) → SlotOk K F.ht N' O' H' i σ' c) (hc : (∀ oc, c ≠ .obj oc) ∧ ∀ j k, c ≠ .prf j k := by exact ⟨by simp, by simp⟩) :
    Rel K F (plusO O i p) (ρ.set i (some c)) (σ.set i (some (.ref p))) H' := by
  have old : ∀ j a, O j = some a → a ≠ p := fun j a h1 z => r.live j a h1 (by rw [z]; exact hp)
  have pl : ∀ {j a}, plusO O i p j = some a → (j = i ∧ a = p) ∨ (¬ (j = i ∧ j < 1000) ∧ O j = some a) := fun {j a} h => by
    unfold plusO at h
    split at h
    · rename_i q; exact .inl ⟨q.1, (Option.some.inj h).symm⟩
    · rename_i q; exact .inr ⟨q, h⟩
  have nn : ∀ a, NN F (plusO O i p) a → nP (NN F O) p a := fun a h => by
    rcases h with h | ⟨j, h⟩
    · exact .inl (.inl h)
    · rcases pl h with ⟨_, e⟩ | ⟨_, e⟩
      · exact .inr e
      · exact .inl (.inr ⟨j, e⟩)
  refine ⟨by rw [List.length_set, List.length_set]; exact r.len, fun j k a h1 h2 => ?_, fun j a h1 => ?_, r.hidl, fun a x q => ⟨s _ _ (r.base a x q).1, fun j h1 => ?_⟩, fun j c' q => ?_, r.obs.set (fun j h => plusO_out (.inr h)) (fun j hj => List.getElem?_set_ne (Ne.symm hj)) (fun oc z => hc.1 oc (Option.some.inj z)) (fun j k z => hc.2 j k (Option.some.inj z))⟩
  · rcases pl h1 with ⟨e1, e2⟩ | ⟨e1, e2⟩ <;> rcases pl h2 with ⟨e3, e4⟩ | ⟨e3, e4⟩
    · rw [e1, e3]
    · exact absurd e2 (old _ _ e4)
    · exact absurd e4 (old _ _ e2)
    · exact r.inj _ _ _ e2 e4
  · rcases pl h1 with ⟨_, e⟩ | ⟨_, e⟩
    · rw [e]; exact hl
    · exact same_ne s (r.live j a e)
  · rcases pl h1 with ⟨_, e⟩ | ⟨_, e⟩
    · have := (r.base a x q).1
      rw [e, hp] at this; exact nomatch this
    · exact (r.base a x q).2 j e
  · rcases set_get q with ⟨rfl, e, hi⟩ | ⟨hj, q⟩
    · cases e
      exact ok _ _ _ nn (if_pos ⟨rfl, by have := r.obs.sz; omega⟩) (by rw [List.getElem?_set_self (by rw [r.len]; exact hi)])
    · have base := r.slots j c' q
      have mv : Same (hide (NN F O) H) (hide (NN F (plusO O i p)) H') := fun a o e => by
        obtain ⟨e1, e2⟩ := hide_some e
        exact hide_of (fun z => (nn a z).elim e1 fun z => by rw [z, hp] at e2; exact nomatch e2) (s _ _ e2)
      exact base.move mv (fun j' h' => plusO_out (out_of hj (own_big h'))) (List.getElem?_set_ne (Ne.symm hj)) fun _ a x _ _ q => s a x q
theorem Rel.mutCell {K : KB} {O : Own} {ρ : Ev} {σ : St} {H : Hp} (r : Rel K F O ρ σ H) {i : Nat} {a : Addr} {ob : HO} {c : Cell} (ha : O i = some a) (hi : i < ρ.length) (ok : ∀ H', H' = upd H a ob → Same (hide (NN F O) H) (hide (NN F O) H') → SlotOk K F.ht (NN F O) O H' i σ c) (hc : (∀ oc, c ≠ .obj oc) ∧ ∀ j k, c ≠ .prf j k := by exact ⟨by simp, by simp⟩) :
    Rel K F O (ρ.set i (some c)) σ (upd H a ob) ∧ Same (hide (NN F O) H) (hide (NN F O) (upd H a ob)) := by
  have vis : Same (hide (NN F O) H) (hide (NN F O) (upd H a ob)) := fun b o e => by
    obtain ⟨e1, e2⟩ := hide_some e
    exact hide_of e1 (by rw [upd_ne (fun z => e1 (.inr ⟨i, by rw [z]; exact ha⟩))]; exact e2)
  refine ⟨⟨by rw [List.length_set]; exact r.len, r.inj, fun j b h1 => ?_, r.hidl, fun b x q => ⟨?_, (r.base b x q).2⟩, fun j c' q => ?_, r.obs.set (fun _ _ => rfl) (fun _ _ => rfl) (fun oc z => hc.1 oc (Option.some.inj z)) (fun j k z => hc.2 j k (Option.some.inj z))⟩, vis⟩
  · by_cases e : b = a
    · rw [e, upd_same]; simp
    · rw [upd_ne e]; exact r.live j b h1
  · rw [upd_ne (fun z => (r.base b x q).2 i (by rw [z]; exact ha))]; exact (r.base b x q).1
  · rcases set_get q with ⟨rfl, e, hi⟩ | ⟨hj, q⟩
    · cases e
      exact ok _ rfl vis
    · have base := r.slots j c' q
      exact base.move vis (fun _ _ => rfl) rfl fun j' b x hj' h1 h3 => by rw [upd_ne (fun z => own_ne r hj hi hj' (r.inj _ _ _ h1 (by rw [z]; exact ha)))]; exact h3
theorem s_dic {st : Stmt} {i : Nat} (h : PS X st (tAsg tDic (gName i))) : SP' X F st (sDic i) := wkS h fun D σ H ⟨O, ρ, o, r, e, p⟩ => by
  cases e
  intro a hp hs
  have e1 : upd H a (dicO a #[] 0) a = some (dicO a #[] 0) := upd_same
  refine p _ _ _ (r.setCell (same_upd hp) (i := i) (c := .odc []) hp (by rw [e1]; simp) fun N' O' σ' hn hO hσ => ?_) (own_vis r (same_upd hp) hp)
  exact ⟨Nat.zero_le _, a, _, _, [], hO, hσ, e1, hs, rfl, List.nodup_nil, rfl⟩

/-! x[k] -/
def dgetE (i : Nat) (fk : Ev → Rs PyData) : Ev → Rs PyData := fun ρ => match getC ρ i with
  | some (.odc kvs) => (fk ρ).bnd fun kd => (keyOk kd).bnd fun k => match dget kvs k with | some d => .ok d | none => .no
  | _ => .no
theorem p_dget {x : Str} {pos pos' : Pos} {ix : Expr} {fk : Ev → Rs PyData} (hu : X.A.units + 64 < cLine) (i : Nat) (ho : PE X (.Name x pos) (tVar i)) (hi : EP' X F ix fk) (hs : NoSl ix) : EP' X F (.Subscript (.Name x pos) ix pos') (dgetE i fk) := by
  refine ⟨fun pins s σ H Q I ⟨O, ρ, d, r, e, q⟩ => ?_⟩
  unfold dgetE at e
  split at e <;> first | (cases e; done) | skip
  rename_i kvs hc
  obtain ⟨kd, ek, e⟩ := Rs.bnd_eq e
  obtain ⟨k, eko, e⟩ := Rs.bnd_eq e
  split at e <;> first | (cases e; done) | skip
  rename_i d' hg
  cases e
  obtain ⟨⟨kds, rfl⟩, e3, e4⟩ := keyOk_iff eko
  obtain ⟨z, a, es, ep, xs, h1, h2, h3, h4, h5, h6, h7⟩ := r.slots i _ (getC_iff.mp hc)
  refine subD_of PySem.F.slot_dict_getitem.lookup hs (thn (ho.run pins s σ H (fun y H1 => y = .ref a ∧ H1 = H) I ⟨_, h2, rfl, rfl⟩) fun u s1 ⟨y, H1, I1, rx, ey, eH⟩ => ?_)
  subst ey eH
  obtain rfl : u = Value.ref a := rx
  refine thn (hi.run pins s1 σ _ (fun v H2 => Same H1 H2 ∧ R X.K (hide (NN F O) H2) (.tuple kds) v) I1 ⟨O, ρ, _, r, ek, fun v H' s' r' => ⟨s', r'⟩⟩) fun iv s2 ⟨y, H2, I2, ry, sm, rk⟩ => ?_
  obtain ⟨_, b, bs, rfl, hb, _⟩ := rk.tupV
  obtain rfl : iv = Value.ref b := ry
  have dd := dict_h I2 (sm _ _ h3) h5 h6 (h7.mono (hide_same sm))
  refine ⟨dd.typeIs, ?_⟩
  have q1 := h7.at (k := k)
  rw [hg] at q1
  obtain ⟨ad, vl, v, g1, g2, g3⟩ := q1
  refine wpAny_getItem_heap (show (nestedKind X.prog X.w).room X.A.in1 by show X.A.in1.units + 8 < cLine; show X.A.units + 1 + 8 < cLine; omega) (key_h I2 rk e3 e4) dd g1 ?_
  exact ⟨v, H2, I2.tok _, g2, q v H2 sm (g3.mono (hide_same sm))⟩
/-! x[k] = v -/
def sDput (i : Nat) (fk fv : Ev → Rs PyData) : Ev → Rs Out := fun ρ => match getC ρ i with
  | some (.odc kvs) => (fv ρ).bnd fun d => (fk ρ).bnd fun kd => (keyOk kd).bnd fun k => if kvs.length < sizeLine then .ok (.nx (ρ.set i (some (.odc (dput kvs kd k d))))) else .no
  | _ => .no
theorem s_dput {x : Str} {pos pos' pos'' : Pos} {ix value : Expr} {fk fv : Ev → Rs PyData} (hu : X.A.units + 64 < cLine) (i : Nat) (ho : PE X (.Name x pos) (tVar i)) (hi : EP' X F ix fk) (hv : EP' X F value fv) (hs : swapsWith value (some (.Subscript (.Name x pos) ix pos')) pos''.line X.env = pure false := by rfl) :
    SP' X F (.Assign [.Subscript (.Name x pos) ix pos'] value pos'') (sDput i fk fv) := by
  refine ⟨fun pins s σ H D I ⟨O, ρ, o, r, e, p⟩ => ?_⟩
  unfold sDput at e
  split at e <;> first | (cases e; done) | skip
  rename_i kvs hc
  obtain ⟨d, ed, e⟩ := Rs.bnd_eq e
  obtain ⟨kd, ek, e⟩ := Rs.bnd_eq e
  obtain ⟨k, eko, e⟩ := Rs.bnd_eq e
  split at e <;> first | (cases e; done) | skip
  rename_i hz
  cases e
  obtain ⟨⟨kds, rfl⟩, e3, e4⟩ := keyOk_iff eko
  obtain ⟨z, a, es, ep, xs, h1, h2, h3, h4, h5, h6, h7⟩ := r.slots i _ (getC_iff.mp hc)
  refine wpAny_Assign_Subscript (thn (hv.run pins s σ H (fun v H1 => Same H H1 ∧ R X.K (hide (NN F O) H1) d v) I ⟨O, ρ, _, r, ed, fun v H' s' r' => ⟨s', r'⟩⟩) fun rv s1 ⟨v, H1, I1, rrv, sm1, rd⟩ =>
    thn (ho.run pins s1 σ H1 (fun y H2 => y = .ref a ∧ H2 = H1) I1 ⟨_, h2, rfl, rfl⟩) fun u s2 ⟨y, H2, I2, rx, ey, eH⟩ => ?_) hs
  subst ey eH
  obtain rfl : u = Value.ref a := rx
  refine thn (hi.run pins s2 σ _ (fun v H3 => Same H2 H3 ∧ R X.K (hide (NN F O) H3) (.tuple kds) v) I2 ⟨O, ρ, _, r.mono sm1, ek, fun v H' s' r' => ⟨s', r'⟩⟩) fun iv s3 ⟨y, H3, I3, ry, sm2, rk⟩ => ?_
  obtain ⟨_, b, bs, rfl, hb, _⟩ := rk.tupV
  obtain rfl : iv = Value.ref b := ry
  have sm := sm1.trans sm2
  have dk3 := h7.mono (hide_same (N := NN F O) sm)
  have dd := dict_h I3 (sm _ _ h3) h5 h6 dk3
  refine wpAny_setItem_heap (hsz := by rw [dk3.len]; exact z) (show (nestedKind X.prog X.w).room X.A.in1 by show X.A.in1.units + 8 < cLine; show X.A.units + 1 + 8 < cLine; omega) (key_h I3 rk e3 e4) dd fun h' dd' hs' => ?_
  obtain ⟨q, es', ep', hq, g2, g3, g4, _, g5⟩ := dd'
  have I4 : Inv X pins σ (upd H3 a (dicO a es' ep')) { s3 with heap := h', toks := s3.toks + (nestedKind X.prog X.w).draws k } := d_write I3 (by rw [sm _ _ h3]; exact True.intro) hs' ⟨q, hq⟩ (dic_ok ⟨q, hq, g2, g3⟩)
  refine ⟨σ, _, I4, ?_⟩
  have dkn := dk3.put e3 e4 rk rrv (rd.mono (hide_same sm2))
  obtain ⟨m1, m2⟩ := (r.mono sm).mutCell (i := i) (ob := dicO a es' ep') (c := .odc (dput kvs (.tuple kds) k d)) h1 (List.getElem?_eq_some_iff.mp (getC_iff.mp hc)).1 (hc := ⟨by simp, by simp⟩) fun H' eH vis => by
    subst eH
    exact ⟨Nat.le_trans (dput_len _ _ _ _) (by omega), a, es', ep', _, h1, h2, upd_same, h4, g4, g5, dkn.mono vis⟩
  exact p O _ _ m1 ((hide_same sm).trans m2)
/-! the keys -/
def Itkn (a : Addr) (es : Array DictEntry) (ep : Nat) : It :=
  ⟨fun i H => H a = some (dicO a es ep) ∧ i < es.size, fun i H x H' => H' = H ∧ ∃ en q, es[i]? = some en ∧ en.key = .ref q ∧ x = .ref q, fun i H => H a = some (dicO a es ep) ∧ es.size ≤ i⟩
theorem turn_keysN {P : Program} {w : World} {K : PySem.W.Frag} {tg : Expr} {a : Addr} {es : Array DictEntry} {ep : Nat} (it : Addr) (hk : ∀ (i : Nat) en, es[i]? = some en → ∃ q, en.key = .ref q) : Turn P w K tg (Itkn a es ep) [it] it (fun i h => h.IsKeyIter it a i es.size ep) where
  mem := by simp
  obj := fun i h st b hb => by
    have e : b = it := by simpa using hb
    subst e
    obtain ⟨oi, e, c, dd⟩ := st
    exact ⟨oi, e, fun v z => by rw [dd] at z; cases z⟩
  keep := fun i h h' st k => st.at fun oi e => k it (by simp) oi e
  item := by
    intro X hP hw hK hc i pins s σ H E I hf st hg
    subst hP hw hK
    obtain ⟨hd, hi⟩ := hg
    obtain ⟨f0, f1, f2, f3, f4, f5⟩ := hf it (by simp)
    have e0 : es[i]? = some es[i] := Array.getElem?_eq_getElem hi
    obtain ⟨q, hq⟩ := hk i _ e0
    refine wpAny_pyNext_keys_item_raw st (I.hok a _ hd).1 hi fun h' st' sb => ?_
    have I1 : Inv X pins σ H { s with heap := h' } := I.turned (t' := s.toks) (fun b ob hb e => (sb.2 b hb).trans e) f0 f1 f3 f4 f5
    obtain ⟨oi, e, c, dd⟩ := id st'
    exact ⟨es[i].key, rfl, go_of (s := { s with heap := h' }) e c dd (by decide) ⟨.ref q, H, I1, hq, ⟨rfl, _, q, e0, hq, rfl⟩, st', fun b hb => (hf b hb).1⟩⟩
  done := by
    intro X hP hw hK hc i pins s σ H E I hf st hg
    subst hP hw hK
    obtain ⟨hd, hi⟩ := hg
    obtain ⟨f0, f1, f2, f3, f4, f5⟩ := hf it (by simp)
    exact wpAny_pyNext_keys_end_raw (I.ok.hd hc) st (I.hok a _ hd).1 hi fun h' eb => ⟨rfl, I.turned (t' := s.toks) (fun b ob hb e => eb b ob hb e) f0 f1 f3 f4 f5⟩
  self := fun A i s Q E st h => wpAny_pyIter_keyiter st h
theorem wk_dict {tq : Tg} {K : PySem.W.Frag} {P : Program} {w : World} {B E : Hp} {a : Addr} {es : Array DictEntry} {ep : Nat} {kvs : List (PyData × PyData)} {xs : List EntK} (z : kvs.length ≤ sizeLine) (h : B a = some (dicO a es ep)) (h5 : es.toList = xs.map (entryOfKey (nestedKind P w))) (t : DK K E kvs xs) : Wk tq K B E (Itkn a es ep) (kvs.map (·.1)) := by
  have ln : es.size = kvs.length := by rw [← Array.length_toList, h5, List.length_map, t.len]
  refine ⟨by rw [List.length_map]; exact z, fun H i s hi => ⟨s _ _ h, by rw [List.length_map] at hi; omega⟩, fun H s => ⟨s _ _ h, by rw [List.length_map]; omega⟩, fun H i x H' s hi y => ?_⟩
  obtain ⟨e, en, q, y1, y2, y3⟩ := y
  subst e y3
  rw [List.length_map] at hi
  obtain ⟨p, hp⟩ : ∃ p, kvs[i]? = some p := ⟨_, List.getElem?_eq_getElem hi⟩
  obtain ⟨u, e1, e2⟩ := t.keys hp
  have e3 : es.toList[i]? = some en := by rw [Array.getElem?_toList]; exact y1
  rw [h5, List.getElem?_map, e1] at e3
  cases e3
  have e4 : u.2.1 = q := by have : Value.ref u.2.1 = Value.ref q := y2; cases this; rfl
  rw [e4] at e2
  exact ⟨Same.refl _, p.1, by rw [List.getElem?_map, hp]; rfl, fun N hn se => .of (e2.mono se)⟩
def dkeysL (i : Nat) : Ev → Rs (List PyData) := fun ρ => match getC ρ i with | some (.odc kvs) => .ok (kvs.map (·.1)) | _ => .no
theorem j_dict {t : Tg} {tg : Expr} {x : Str} {pos : Pos} (i : Nat) (ho : PE X (.Name x pos) (tVar i)) : PI X tg (.Name x pos) (tJ X.kb F t (dkeysL i)) := by
  refine ⟨fun pins s σ H R I ⟨O, ρ, ds, r, e, q⟩ => ?_⟩
  unfold dkeysL at e
  split at e <;> first | (cases e; done) | skip
  rename_i kvs hc
  cases e
  obtain ⟨z, a, es, ep, xs, h1, h2, h3, h4, h5, h6, h7⟩ := r.slots i _ (getC_iff.mp hc)
  refine thn (ho.run pins s σ H (fun y H1 => y = .ref a ∧ H1 = H) I ⟨_, h2, rfl, rfl⟩) fun u s1 ⟨y, H1, I1, rx, ey, eH⟩ => ?_
  subst ey eH
  obtain rfl : u = Value.ref a := rx
  refine wpAny_pyIter_dict_raw h4 (I1.hok a _ h3).1 (pi_one (tk := s1.toks) I1 _ (turn_keysN _ fun i en e => ?_) ⟨_, Heap.get?_push_size _ rfl, rfl, rfl⟩ (q _ H1 (Same.refl _) (wk_dict z h3 h5 h7)))
  have e' : es.toList[i]? = some en := by rw [Array.getElem?_toList]; exact e
  rw [h5, List.getElem?_map] at e'
  obtain ⟨y, _, y2⟩ := Option.map_eq_some_iff.mp e'
  subst y2
  exact ⟨_, rfl⟩
/-! {} as a value, list(range(..)) -/
theorem e_empty {pos : Pos} : EP' X F (.Dict [] [] pos) (cn (.dict [])) := wkE pe_dnewK fun σ H Q ⟨O, ρ, d, r, e, q⟩ p hp => by
  have e' : d = .dict [] := (Rs.ok.inj e).symm
  subst e'
  exact q _ _ (same_upd hp) (by rw [R]; exact ⟨[], rfl, p, rfl, hide_of (fun z => r.nlive z hp) upd_same⟩)
theorem ra_range {K : PySem.W.Frag} {H : Hp} {lo : Int} : ∀ l : List Nat, RA K H (l.map fun (k : Nat) => .int (lo + (k : Int))) (l.map fun i => V.int (lo + (i : Nat)))
  | [] => .nil
  | _ :: r => .cons .int (ra_range r)
theorem sz_range {n : Nat} (h : n ≤ 16777216) : n ≤ sizeLine := by rw [sizeLine_eq]; omega
theorem n_listRange1 {a : Expr} {f : Ev → Rs PyData} {p p2 pos pos2 : Pos} (hc : X.calm = true) (hg : Gl X "list") (hm : X.mg "list" = none) (hg2 : Gl X "range") (hm2 : X.mg "range" = none) (ha : EP' X F a f)
    (na : starEach [a] X.env = (false, eval a X.env) :: starEach [] X.env := by rfl) (nb : starEach [Expr.Call (.Name "range" p2) [a] [] pos2] X.env = (false, eval (Expr.Call (.Name "range" p2) [a] [] pos2) X.env) :: starEach [] X.env := by rfl) :
    NP' X F (.Call (.Name "list" p) [.Call (.Name "range" p2) [a] [] pos2] [] pos) (apN rng1 (aC f aN)) :=
  wkE (pe_listRg hc hg hm (prg_1 hg2 hm2 ha na) nb) fun σ H Q ⟨O, ρ, ds, r, e, q⟩ => by
    obtain ⟨l, el, e⟩ := Rs.bnd_eq e
    obtain ⟨d1, e1, el⟩ := Rs.bnd_eq el
    cases el
    unfold rng1 at e
    split at e <;> first | (cases e; done) | skip
    rename_i j hj
    cases hj
    split at e <;> first | (cases e; done) | skip
    rename_i hz
    rw [rgMax_eq] at hz
    cases e
    refine ⟨O, ρ, _, r, e1, fun v H1 s1 r1 => ⟨j, r1.intV, ⟨by omega, by omega, by omega, by omega, by omega⟩, fun p hp => ?_⟩⟩
    have ln : (rangeL 0 j.toNat).length = j.toNat := by simp [rangeL]
    refine q p _ _ (s1.trans (same_upd hp)) (s1.free hp) upd_same (by rw [ln]; exact sz_range (by omega)) ?_
    unfold rgV rangeL
    rw [show (j - 0).toNat = j.toNat by omega]
    exact ra_range _
theorem n_listRange2 {a b : Expr} {f g : Ev → Rs PyData} {p p2 pos pos2 : Pos} (hc : X.calm = true) (hg : Gl X "list") (hm : X.mg "list" = none) (hg2 : Gl X "range") (hm2 : X.mg "range" = none) (ha : EP' X F a f) (hb : EP' X F b g)
    (na : starEach [a, b] X.env = (false, eval a X.env) :: starEach [b] X.env := by rfl) (nb : starEach [b] X.env = (false, eval b X.env) :: starEach [] X.env := by rfl) (hp : (backTo pos2 (starEach [b] X.env)).any (·.1) = false := by rfl)
    (nc : starEach [Expr.Call (.Name "range" p2) [a, b] [] pos2] X.env = (false, eval (Expr.Call (.Name "range" p2) [a, b] [] pos2) X.env) :: starEach [] X.env := by rfl) :
    NP' X F (.Call (.Name "list" p) [.Call (.Name "range" p2) [a, b] [] pos2] [] pos) (apN rng2 (aC f (aC g aN))) :=
  wkE (pe_listRg hc hg hm (prg_2 hg2 hm2 ha hb na nb hp) nc) fun σ H Q ⟨O, ρ, ds, r, e, q⟩ => by
    obtain ⟨l, el, e⟩ := Rs.bnd_eq e
    obtain ⟨d1, e1, el⟩ := Rs.bnd_eq el
    obtain ⟨l2, el2, el⟩ := Rs.bnd_eq el
    obtain ⟨d2, e2, el2⟩ := Rs.bnd_eq el2
    cases el2
    cases el
    unfold rng2 at e
    split at e <;> first | (cases e; done) | skip
    rename_i i j hj
    cases hj
    split at e <;> first | (cases e; done) | skip
    rename_i hz
    rw [rgMax_eq] at hz
    cases e
    refine ⟨O, ρ, _, r, e1, fun v H1 s1 r1 => ⟨O, ρ, _, r.mono s1, e2, fun v2 H2 s2 r2 => ⟨i, j, r1.intV, r2.intV, ⟨by omega, by omega, by omega, by omega, by omega⟩, fun p hp => ?_⟩⟩⟩
    have ln : (rangeL i (j - i).toNat).length = (j - i).toNat := by simp [rangeL]
    refine q p _ _ ((s1.trans s2).trans (same_upd hp)) ((s1.trans s2).free hp) upd_same (by rw [ln]; exact sz_range (by omega)) ?_
    unfold rgV rangeL
    exact ra_range _
/-! a call as a statement; what never comes to an end -/
def sDo (f : Ev → Rs PyData) : Ev → Rs Out := fun ρ => (f ρ).bnd fun _ => .ok (.nx ρ)
theorem s_do {e : Expr} {f : Ev → Rs PyData} {pos : Pos} (h : EP' X F e f) (hs : swapsWith e none pos.line X.env = pure false := by rfl) : SP' X F (.Expr e pos) (sDo f) := wkS (ps_expr h hs) fun D σ H ⟨O, ρ, o, r, e, p⟩ => by
  obtain ⟨d, ed, e⟩ := Rs.bnd_eq e
  cases e
  exact ⟨O, ρ, d, r, ed, fun v H' s r' => p O σ H' (r.mono s) (hide_same s)⟩
theorem ss_never {sts : List Stmt} : SSP' X F sts (fun _ => .no) := ⟨fun pins s σ H D I ⟨O, ρ, o, r, e, p⟩ => nomatch e⟩
end
/-! comprehensions within comprehensions -/
def relabS (scope sc0 : Scope) : Scope := { scope with names := scope.names.map fun (n, k) => if (k == .free && sc0.kind == .function && sc0.names.lookup n == some .cell) then (n, .cell) else (n, k) }
theorem blkOk_in {N : List Str} {scope scope' sc0 : Scope} {env : Env} {cl : List (Str × Addr)} {C : Addr} {own : List (Str × Nat)} (e : env.scope = sc0) (h : blkC N (relabS scope sc0) scope' own = true) : BlkOk N (compEnvC scope cl C env).scope scope' own := by
  subst e
  exact blkOk_by h
end PL


/-! PL10: comprehensions of two sources -/
namespace PL
open PySem PySem.Spec PyProof.Rows L2
def comp2L (t : Tg) (cond : Ev → Rs Bool) (it1 : Ev → Rs (List PyData)) (t1 : Tg) (vs1 : List Nat) (cond1 : Ev → Rs Bool) (elt : Ev → Rs PyData) (ρ : Ev) : List PyData → Rs (List PyData)
  | [] => .ok []
  | d :: r => (tgt t d ρ).bnd fun ρ1 => (cond ρ1).bnd fun b => if b = true then (it1 ρ1).bnd fun ds1 => (compL t1 cond1 elt (wipeE ρ1 vs1) ds1).bnd fun ys => (comp2L t cond it1 t1 vs1 cond1 elt ρ r).bnd fun zs => .ok (ys ++ zs) else comp2L t cond it1 t1 vs1 cond1 elt ρ r
def comp2 (it : Ev → Rs (List PyData)) (t : Tg) (own : List Nat) (cond : Ev → Rs Bool) (it1 : Ev → Rs (List PyData)) (t1 : Tg) (vs1 : List Nat) (cond1 : Ev → Rs Bool) (elt : Ev → Rs PyData) : Ev → Rs (List PyData) := fun ρ => (it ρ).bnd fun ds => (comp2L t cond it1 t1 vs1 cond1 elt (wipeE ρ own) ds).bnd fun ys => if ys.length ≤ sizeLine then .ok ys else .no
def iE (K : KB) (t : Tg) (g : Ev → Rs (List PyData)) : TI := fun σ H RR => ∃ F, tI K F t g σ H RR
theorem all_i {X : Cx} {t : Tg} {tg e : Expr} {g : Ev → Rs (List PyData)} (h : ∀ F, PI X tg e (tI X.kb F t g)) : PI X tg e (iE X.kb t g) := ⟨fun pins s σ H Q I ⟨F, q⟩ => (h F).run pins s σ H Q I q⟩
theorem rel_re {K : KB} {F : FC} {O O' : Own} {ρ : Ev} {σ : St} {Ha H H' : Hp} {D : Addr} {vs : List Nat} (r : Rel K (fcAt F O vs Ha D) O' ρ σ H) (off : ∀ a x, a ≠ D → H a = some x → H' a = some x) (ha : Ha D ≠ none) (hD : H' D ≠ none) : Rel K (fcAt F O vs H' D) O' ρ σ H' := by
  have oD : ∀ i, O' i ≠ some D := by
    cases e : Ha D with
    | none => exact absurd e ha
    | some x => exact (r.base D x (by show (if D = D then Ha D else _) = some x; rw [if_pos rfl]; exact e)).2
  have old : ∀ a, a ≠ D → F.H0 a = none → (∃ i, (i ∈ vs ∧ i < 1000) ∧ O i = some a) → ∃ y, H a = some y ∧ ∀ i, O' i ≠ some a := fun a e q hx => by
    have h1 := r.hidl a (.inr (.inr hx))
    cases e1 : (fcAt F O vs Ha D).H0 a with
    | none => exact absurd e1 h1
    | some y => exact ⟨y, r.base a y e1⟩
  refine ⟨r.len, r.inj, fun i a h => ?_, fun a h => ?_, fun a x h => ?_, fun i c q => ?_, r.obs⟩
  · have := r.live i a h
    cases e : H a with
    | none => exact absurd e this
    | some x => rw [off a x (fun z => oD i (by rw [← z]; exact h)) e]; simp
  · show (if a = D then H' D else match F.H0 a with | some x => some x | none => _) ≠ none
    by_cases e : a = D
    · rw [if_pos e]; exact hD
    · rw [if_neg e]
      cases q : F.H0 a with
      | some x => simp
      | none =>
        simp only
        have hx : ∃ i, (i ∈ vs ∧ i < 1000) ∧ O i = some a := by
          rcases h with h | h | h
          · have h1 := r.hidl a (.inl h)
            by_cases hx : ∃ i, (i ∈ vs ∧ i < 1000) ∧ O i = some a
            · exact hx
            · refine absurd ?_ h1
              show (if a = D then Ha D else match F.H0 a with | some x => some x | none => _) = none
              rw [if_neg e, q]
              simp only
              rw [if_neg hx]
          · exact absurd h e
          · exact h
        rw [if_pos hx]
        obtain ⟨y, hy, _⟩ := old a e q hx
        rw [off a y e hy]; simp
  · have h' : (if a = D then H' D else match F.H0 a with | some x => some x | none => (open Classical in if ∃ i, (i ∈ vs ∧ i < 1000) ∧ O i = some a then H' a else none)) = some x := h
    by_cases e : a = D
    · rw [if_pos e] at h'
      exact ⟨by rw [e]; exact h', fun i z => oD i (by rw [← e]; exact z)⟩
    · rw [if_neg e] at h'
      cases q : F.H0 a with
      | some y =>
        rw [q] at h'
        simp only at h'
        cases h'
        obtain ⟨b1, b2⟩ := r.base a x (by show (if a = D then Ha D else match F.H0 a with | some x => some x | none => _) = _; rw [if_neg e, q])
        exact ⟨off a x e b1, b2⟩
      | none =>
        rw [q] at h'
        simp only at h'
        split at h'
        · rename_i hx
          exact ⟨h', (old a e q hx).elim fun y hy => hy.2⟩
        · exact nomatch h'
  · refine (r.slots i c q).move (fun a o e => ?_) (fun _ _ => rfl) rfl fun j a x _ q e => off a x (fun z => oD j (by rw [← z]; exact q)) e
    obtain ⟨e1, e2⟩ := hide_some e
    exact hide_of e1 (off a o (fun z => e1 (.inl (.inr (.inl z)))) e2)
theorem nn_eq {F : FC} {O : Own} {vs : List Nat} {H : Hp} {D : Addr} : NN (fcAt F O vs H D) (outO O vs) = nP (NN F O) D := funext fun a => propext (nn_at a)
section
variable {X : Cx} {F : FC}
theorem lc2_read {it it1 : Ev → Rs (List PyData)} {t t1 : Tg} {vs vs1 : List Nat} {cond cond1 : Ev → Rs Bool} {elt : Ev → Rs PyData} (hsl : ∀ i ∈ t.slots, i ∈ vs) (hsl1 : ∀ i ∈ t1.slots, i ∈ vs1) (hv : ∀ i ∈ vs1, i ∈ vs) (σ : St) (H : Hp) (Q : VK) (h : tN X.kb F (comp2 it t vs cond it1 t1 vs1 cond1 elt) σ H Q) :
    tLc2 (tJ X.kb F t it) (gE X.kb t) (tTE X.kb cond) (iE X.kb t1 it1) (gE X.kb t1) (tTE X.kb cond1) (tPE X.kb elt) vs vs1 σ H Q := by
  obtain ⟨O, ρ, ys, r, e, q⟩ := h
  obtain ⟨ds, ed, e⟩ := Rs.bnd_eq e
  obtain ⟨ys', e, ez⟩ := Rs.bnd_eq e
  split at ez <;> first | (cases ez; done) | skip
  rename_i lenY
  cases ez
  refine ⟨O, ρ, ds, r, ed, fun J H1 s1 w D hD => ?_⟩
  have r1 := r.mono s1
  let P : Nat → Hp → Prop := fun i H => ∃ acc yd yr, H D = some (.lst acc) ∧ Same H1 H ∧ RA X.K (hide (nP (NN F O) D) H) yd acc ∧ comp2L t cond it1 t1 vs1 cond1 elt (wipeE ρ vs) (ds.drop i) = .ok yr ∧ ys = yd ++ yr ∧ i ≤ ds.length
  have s0 : Same H1 (upd H1 D (.lst [])) := same_upd hD
  refine ⟨fun i m H => m = ds.length - i ∧ P i H, ⟨_, rfl, [], [], ys, upd_same, s0, .nil, by rw [List.drop_zero]; exact e, rfl, Nat.zero_le _⟩, ?_⟩
  rintro i m H2 ⟨rfl, acc, yd, yr, hl, sm, ra, ec, ey, hi⟩
  by_cases hlt : i < ds.length
  · refine .inr ⟨w.go H2 i sm hlt, P (i + 1), fun H' p => ⟨ds.length - (i + 1), by omega, rfl, p⟩, fun x H3 y => ?_⟩
    obtain ⟨s3, d, edd, rd⟩ := w.yld H2 i x H3 sm hlt y
    have hl3 := s3 _ _ hl
    have rel3 := rel_at (vs := vs) (H := H3) r1 hD (sm.trans s3) hl3
    have edrop : ds.drop i = d :: ds.drop (i + 1) := by
      rw [List.drop_eq_getElem_cons hlt]
      rw [List.getElem?_eq_getElem hlt] at edd
      rw [Option.some.inj edd]
    rw [edrop] at ec
    unfold comp2L at ec
    obtain ⟨ρ1, e1, ec⟩ := Rs.bnd_eq ec
    obtain ⟨b, e2, ec⟩ := Rs.bnd_eq ec
    have live2 : ∀ a, NN (fcAt F O vs H3 D) (outO O vs) a → H2 a ≠ none := fun a z => by
      rcases (nn_at a).mp z with z | z
      · exact same_ne sm (r1.nlive z)
      · rw [z, hl]; simp
    have seen : Same (hide (NN F O) H1) (hide (NN (fcAt F O vs H3 D) (outO O vs)) H2) := fun a o e => by
      obtain ⟨e1, e2⟩ := hide_some e
      exact hide_of (fun z => ((nn_at a).mp z).elim e1 fun z => by rw [z, hD] at e2; exact nomatch e2) (sm _ _ e2)
    refine ⟨fcAt F O vs H3 D, outO O vs, wipeE ρ vs, d, ρ1, rel3, rd _ live2 seen, e1, fun O' σ' g => ?_⟩
    have eO : O' = outO O vs := g.own fun j hj => fun hb => by unfold outO; rw [if_pos ⟨hsl j hj, hb⟩]
    subst eO
    refine ⟨?_, fcAt F O vs H3 D, outO O vs, ρ1, b, g.rel, e2, fun H4 s4 => ?_⟩
    · rw [wipe_eq (σ := L2.wipe σ vs) (fun j hj => g.out j fun z => hj (hsl j z)) g.len, wipe_wipe]
    · have rel4 := g.rel.mono s4
      cases b with
      | true =>
        simp only [if_true] at ec ⊢
        obtain ⟨ds1, e3, ec⟩ := Rs.bnd_eq ec
        obtain ⟨us, e4, ec⟩ := Rs.bnd_eq ec
        obtain ⟨zs, e5, ec⟩ := Rs.bnd_eq ec
        cases ec
        refine ⟨fcAt F O vs H3 D, outO O vs, ρ1, ds1, rel4, e3, fun J1 H5 s5 w1 => ?_⟩
        have rel5 := rel4.mono s5
        have s25 : Same H2 H5 := (s3.trans s4).trans s5
        have hl5 := s25 _ _ hl
        rw [nn_eq] at w1
        let P1 : Nat → Hp → Prop := fun j H => ∃ acc yd yr, H D = some (.lst acc) ∧ (∀ a x, a ≠ D → H5 a = some x → H a = some x) ∧ RA X.K (hide (nP (NN F O) D) H) yd acc ∧ compL t1 cond1 elt (wipeE ρ1 vs1) (ds1.drop j) = .ok yr ∧ ys = yd ++ (yr ++ zs) ∧ j ≤ ds1.length
        refine ⟨fun j k H => k = ds1.length - j ∧ P1 j H, ⟨_, rfl, acc, yd, us, hl5, fun a x _ q => q, ra.mono (hide_same s25), by rw [List.drop_zero]; exact e4, ey, Nat.zero_le _⟩, ?_⟩
        rintro j k H6 ⟨rfl, acc6, yd6, yr6, hl6, off6, ra6, ec6, ey6, hj6⟩
        have vis6 : Same (hide (nP (NN F O) D) H5) (hide (nP (NN F O) D) H6) := fun a o e => by
          obtain ⟨n1, n2⟩ := hide_some e
          exact hide_of n1 (off6 a o (fun z => n1 (.inr z)) n2)
        have sm6 : Same H1 H6 := fun a o e => off6 a o (fun z => by rw [z, hD] at e; exact nomatch e) ((sm.trans s25) a o e)
        by_cases hlt1 : j < ds1.length
        · refine .inr ⟨w1.go H6 j (vis6.trans hide_le) hlt1, P1 (j + 1), fun H' p => ⟨ds1.length - (j + 1), by omega, rfl, p⟩, fun x7 H7 y7 => ?_⟩
          obtain ⟨s7, d7, edd7, rd7⟩ := w1.yld H6 j x7 H7 (vis6.trans hide_le) hlt1 y7
          have hl7 := s7 _ _ hl6
          have rel7 := (rel_re (H' := H7) rel5 (fun a x ne q => s7 _ _ (off6 a x ne q)) (by rw [hl3]; simp) (by rw [hl7]; simp)).wipe vs1
          have edrop7 : ds1.drop j = d7 :: ds1.drop (j + 1) := by
            rw [List.drop_eq_getElem_cons hlt1]
            rw [List.getElem?_eq_getElem hlt1] at edd7
            rw [Option.some.inj edd7]
          rw [edrop7] at ec6
          unfold compL at ec6
          obtain ⟨ρ7, e71, ec6⟩ := Rs.bnd_eq ec6
          obtain ⟨b7, e72, ec6⟩ := Rs.bnd_eq ec6
          have live6 : ∀ a, NN (fcAt F O vs H7 D) (outO O vs) a → H6 a ≠ none := fun a z => by
            rcases (nn_at a).mp z with z | z
            · exact same_ne sm6 (r1.nlive z)
            · rw [z, hl6]; simp
          refine ⟨fcAt F O vs H7 D, outO O vs, wipeE ρ1 vs1, d7, ρ7, rel7, rd7 _ live6 (by rw [nn_eq]; exact vis6), e71, fun O' σ'' g7 => ?_⟩
          have eO7 : O' = outO O vs := g7.own fun j hj => fun hb => by unfold outO; rw [if_pos ⟨hv j (hsl1 j hj), hb⟩]
          subst eO7
          refine ⟨?_, fcAt F O vs H7 D, outO O vs, ρ7, b7, g7.rel, e72, fun H8 s8 => ?_⟩
          · rw [wipe_eq (σ := L2.wipe σ' vs1) (fun j hj => g7.out j fun z => hj (hsl1 j z)) g7.len, wipe_wipe]
          · have rel8 := g7.rel.mono s8
            have s68 : Same H6 H8 := s7.trans s8
            cases b7 with
            | true =>
              simp only [if_true] at ec6 ⊢
              obtain ⟨y', e83, ec6⟩ := Rs.bnd_eq ec6
              obtain ⟨zs6, e84, ec6⟩ := Rs.bnd_eq ec6
              cases ec6
              have lt6 : acc6.length < sizeLine := by
                have l1 := ra6.len
                have l2 := congrArg List.length ey6
                simp only [List.length_append, List.length_cons] at l2
                omega
              refine ⟨fcAt F O vs H7 D, outO O vs, ρ7, y', rel8, e83, fun v H9 s9 r9 => ⟨acc6, s9 _ _ (s68 _ _ hl6), lt6, ?_⟩⟩
              have s69 : Same H6 H9 := s68.trans s9
              rw [nn_eq] at r9
              have keep : Same (hide (nP (NN F O) D) H9) (hide (nP (NN F O) D) (upd H9 D (.lst (acc6 ++ [v])))) := fun a o e => by
                obtain ⟨n1, n2⟩ := hide_some e
                exact hide_of n1 (by rw [upd_ne (fun z => n1 (.inr z))]; exact n2)
              refine ⟨acc6 ++ [v], yd6 ++ [y'], zs6, upd_same, fun a x ne q => ?_, ?_, e84, by rw [ey6]; simp, hlt1⟩
              · rw [upd_ne ne]
                exact s69 _ _ (off6 a x ne q)
              · exact ((ra6.mono (hide_same s69)).append (.cons r9 .nil)).mono keep
            | false =>
              simp only [Bool.false_eq_true, if_false] at ec6 ⊢
              exact ⟨acc6, yd6, yr6, s68 _ _ hl6, fun a x ne q => s68 _ _ (off6 a x ne q), ra6.mono (hide_same s68), ec6, ey6, hlt1⟩
        · have ej : j = ds1.length := by omega
          subst ej
          refine .inl ⟨w1.stop H6 (vis6.trans hide_le), ?_⟩
          rw [List.drop_length] at ec6
          cases ec6
          exact ⟨acc6, yd6, zs, hl6, sm6, ra6, e5, by rw [ey6]; rfl, hlt⟩
      | false =>
        simp only [Bool.false_eq_true, if_false] at ec ⊢
        have s24 : Same H2 H4 := s3.trans s4
        exact ⟨acc, yd, yr, s24 _ _ hl, sm.trans s24, ra.mono (hide_same s24), ec, ey, hlt⟩
  · have ei : i = ds.length := by omega
    subst ei
    refine .inl ⟨w.stop H2 sm, ?_⟩
    rw [List.drop_length] at ec
    cases ec
    rw [List.append_nil] at ey
    subst ey
    exact q D acc H2 (s1.trans sm) (s1.free hD) hl lenY ra
theorem n_comp2 {el tg iter tg1 iter1 : Expr} {ifs ifs1 : List Expr} {scope : Scope} {own : List (Str × Nat)} {pos : Pos} {it it1 : Ev → Rs (List PyData)} {t t1 : Tg} {vs1 : List Nat} {cond cond1 : Ev → Rs Bool} {elt : Ev → Rs PyData} (hc : X.calm = true) (hN : X.N.Nodup) (hi : PI X tg iter (tJ X.kb F t it)) (ok : BlkOk X.N X.env.scope scope own) (hsl : ∀ i ∈ t.slots, i ∈ own.map (·.2)) (hsl1 : ∀ i ∈ t1.slots, i ∈ vs1) (hv : ∀ i ∈ vs1, i ∈ own.map (·.2))
    (hg : ∀ (F : FC) (s : Shared) (H : Hp) (C : Addr) (cl : List (Str × Addr)) (fp : List Addr), PG (X.blk s H scope (compEnvC scope cl C X.env) fp) tg (gP X.kb F t))
    (ht : ∀ (s : Shared) (H : Hp) (C : Addr) (cl : List (Str × Addr)) (fp : List Addr), PTs (X.blk s H scope (compEnvC scope cl C X.env) fp) ifs (tTE X.kb cond))
    (hi1 : ∀ (F : FC) (s : Shared) (H : Hp) (C : Addr) (cl : List (Str × Addr)) (fp : List Addr), PI (X.blk s H scope (compEnvC scope cl C X.env) fp) tg1 iter1 (tI X.kb F t1 it1))
    (hg1 : ∀ (F : FC) (s : Shared) (H : Hp) (C : Addr) (cl : List (Str × Addr)) (fp : List Addr), PG (X.blk s H scope (compEnvC scope cl C X.env) fp) tg1 (gP X.kb F t1))
    (ht1 : ∀ (s : Shared) (H : Hp) (C : Addr) (cl : List (Str × Addr)) (fp : List Addr), PTs (X.blk s H scope (compEnvC scope cl C X.env) fp) ifs1 (tTE X.kb cond1))
    (he : ∀ (F : FC) (s : Shared) (H : Hp) (C : Addr) (cl : List (Str × Addr)) (fp : List Addr), PE (X.blk s H scope (compEnvC scope cl C X.env) fp) el (tP X.kb F elt)) (hs : ∀ x, foldedSetIterable iter X.env x = pure x := by intro _; rfl) (hs1 : ∀ env x, foldedSetIterable iter1 env x = pure x := by intro _ _; rfl) :
    NP' X F (.ListComp el [⟨tg, iter, ifs, 0⟩, ⟨tg1, iter1, ifs1, 0⟩] scope pos) (comp2 it t (own.map (·.2)) cond it1 t1 vs1 cond1 elt) :=
  wkE (pe_lc2 hc hN hi ok hv (fun s H C cl fp => all_g fun F => hg F s H C cl fp) ht (fun s H C cl fp => all_i fun F => hi1 F s H C cl fp) (fun s H C cl fp => all_g fun F => hg1 F s H C cl fp) ht1 (fun s H C cl fp => all_p fun F => he F s H C cl fp) hs hs1) fun σ H Q h => lc2_read hsl hsl1 hv σ H Q h
theorem s_comp2 {st : Stmt} {i : Nat} {it it1 : Ev → Rs (List PyData)} {t t1 : Tg} {vs vs1 : List Nat} {cond cond1 : Ev → Rs Bool} {elt : Ev → Rs PyData} (hsl : ∀ i ∈ t.slots, i ∈ vs) (hsl1 : ∀ i ∈ t1.slots, i ∈ vs1) (hv : ∀ i ∈ vs1, i ∈ vs) (h : PS X st (tAsg (tLc2 (tJ X.kb F t it) (gE X.kb t) (tTE X.kb cond) (iE X.kb t1 it1) (gE X.kb t1) (tTE X.kb cond1) (tPE X.kb elt) vs vs1) (gName i))) : PS X st (tAsg (tN X.kb F (comp2 it t vs cond it1 t1 vs1 cond1 elt)) (gName i)) :=
  wkS h fun D σ H q => lc2_read hsl hsl1 hv σ H _ q
end
end PL


/-! PL11: zip, enumerate; tables of the top: data, and defs that are picked by a text -/
namespace PL
open PySem PySem.Spec PyProof.Rows L2
/-! zip, enumerate -/
def pairs (xs ys : List PyData) : List PyData := List.zipWith (fun x y => .tuple [x, y]) xs ys
def zipD : List PyData → Rs (List PyData)
  | [.list a, .list b] => .ok (pairs a b)
  | [.tuple a, .tuple b] => .ok (pairs a b)
  | _ => .no
def enumD : List PyData → Rs (List PyData)
  | [.list a] => .ok (a.mapIdx fun i x => .tuple [.int i, x])
  | _ => .no
theorem pairs_at {xs ys : List PyData} {i : Nat} {x y : PyData} (h : xs[i]? = some x) (h' : ys[i]? = some y) : (pairs xs ys)[i]? = some (.tuple [x, y]) := by
  unfold pairs; rw [List.getElem?_zipWith, h, h']
theorem pair_R {is : List Nat} {K : PySem.W.Frag} {N : Addr → Prop} {H : Hp} {T : Addr} {d e : PyData} {x y : V} (hn : ∀ a, N a → H a ≠ none) (hT : H T = none) (r1 : R K (hide N H) d x) (r2 : R K (hide N H) e y) : RQ (.many is) K (hide N (upd H T (.tup [x, y]))) (.tuple [d, e]) (.ref T) := fun ds eq => by
  cases eq
  exact ⟨T, [x, y], rfl, .inl (.inl (hide_upd hn hT)), .cons (r1.mono (hide_same (same_upd hT))) (.cons (r2.mono (hide_same (same_upd hT))) .nil)⟩
theorem len_pairs {xs ys : List PyData} : (pairs xs ys).length = min xs.length ys.length := by unfold pairs; rw [List.length_zipWith]
theorem wk_zipL {is : List Nat} {K : PySem.W.Frag} {B E : Hp} {a b : Addr} {ds es : List PyData} {xs ys : List V} (z : ds.length ≤ sizeLine) (h : SqL K B a xs) (h' : SqL K B b ys) (t : RA K E ds xs) (t' : RA K E es ys) : Wk (.many is) K B E (Itz K a b) (pairs ds es) := by
  refine ⟨by rw [len_pairs]; omega, fun H i s hi => ?_, fun H s => ⟨xs, ys, s.seq h, s.seq h', by rw [len_pairs, t.len, t'.len]; omega⟩, fun H i x H' s hi y => ?_⟩
  · rw [len_pairs] at hi
    obtain ⟨x, e1, e2⟩ := t.get (List.getElem?_eq_getElem (show i < ds.length by omega))
    obtain ⟨y, e3, e4⟩ := t'.get (List.getElem?_eq_getElem (show i < es.length by omega))
    exact ⟨xs, ys, x, y, s.seq h, s.seq h', e1, e3⟩
  · obtain ⟨T, v, u, e, hT, eH, y1, y2⟩ := y
    subst e eH
    obtain ⟨d, e1, e2⟩ := t.getV (y1 xs (s.seq h))
    obtain ⟨d', e3, e4⟩ := t'.getV (y2 ys (s.seq h'))
    exact ⟨same_upd hT, _, pairs_at e1 e3, fun N hn se => pair_R hn hT (e2.mono se) (e4.mono se)⟩
theorem wk_zipT {is : List Nat} {K : PySem.W.Frag} {B E : Hp} {a b : Addr} {ds es : List PyData} {xs ys : List V} (z : ds.length ≤ sizeLine) (h : SqT K B a xs) (h' : SqT K B b ys) (t : RA K E ds xs) (t' : RA K E es ys) : Wk (.many is) K B E (RZ.ItzT K a b) (pairs ds es) := by
  refine ⟨by rw [len_pairs]; omega, fun H i s hi => ?_, fun H s => ⟨xs, ys, sqt_mono s h, sqt_mono s h', by rw [len_pairs, t.len, t'.len]; omega⟩, fun H i x H' s hi y => ?_⟩
  · rw [len_pairs] at hi
    obtain ⟨x, e1, e2⟩ := t.get (List.getElem?_eq_getElem (show i < ds.length by omega))
    obtain ⟨y, e3, e4⟩ := t'.get (List.getElem?_eq_getElem (show i < es.length by omega))
    exact ⟨xs, ys, x, y, sqt_mono s h, sqt_mono s h', e1, e3⟩
  · obtain ⟨T, v, u, e, hT, eH, y1, y2⟩ := y
    subst e eH
    obtain ⟨d, e1, e2⟩ := t.getV (y1 xs (sqt_mono s h))
    obtain ⟨d', e3, e4⟩ := t'.getV (y2 ys (sqt_mono s h'))
    exact ⟨same_upd hT, _, pairs_at e1 e3, fun N hn se => pair_R hn hT (e2.mono se) (e4.mono se)⟩
theorem wk_enum {is : List Nat} {K : PySem.W.Frag} {B E : Hp} {a : Addr} {ds : List PyData} {xs : List V} (z : ds.length ≤ sizeLine) (h : SqL K B a xs) (t : RA K E ds xs) : Wk (.many is) K B E (Ite K a) (ds.mapIdx fun i x => .tuple [.int i, x]) := by
  refine ⟨by rw [List.length_mapIdx]; exact z, fun H i s hi => ?_, fun H s => ⟨xs, s.seq h, by rw [List.length_mapIdx, t.len]; exact Nat.le_refl _⟩, fun H i x H' s hi y => ?_⟩
  · rw [List.length_mapIdx] at hi
    obtain ⟨x, e1, e2⟩ := t.get (List.getElem?_eq_getElem hi)
    exact ⟨xs, x, s.seq h, e1⟩
  · obtain ⟨T, u, e, hT, eH, y1⟩ := y
    subst e eH
    obtain ⟨d, e1, e2⟩ := t.getV (y1 xs (s.seq h))
    exact ⟨same_upd hT, _, by rw [List.getElem?_mapIdx, e1]; rfl, fun N hn se => pair_R hn hT .int (e2.mono se)⟩
section
variable {X : Cx} {F : FC}
theorem i_zip {is : List Nat} {e e2 : Expr} {g : Ev → Rs (List PyData)} {p pos tpos : Pos} {elts : List Expr} {kk : Nat} (hg : Gl X "zip") (hm : X.mg "zip" = none) (ha : AP' X F [e, e2] g)
    (hs : starEach [e, e2] X.env = (false, eval e X.env) :: starEach [e2] X.env := by rfl) (hpl : (backTo pos (starEach [e2] X.env)).any (·.1) = false := by rfl) : PI X (.Tuple elts kk tpos) (.Call (.Name "zip" p) [e, e2] [] pos) (tI X.kb F (.many is) (apN zipD g)) :=
  wkI (RZ.pi_zipA hg hm ha hs hpl) fun σ H Q ⟨O, ρ, ds, r, e, q⟩ => by
    obtain ⟨l, el, e⟩ := Rs.bnd_eq e
    unfold zipD at e
    split at e <;> first | (cases e; done) | skip
    · cases e
      refine ⟨O, ρ, _, r, el, fun vs H1 s1 r1 => ?_⟩
      obtain ⟨x, y, ev, g1, g2⟩ := r1.inv2
      obtain ⟨z1, a, xs, e1, h1, t1⟩ := g1.listV
      obtain ⟨z2, b, ys, e2, h2, t2⟩ := g2.listV
      subst e1 e2
      exact ⟨a, b, xs, ys, ev, .inl ⟨sqL_le h1, sqL_le h2, q _ H1 s1 (wk_zipL z1 h1 h2 t1 t2)⟩⟩
    · cases e
      refine ⟨O, ρ, _, r, el, fun vs H1 s1 r1 => ?_⟩
      obtain ⟨x, y, ev, g1, g2⟩ := r1.inv2
      obtain ⟨z1, a, xs, e1, h1, t1⟩ := g1.tupV
      obtain ⟨z2, b, ys, e2, h2, t2⟩ := g2.tupV
      subst e1 e2
      exact ⟨a, b, xs, ys, ev, .inr ⟨sqT_le h1, sqT_le h2, q _ H1 s1 (wk_zipT z1 h1 h2 t1 t2)⟩⟩
theorem i_enum {is : List Nat} {e : Expr} {g : Ev → Rs (List PyData)} {p pos tpos : Pos} {elts : List Expr} {kk : Nat} (hg : Gl X "enumerate") (hm : X.mg "enumerate" = none) (ha : AP' X F [e] g) (hs : starEach [e] X.env = [(false, eval e X.env)] := by rfl) : PI X (.Tuple elts kk tpos) (.Call (.Name "enumerate" p) [e] [] pos) (tI X.kb F (.many is) (apN enumD g)) :=
  wkI (pi_enum hg hm ha hs) fun σ H Q ⟨O, ρ, ds, r, e, q⟩ => by
    obtain ⟨l, el, e⟩ := Rs.bnd_eq e
    unfold enumD at e
    split at e <;> first | (cases e; done) | skip
    cases e
    refine ⟨O, ρ, _, r, el, fun vs H1 s1 r1 => ?_⟩
    obtain ⟨x, ev, g1⟩ := r1.inv1
    obtain ⟨z1, a, xs, e1, h1, t1⟩ := g1.listV
    subst e1
    exact ⟨a, xs, ev, sqL_le h1, q _ H1 s1 (wk_enum z1 h1 t1)⟩
/-! tables of the top -/
def cinD (tbl : List (Str × PyData)) : PyData → Rs PyData
  | .str z => .ok (.bool (tbl.lookup z).isSome)
  | _ => .no
def cninD (tbl : List (Str × PyData)) : PyData → Rs PyData
  | .str z => .ok (.bool (!(tbl.lookup z).isSome))
  | _ => .no
def cixD (tbl : List (Str × PyData)) : PyData → Rs PyData
  | .str z => match tbl.lookup z with | some d => .ok d | none => .no
  | _ => .no
/-- a table of the top with texts as keys -/
structure TabI (K : PySem.W.Frag) (mg : Str → Option Value) (w : World) (x : Str) (tbl : List (Str × PyData)) where
  a : Addr
  es : Array DictEntry
  n : Nat
  m : mg x = some (.ref a)
  d : KDict K w a es n
  v : ∀ z v, tbl.lookup z = some v → ∃ b, PySem.W.nsIn K a z = some (some (.ref b)) ∧ ∀ H, R K H v (.ref b)
  i : ∀ z, ∃ r, PySem.W.nsIn K a z = some r ∧ r.isSome = (tbl.lookup z).isSome
theorem p_cix {x : Str} {tbl : List (Str × PyData)} {e : Expr} {f : Ev → Rs PyData} {p pos : Pos} (T : TabI X.K X.mg X.w x tbl) (he : EP' X F e f) (hg : Gl X x := by rfl) (hd : (x == ("__debug__" : Str)) = false := by decide) (hs : PlainIx e := by exact fun _ _ => rfl) : EP' X F (.Subscript (.Name x p) e pos) (ap1 (cixD tbl) f) :=
  wkE (pe_ix ix_kdict (pe_glob (v := .ref T.a) hg T.m rfl hd) he hs) fun σ H Q ⟨O, ρ, d, r, e, q⟩ => by
    obtain ⟨k, ek, e⟩ := Rs.bnd_eq e
    unfold cixD at e
    split at e <;> first | (cases e; done) | skip
    split at e <;> first | (cases e; done) | skip
    rename_i z _ d' hl
    cases e
    obtain ⟨b, h1, h2⟩ := T.v _ _ hl
    refine ⟨O, ρ, _, r, ek, fun v H' s r' => ⟨T.a, z, .ref b, rfl, r'.strV.1, ⟨T.es, T.n, .ref b, T.d.at_, T.d.lit, h1, rfl⟩, q _ H' s (h2 _)⟩⟩
theorem p_cin {x : Str} {tbl : List (Str × PyData)} {e : Expr} {f : Ev → Rs PyData} {p pos : Pos} (T : TabI X.K X.mg X.w x tbl) (he : EP' X F e f) (hg : Gl X x := by rfl) (hd : (x == ("__debug__" : Str)) = false := by decide) (hm : behindInMarks .In (.Name x p) = false := by rfl) : EP' X F (.Compare e [.In] [.Name x p] pos) (ap1 (cinD tbl) f) :=
  wkE (pe_cmpR (op_in_kd T.d) he (pe_glob (v := .ref T.a) hg T.m rfl hd) hm) fun σ H Q ⟨O, ρ, d, r, e, q⟩ => by
    obtain ⟨k, ek, e⟩ := Rs.bnd_eq e
    unfold cinD at e
    split at e <;> first | (cases e; done) | skip
    rename_i z
    cases e
    obtain ⟨u, h1, h2⟩ := T.i z
    refine ⟨O, ρ, _, r, ek, fun v H' s r' => ⟨z, u, r'.strV.1, rfl, h1, q _ H' s (by rw [h2]; exact .bool)⟩⟩
theorem p_cnin {x : Str} {tbl : List (Str × PyData)} {e : Expr} {f : Ev → Rs PyData} {p pos : Pos} (T : TabI X.K X.mg X.w x tbl) (he : EP' X F e f) (hg : Gl X x := by rfl) (hd : (x == ("__debug__" : Str)) = false := by decide) (hm : behindInMarks .NotIn (.Name x p) = false := by rfl) : EP' X F (.Compare e [.NotIn] [.Name x p] pos) (ap1 (cninD tbl) f) :=
  wkE (pe_cmpR (op_notIn_kd T.d) he (pe_glob (v := .ref T.a) hg T.m rfl hd) hm) fun σ H Q ⟨O, ρ, d, r, e, q⟩ => by
    obtain ⟨k, ek, e⟩ := Rs.bnd_eq e
    unfold cninD at e
    split at e <;> first | (cases e; done) | skip
    rename_i z
    cases e
    obtain ⟨u, h1, h2⟩ := T.i z
    refine ⟨O, ρ, _, r, ek, fun v H' s r' => ⟨z, u, r'.strV.1, rfl, h1, q _ H' s (by rw [h2]; exact .bool)⟩⟩
theorem t_cin {x : Str} {tbl : List (Str × PyData)} {e : Expr} {f : Ev → Rs PyData} {p pos : Pos} (T : TabI X.K X.mg X.w x tbl) (he : EP' X F e f) (hg : Gl X x := by rfl) (hd : (x == ("__debug__" : Str)) = false := by decide) (hm : behindInMarks .In (.Name x p) = false := by rfl) : TP' X F (.Compare e [.In] [.Name x p] pos) (tB' (ap1 (cinD tbl) f)) :=
  wkT (pt_cmpR (op_in_kd T.d) he (pe_glob (v := .ref T.a) hg T.m rfl hd) hm) fun σ H Q ⟨O, ρ, b, r, e, q⟩ => by
    obtain ⟨d, e, eb⟩ := Rs.bnd_eq e
    obtain ⟨k, ek, e⟩ := Rs.bnd_eq e
    unfold cinD at e
    split at e <;> first | (cases e; done) | skip
    rename_i z
    cases e
    cases eb
    obtain ⟨u, h1, h2⟩ := T.i z
    refine ⟨O, ρ, _, r, ek, fun v H' s r' => ⟨z, u, r'.strV.1, rfl, h1, _, rfl, by rw [h2]; exact q H' s⟩⟩
theorem t_cnin {x : Str} {tbl : List (Str × PyData)} {e : Expr} {f : Ev → Rs PyData} {p pos : Pos} (T : TabI X.K X.mg X.w x tbl) (he : EP' X F e f) (hg : Gl X x := by rfl) (hd : (x == ("__debug__" : Str)) = false := by decide) (hm : behindInMarks .NotIn (.Name x p) = false := by rfl) : TP' X F (.Compare e [.NotIn] [.Name x p] pos) (tB' (ap1 (cninD tbl) f)) :=
  wkT (pt_cmpR (op_notIn_kd T.d) he (pe_glob (v := .ref T.a) hg T.m rfl hd) hm) fun σ H Q ⟨O, ρ, b, r, e, q⟩ => by
    obtain ⟨d, e, eb⟩ := Rs.bnd_eq e
    obtain ⟨k, ek, e⟩ := Rs.bnd_eq e
    unfold cninD at e
    split at e <;> first | (cases e; done) | skip
    rename_i z
    cases e
    cases eb
    obtain ⟨u, h1, h2⟩ := T.i z
    refine ⟨O, ρ, _, r, ek, fun v H' s r' => ⟨z, u, r'.strV.1, rfl, h1, _, rfl, by rw [h2]; exact q H' s⟩⟩
end
/-! defs that are picked by a text -/
theorem Rel.setDsp {K : KB} {F : FC} {O : Own} {ρ : Ev} {σ : St} {H : Hp} (r : Rel K F O ρ σ H) {i : Nat} {D s : Str} {a : Addr} (h : dspAt K D s a) : Rel K F (minusO O i) (ρ.set i (some (.dsp D s))) (σ.set i (some (.ref a))) H := by
  refine ⟨by rw [List.length_set, List.length_set]; exact r.len, fun j k a h1 h2 => r.inj j k a (minusO_some h1).2 (minusO_some h2).2, fun j a h1 => r.live j a (minusO_some h1).2, r.hidl, fun a x q => ⟨(r.base a x q).1, fun j h1 => (r.base a x q).2 j (minusO_some h1).2⟩, fun j c q => ?_, r.obs.set (fun j h => minusO_out (.inr h)) (fun j hj => List.getElem?_set_ne (Ne.symm hj)) (by simp) (by simp)⟩
  rcases set_get q with ⟨rfl, e, hl⟩ | ⟨hj, q⟩
  · cases e
    exact ⟨a, h, by rw [List.getElem?_set_self (by rw [r.len]; exact hl)]⟩
  · exact ((r.slots j c q).vis minusO_le fun j' h' => minusO_out (out_of hj (own_big h'))).st (List.getElem?_set_ne (Ne.symm hj))
abbrev Dsp := List (Str × (List PyData → Rs PyData))
theorem ns_of_keys {K : PySem.W.Frag} {P : Params} {a : Addr} {es : Array DictEntry} {n : Nat} {ks : List Str} (hl : K.lookup a = some ⟨.type "dict", none, .dict es n, #[]⟩) (hk : es.toList.map He.keyOf = He.keysIn P ks) (z : Str) : ∃ r, PySem.W.nsIn K a z = some r ∧ r.isSome = ks.contains z := by
  have main : ∀ (l : List DictEntry) (ks : List Str), l.map He.keyOf = He.keysIn P ks → ((l.find? (·.key.isStr z)).isSome = ks.contains z) ∧ l.any (·.refKey) = false := by
    intro l
    induction l with
    | nil =>
      intro ks h
      cases ks with
      | nil => exact ⟨rfl, rfl⟩
      | cons k ks => cases h
    | cons e r ih =>
      intro ks h
      cases ks with
      | nil => cases h
      | cons k ks =>
        have h1 : He.keyOf e :: r.map He.keyOf = some (k, PyData.keyHash P k) :: He.keysIn P ks := h
        injection h1 with h2 h3
        obtain ⟨i1, i2⟩ := ih ks h3
        unfold He.keyOf at h2
        split at h2
        · rename_i x t q
          have h5 := (Prod.mk.inj (Option.some.inj h2)).1
          subst h5
          refine ⟨?_, ?_⟩
          · rw [List.find?_cons, q]
            show (match x == z with | true => some e | false => r.find? (·.key.isStr z)).isSome = _
            rw [List.contains_cons]
            have comm : (z == x) = (x == z) := by
              by_cases c : z = x
              · subst c; rfl
              · rw [beq_eq_false_iff_ne.mpr c, beq_eq_false_iff_ne.mpr (Ne.symm c)]
            rw [comm]
            cases x == z with
            | true => rfl
            | false => simpa using i1
          · rw [List.any_cons, i2, Bool.or_false]
            unfold DictEntry.refKey
            rw [q]
        · cases h2
  obtain ⟨m1, m2⟩ := main _ _ hk
  unfold PySem.W.nsIn
  rw [hl]
  simp only
  cases e : es.toList.find? (·.key.isStr z) with
  | some en => rw [e] at m1; exact ⟨_, rfl, m1⟩
  | none => rw [e] at m1; simp only [m2, Bool.false_eq_true, if_false]; exact ⟨none, rfl, m1⟩
def tab_mk {K : PySem.W.Frag} {mg : Str → Option Value} {w : World} {x : Str} {tbl : List (Str × PyData)} {a : Addr} {es : Array DictEntry} {n : Nat} {ks : List Str} (m : mg x = some (.ref a)) (hl : K.lookup a = some ⟨.type "dict", none, .dict es n, #[]⟩) (hk : es.toList.map He.keyOf = He.keysIn w.params ks) (low : (a == sysModules) = false) (hks : ∀ z, ks.contains z = (tbl.lookup z).isSome)
    (v : ∀ z v, tbl.lookup z = some v → ∃ b, PySem.W.nsIn K a z = some (some (.ref b)) ∧ ∀ H, R K H v (.ref b)) : TabI K mg w x tbl :=
  ⟨a, es, n, m, ⟨hl, He.keysLit_of hk, low⟩, v, fun z => let ⟨r, h1, h2⟩ := ns_of_keys hl hk z; ⟨r, h1, h2.trans (hks z)⟩⟩
theorem lk_keys {α : Type} : ∀ (tbl : List (Str × α)) (z : Str), (tbl.map (·.1)).contains z = (tbl.lookup z).isSome
  | [], _ => rfl
  | p :: r, z => by
    rw [List.map_cons, List.contains_cons, List.lookup_cons, lk_keys r z]
    cases z == p.1 <;> rfl
/-- what stands at the keys of a table, one by one -/
theorem tv_n {K : PySem.W.Frag} {a : Addr} : ∀ z v, ([] : List (Str × PyData)).lookup z = some v → ∃ b, PySem.W.nsIn K a z = some (some (.ref b)) ∧ ∀ H, R K H v (.ref b) := fun z v h => nomatch h
theorem tv_c {K : PySem.W.Frag} {a b : Addr} {s : Str} {d : PyData} {t : List (Str × PyData)} (q : PySem.W.nsIn K a s = some (some (.ref b))) (hr : ∀ H, R K H d (.ref b)) (h : ∀ z v, t.lookup z = some v → ∃ b, PySem.W.nsIn K a z = some (some (.ref b)) ∧ ∀ H, R K H v (.ref b)) : ∀ z v, ((s, d) :: t).lookup z = some v → ∃ b, PySem.W.nsIn K a z = some (some (.ref b)) ∧ ∀ H, R K H v (.ref b) := fun z v e => by
  rw [List.lookup_cons] at e
  split at e
  · rename_i hz
    cases e
    have hz' : z = s := eq_of_beq hz
    subst hz'
    exact ⟨b, q, hr⟩
  · exact h z v e
structure DspI (K : PySem.W.Frag) (mg : Str → Option Value) (w : World) (x : Str) (ks : List Str) where
  a : Addr
  es : Array DictEntry
  n : Nat
  m : mg x = some (.ref a)
  o : PySem.W.nsIn K mainGlobals x = some (some (.ref a))
  d : KDict K w a es n
  v : ∀ z, z ∈ ks → ∃ b, PySem.W.nsIn K a z = some (some (.ref b))
def sPick (i : Nat) (D : Str) (ks : List Str) (f : Ev → Rs PyData) : Ev → Rs Out := fun ρ => (f ρ).bnd fun k => match k with
  | .str z => if z ∈ ks then .ok (.nx (ρ.set i (some (.dsp D z)))) else .no
  | _ => .no
section
variable {X : Cx} {F : FC}
theorem s_pick {st : Stmt} {i : Nat} {x : Str} {ks : List Str} {f : Ev → Rs PyData} (T : DspI X.K X.mg X.w x ks) (h : PS X st (tAsg (tOp (rIxD X.K X.w) (tC (.ref T.a)) (tP X.kb F f)) (gName i))) : SP' X F st (sPick i x ks f) := wkS h fun D σ H ⟨O, ρ, o, r, e, p⟩ => by
  obtain ⟨k, ek, e⟩ := Rs.bnd_eq e
  split at e <;> first | (cases e; done) | skip
  split at e <;> first | (cases e; done) | skip
  rename_i z hz
  cases e
  obtain ⟨b, hb⟩ := T.v z hz
  refine ⟨O, ρ, _, r, ek, fun v H' s r' => ⟨T.a, z, .ref b, rfl, r'.strV.1, ⟨T.es, T.n, .ref b, T.d.at_, T.d.lit, hb, rfl⟩, ?_⟩⟩
  exact p _ _ H' ((r.mono s).setDsp ⟨T.a, T.o, hb⟩) ((hide_same s).trans (hide_anti minusO_le))
def callPick (i : Nat) (D : Str) (t : Dsp) (g : Ev → Rs (List PyData)) : Ev → Rs PyData := fun ρ => match getC ρ i with
  | some (.dsp D' z) => if D' = D then (match t.lookup z with | some G => (g ρ).bnd G | none => .no) else .no
  | _ => .no
def PickK (P : Program) (w : World) (K : PySem.W.Frag) (mg : Str → Option Value) (base : Heap) (k n : Nat) (D : Str) (t : Dsp) : Prop := ∀ z G, t.lookup z = some G → ∃ (x : Str) (st : Stmt) (ps : List Str) (I : FnI K mg x st ps), dspAt ⟨K, P, w⟩ D z I.a ∧ FnOk P w K mg base CX0 k I.a I.d ps (spP K n G)
theorem pick_n {P : Program} {w : World} {K : PySem.W.Frag} {mg : Str → Option Value} {base : Heap} {k n : Nat} {D : Str} : PickK P w K mg base k n D [] := fun z G h => nomatch h
theorem pick_c {P : Program} {w : World} {K : PySem.W.Frag} {mg : Str → Option Value} {base : Heap} {j k n : Nat} {D s x : Str} {st : Stmt} {ps : List Str} {G : List PyData → Rs PyData} {t : Dsp} {ks : List Str} (T : DspI K mg w D ks) (I : FnI K mg x st ps) (q : PySem.W.nsIn K T.a s = some (some (.ref I.a))) (Fn : FnOk P w K mg base CX0 j I.a I.d ps (spP K n G)) (hj : j ≤ k) (h : PickK P w K mg base k n D t) : PickK P w K mg base k n D ((s, G) :: t) := fun z G' e => by
  rw [List.lookup_cons] at e
  split at e
  · rename_i hz
    cases e
    have hz' : z = s := eq_of_beq hz
    subst hz'
    exact ⟨x, st, ps, I, ⟨T.a, T.o, q⟩, Fn.mono hj⟩
  · exact h z G' e
theorem dspAt_one {K : KB} {D z : Str} {a b : Addr} (h : dspAt K D z a) (h' : dspAt K D z b) : a = b := by
  obtain ⟨p, h1, h2⟩ := h
  obtain ⟨q, h3, h4⟩ := h'
  rw [h1] at h3
  cases h3
  rw [h2] at h4
  cases h4
  rfl
theorem p_callPick {k n i : Nat} {D x : Str} {t : Dsp} {p pos : Pos} {e : Expr} {es : List Expr} {g : Ev → Rs (List PyData)} (T : PickK X.prog X.w X.K X.mg X.base k n D t) (hr : Room k X.A) (ha : AP' X F (e :: es) g) (hl : Ln n g) (hN : X.N[i]? = some x := by rfl) (hv : Vis X.env.scope x := by first | exact .inl rfl | exact .inr (.inl rfl) | exact .inr (.inr rfl))
    (hdb : (x == ("__debug__" : Str)) = false := by decide) (hcd : (x == ("__classdict__" : Str)) = false := by decide)
    (he : starEach (e :: es) X.env = (false, eval e X.env) :: starEach es X.env := by rfl) (hpl : (backTo pos (starEach es X.env)).any (·.1) = false := by rfl) : EP' X F (.Call (.Name x p) (e :: es) [] pos) (callPick i D t g) := by
  refine ⟨fun pins s σ H Q I ⟨O, ρ, d, r, e, q⟩ => ?_⟩
  unfold callPick at e
  split at e <;> first | (cases e; done) | skip
  split at e <;> first | (cases e; done) | skip
  split at e <;> first | (cases e; done) | skip
  rename_i D' z hc hD _ G hG
  subst hD
  obtain ⟨l, el, e⟩ := Rs.bnd_eq e
  obtain ⟨xx, st, ps, II, h1, Fn⟩ := T z G hG
  obtain ⟨a, h2, h3⟩ := r.slots i _ (getC_iff.mp hc)
  cases dspAt_one h1 h2
  refine (pe_callL (i := i) (dvs := []) (E := fun _ _ _ => False) Fn hr hN hv II.F.kp II.b .nil (fun _ _ _ _ _ _ _ z => z.elim) ha hdb hcd he hpl).run pins s σ H Q I ⟨h3, O, ρ, l, r, el, fun vs H1 s1 r1 => ⟨NN F O, l, d, fun z n => (r.mono s1).nlive n, by rw [List.append_nil]; exact r1, hl ρ l el, e, fun v H' s3 r3 => q v H' (s1.trans s3) r3⟩⟩
end
end PL


/-! PL12: t + (row.pop(i),) -/
namespace PL
open PySem PySem.Spec PyProof.Rows L2
/-- slot j: the tuple of slot k and what is popped of slot i -/
def sAddPop (j k i : Nat) (f : Ev → Rs PyData) : Ev → Rs Out := fun ρ => match getC ρ k with
  | some (.pub (.tuple es)) => (match getC ρ i with
    | some (.own ds) => (f ρ).bnd fun n => (asI n).bnd fun n => (popAt ds n).bnd fun p => if es.length + 1 ≤ sizeLine then .ok (.nx ((ρ.set i (some (.own p.2))).set j (some (.pub (.tuple (es ++ [p.1])))))) else .no
    | _ => .no)
  | _ => .no
section
variable {X : Cx} {F : FC}
theorem s_addPop {st : Stmt} {j k i : Nat} {f : Ev → Rs PyData} (h : PS X st (tAsg (tOp (rP2 X.K addD) (tVar k) (tTupN (tCons (tBM X.K "list" rPopAt (tVar i) (tCons (tP X.kb F f) tNil)) tNil))) (gName j))) : SP' X F st (sAddPop j k i f) := wkS h fun D σ H ⟨O, ρ, o, r, e, p⟩ => by
  unfold sAddPop at e
  split at e <;> first | (cases e; done) | skip
  rename_i es hk
  split at e <;> first | (cases e; done) | skip
  rename_i ds hc
  obtain ⟨n, ek, e⟩ := Rs.bnd_eq e
  obtain ⟨kk, ekk, e⟩ := Rs.bnd_eq e
  obtain ⟨q, eq, e⟩ := Rs.bnd_eq e
  split at e <;> first | (cases e; done) | skip
  rename_i hes
  cases e
  obtain ⟨v, v1, v2⟩ := r.slots k _ (getC_iff.mp hk)
  obtain ⟨hz, a, xs, h1, h2, h3, h4⟩ := own_at r hc
  refine ⟨v, v1, _, h2, .inl ⟨rfl, xs, .of h3⟩, O, ρ, n, r, ek, fun w H1 s r1 => ?_⟩
  have ek' : w = .int kk := by
    cases n with
    | int q => cases ekk; exact r1.intV
    | _ => exact nomatch ekk
  obtain ⟨k1, k2, m, y, q1, q2, q3, q4, q5⟩ := popAt_ok (h4.mono (hide_same s)) eq
  refine ⟨a, xs, kk, m, y, rfl, by rw [ek'], s _ _ h3, k1, k2, q1, q2, ?_⟩
  obtain ⟨m1, m2⟩ := (r.mono s).mut (i := i) (xs := xs.eraseIdx m) (es := q.2) (getC_iff.mp hc) h1 (by omega) q4
  refine ⟨by rw [List.length_singleton, sizeLine_eq]; omega, fun pp ob hp ho => ?_⟩
  refine ⟨NN F O, .tuple es, .tuple [q.1], .tuple (es ++ [q.1]), fun z hz => (m1.mono (same_upd hp)).nlive hz, ((v2.mono (hide_same s)).mono m2).mono (hide_same (same_upd hp)), newT ho (fun z hz => m1.nlive hz) hp (by rw [List.length_singleton, sizeLine_eq]; omega) (.cons (q3.mono m2) .nil), if_pos (by rw [List.length_singleton]; exact hes), fun v' H' s3 r3 => ?_⟩
  have m3 := (m1.mono (same_upd hp)).mono s3
  have g := got_one (i := j) m3 r3
  exact p _ _ _ g.rel ((((hide_same s).trans m2).trans ((hide_same (same_upd hp)).trans (hide_same s3))).trans g.vis)
end
end PL
namespace PL
open PySem PySem.Spec PyProof.Rows L2
/-! a list of one's own is seen by what is appended to it -/
mutual
def noL : PyData → Bool
  | .none => true
  | .bool _ => true
  | .int _ => true
  | .str _ => true
  | .list _ => false
  | .tuple ds => noLs ds
  | .dict _ => false
def noLs : List PyData → Bool
  | [] => true
  | d :: ds => noL d && noLs ds
end
section
variable {K : PySem.W.Frag} {H : Hp} {N N' : Addr → Prop}
theorem hide_skip (hN : ∀ b, N' b → N b ∨ ∃ xs, H b = some (.lst xs)) {b : Addr} {o : HO} (h : hide N H b = some o) (ho : ∀ xs, o ≠ .lst xs) : hide N' H b = some o := by
  obtain ⟨h1, h2⟩ := hide_some h
  refine hide_of (fun z => ?_) h2
  rcases hN b z with z | ⟨xs, z⟩
  · exact h1 z
  · rw [h2] at z
    exact ho xs (Option.some.inj z)
theorem nod_skip (hN : ∀ b, N' b → N b ∨ ∃ xs, H b = some (.lst xs)) {a : Addr} (h : NoD K (hide N H) a) : NoD K (hide N' H) a := by
  rcases h with ⟨o, u, h1, h2⟩ | h
  · exact .inl ⟨o, u, h1, hide_skip hN h2 (fun _ => by simp)⟩
  · exact .inr h
theorem sqt_skip (hN : ∀ b, N' b → N b ∨ ∃ xs, H b = some (.lst xs)) {a : Addr} {xs : List V} (h : SqT K (hide N H) a xs) : SqT K (hide N' H) a xs := by
  rcases h with (h | ⟨o, h⟩) | h
  · exact .inl (.inl (hide_skip hN h (fun _ => by simp)))
  · exact .inl (.inr ⟨o, hide_skip hN h (fun _ => by simp)⟩)
  · exact .inr h
mutual
theorem R.skip (hN : ∀ b, N' b → N b ∨ ∃ xs, H b = some (.lst xs)) : ∀ {d : PyData} {v : V}, noL d = true → R K (hide N H) d v → R K (hide N' H) d v
  | .none, _, _, h => by simpa [R] using h
  | .bool _, _, _, h => by simpa [R] using h
  | .int _, _, _, h => by simpa [R] using h
  | .str _, _, _, h => by simpa [R] using h
  | .list ds, v, n, h => by rw [noL] at n; exact nomatch n
  | .tuple ds, v, n, h => by
    rw [noL] at n
    rw [R] at h ⊢
    obtain ⟨z, a, xs, e1, e2, e3⟩ := h
    exact ⟨z, a, xs, e1, sqt_skip hN e2, RA.skip hN n e3.1, e3.2.imp (nod_skip hN) id⟩
  | .dict _, _, n, h => by rw [noL] at n; exact nomatch n
theorem RA.skip (hN : ∀ b, N' b → N b ∨ ∃ xs, H b = some (.lst xs)) : ∀ {ds : List PyData} {vs : List V}, noLs ds = true → RA K (hide N H) ds vs → RA K (hide N' H) ds vs
  | [], _, _, h => by rw [RA] at h ⊢; exact h
  | d :: ds, vs, n, h => by
    rw [noLs, Bool.and_eq_true] at n
    rw [RA] at h ⊢
    obtain ⟨x, r, e1, e2, e3⟩ := h
    exact ⟨x, r, e1, R.skip hN n.1 e2, RA.skip hN n.2 e3⟩
end
end
/-- own.append(E), where E sees the list itself, and holds no list -/
def sAppSee (i : Nat) (f : Ev → Rs PyData) : Ev → Rs Out := fun ρ => match getC ρ i with
  | some (.own ds) => (f (ρ.set i (some (.pub (.list ds))))).bnd fun d => if noL d = true ∧ ds.length < sizeLine then .ok (.nx (ρ.set i (some (.own (ds ++ [d]))))) else .no
  | _ => .no
section
variable {X : Cx} {F : FC}
theorem s_appSee {st : Stmt} {i : Nat} {f : Ev → Rs PyData} (h : PS X st (tDrop (tBM X.K "list" rAppend (tVar i) (tCons (tP X.kb F f) tNil)))) : SP' X F st (sAppSee i f) := wkS h fun D σ H ⟨O, ρ, o, r, e, p⟩ => by
  unfold sAppSee at e
  split at e <;> first | (cases e; done) | skip
  rename_i ds hc
  obtain ⟨d, ed, e⟩ := Rs.bnd_eq e
  split at e <;> first | (cases e; done) | skip
  rename_i hz
  cases e
  obtain ⟨_, a, xs, h1, h2, h3, h4⟩ := own_at r hc
  refine ⟨_, h2, .inl ⟨rfl, xs, .of h3⟩, minusO O i, _, d, r.pubOwn (getC_iff.mp hc), ed, fun v H' s r' => ?_⟩
  have h3' := s _ _ h3
  have r'' : R X.K (hide (NN F O) H') d v := R.skip (fun b hb => by
    rcases hb with hb | ⟨j, hb⟩
    · exact .inl (.inl hb)
    · by_cases q : j = i
      · subst q
        rw [h1] at hb
        have := Option.some.inj hb
        exact .inr ⟨xs, by rw [← this]; exact h3'⟩
      · refine .inl (.inr ⟨j, ?_⟩)
        unfold minusO
        rw [if_neg (fun z => q z.1)]; exact hb) hz.1 r'
  refine ⟨a, xs, v, rfl, rfl, h3', by rw [h4.len]; exact hz.2, ?_⟩
  obtain ⟨m1, m2⟩ := (r.mono s).mut (i := i) (xs := xs ++ [v]) (es := ds ++ [d]) (getC_iff.mp hc) h1 (by rw [List.length_append, List.length_singleton]; have := hz.2; omega) ((h4.mono (hide_same s)).append (.cons r'' .nil))
  exact p O _ _ m1 ((hide_same s).trans m2)
end
end PL


/-! PL13: defs that raise, raise, try .. except -/
namespace PL
open PySem PySem.Spec PyProof.Rows L2
theorem Rel.h0n {K : KB} {F : FC} {O : Own} {ρ : Ev} {σ : St} {H : Hp} (r : Rel K F O ρ σ H) {a : Addr} (h : H a = none) : F.H0 a = none := by
  cases q : F.H0 a with
  | none => rfl
  | some x => rw [(r.base a x q).1] at h; exact nomatch h
abbrev XM := Nat → Option (Addr × Option Str)
/-- the promise of a def that may raise -/
def spX (K : PySem.W.Frag) (xm : XM) (n : Nat) (G : List PyData → Rs PyData) : Sp := fun vs H Q E => ∃ (hid : Addr → Prop) (ds : List PyData), (∀ a, hid a → H a ≠ none) ∧ RA K (hide hid H) ds vs ∧ ds.length = n ∧ match G ds with
  | .ok d => ∀ v H', Same H H' → R K (hide hid H') d v → Q v H'
  | .ex c fs => (xm c).isSome = true ∧ ∀ cls d H', Same H H' → ExOk xm (fun a => H a = none) H' c fs cls d → E cls d H'
  | .no => False
theorem fn_ruleX {P : Program} {w : World} {K : PySem.W.Frag} {mg : Str → Option Value} {base : Heap} {x : Str} {st : Stmt} {N ps : List Str} {k n m : Nat} {xm : XM} {body : Ev → Rs Out} {G : List PyData → Rs PyData} {sc : Scope} (I : FnI K mg x st ps) (hsc : defScope st = sc) (S : FnScope N ps sc) (hn : ps.length ≤ N.length) (hp : ps.length = n) (hm : N.length = m) (hG : G = run m body)
    (hb : ∀ (cdv : Value) (A : Around) (outer : List Env) (s : Shared) (H : Hp) (E : XK) (F : FC), Room k (A.deeper (envOfC x sc s.heap.objs.size I.a cdv)) → F.xm = xm → Takes (cxOf (L2.CX P w) P w K mg base N x sc I.a cdv A outer s H E) F.W → PSs (cxOf (L2.CX P w) P w K mg base N x sc I.a cdv A outer s H E) (defBody st) (tS ⟨K, P, w⟩ F body)) (hm' : m ≤ 1000 := by decide) :
    FnOk P w K mg base (L2.CX P w) (k + 1) I.a I.d ps (spX K xm n G) := by
  subst hsc hp hm hG
  refine I.F.okX S (fun vs H Q E h => ?_) (fun cdv A outer s H vs Q E hr h => ?_)
  · obtain ⟨hid, ds, h1, h2, h3, _⟩ := h
    rw [h2.len, h3]
  · obtain ⟨hid, ds, h1, h2, h3, h4⟩ := h
    refine ⟨_, hb cdv A outer s H E { hid := hid, H0 := H, xm := xm, W := fun cls d _ H' => E cls d H' } hr rfl (takes_of rfl rfl rfl rfl), ?_⟩
    have st := fun (F : FC) (e : F.hid = hid) (e0 : F.H0 = H) (ef : F.fix = fun _ => none) => start_rel (K := ⟨K, P, w⟩) (F := F) (N := N) h1 h2 (by omega) e e0 hm' ef
    unfold run at h4
    split at h4
    · rename_i d hd
      split at hd <;> first | (cases hd; done) | skip
      · rename_i d' eo
        cases hd
        exact ⟨fun _ => none, startE N.length ds, _, st _ rfl rfl rfl, eo, fun v H' s r' => h4 v H' s r'⟩
      · rename_i ρ' eo
        cases hd
        exact ⟨fun _ => none, startE N.length ds, _, st _ rfl rfl rfl, eo, fun O' σ' H' r' v' => h4 _ H' r'.h0 .none⟩
      · rename_i es eo
        cases hd
        exact ⟨fun _ => none, startE N.length ds, _, st _ rfl rfl rfl, eo, fun p xs H' s hp hh hl hz ra => h4 _ H' s (.list hz (.of (hide_of hh hl)) (ra.mono (hide_anti fun a z => .inl z)))⟩
    · rename_i c fs hd
      split at hd <;> first | (cases hd; done) | skip
      rename_i ρ' c' fs' eo
      cases hd
      exact ⟨fun _ => none, startE N.length ds, _, st _ rfl rfl rfl, eo, h4.1, fun O' σ' H' cls d r' v' q => h4.2 cls d H' r'.h0 (q.imp fun a z => z.2)⟩
    · exact h4.elim

/-- a reading that may raise -/
def tPX (K : KB) (F : FC) (f : Ev → Rs PyData) : TE := fun σ H Q => ∃ O ρ, Rel K F O ρ σ H ∧ match f ρ with
  | .ok d => ∀ v H', Same H H' → R K.K (hide (NN F O) H') d v → Q v H'
  | .ex c fs => (F.xm c).isSome = true ∧ ∀ cls d H', Same H H' → ExOk F.xm (Nw F O) H' c fs cls d → F.W cls d σ H'
  | .no => False
abbrev XP' (X : Cx) (F : FC) (e : Expr) (f : Ev → Rs PyData) : Prop := PE X e (tPX X.kb F f)
def argX (G : List PyData → Rs PyData) (g : Ev → Rs (List PyData)) : Ev → Rs PyData := fun ρ => match g ρ with
  | .ok ds => G ds
  | _ => .no
section
variable {X : Cx} {F : FC}
/-- a call that raises nothing, of a def that might -/
theorem e_callI0 {k n : Nat} {ps : List Str} {st : Stmt} {xm : XM} {G : List PyData → Rs PyData} {x : Str} {p pos : Pos} {e : Expr} {es : List Expr} {g : Ev → Rs (List PyData)} (I : FnI X.K X.mg x st ps) (Fn : FnOk X.prog X.w X.K X.mg X.base (L2.CX X.prog X.w) k I.a I.d ps (spX X.K xm n G)) (hr : Room k X.A)
    (ha : AP' X F (e :: es) g) (hl : Ln n g) (hg : Gl X x := by rfl) (hdb : (x == ("__debug__" : Str)) = false := by decide) (he : starEach (e :: es) X.env = (false, eval e X.env) :: starEach es X.env := by rfl) (hpl : (backTo pos (starEach es X.env)).any (·.1) = false := by rfl) :
    EP' X F (.Call (.Name x p) (e :: es) [] pos) (apC G g) :=
  wkE (pe_call Fn hr hg I.m I.F.kp I.b .nil passL ha hdb he hpl) fun σ H Q ⟨O, ρ, d, r, e, q⟩ => by
    obtain ⟨a, ea, e⟩ := Rs.bnd_eq e
    exact ⟨O, ρ, a, r, ea, fun vs H1 s1 r1 => ⟨NN F O, a, fun z n => (r.mono s1).nlive n, by rw [List.append_nil]; exact r1, hl ρ a ea, by rw [e]; exact fun v H' s3 r3 => q v H' (s1.trans s3) r3⟩⟩
/-- a call that may raise -/
theorem x_call {k n : Nat} {ps : List Str} {st : Stmt} {G : List PyData → Rs PyData} {x : Str} {p pos : Pos} {e : Expr} {es : List Expr} {g : Ev → Rs (List PyData)} (I : FnI X.K X.mg x st ps) {xm : XM} (Fn : FnOk X.prog X.w X.K X.mg X.base (L2.CX X.prog X.w) k I.a I.d ps (spX X.K xm n G)) (hr : Room k X.A) (hx : F.xm = xm) (tk : Takes X F.W)
    (ha : AP' X F (e :: es) g) (hl : Ln n g) (hg : Gl X x := by rfl) (hdb : (x == ("__debug__" : Str)) = false := by decide) (he : starEach (e :: es) X.env = (false, eval e X.env) :: starEach es X.env := by rfl) (hpl : (backTo pos (starEach es X.env)).any (·.1) = false := by rfl) :
    XP' X F (.Call (.Name x p) (e :: es) [] pos) (argX G g) := by
  subst hx
  exact wkE (pe_callS Fn hr hg I.m I.F.kp I.b (fun σ => passAt tk σ) ha hdb he hpl) fun σ H Q ⟨O, ρ, r, q⟩ => by
    unfold argX at q
    cases ea : g ρ with
    | ok a =>
      rw [ea] at q
      refine ⟨O, ρ, a, r, ea, fun vs H1 s1 r1 => ⟨NN F O, a, fun z n => (r.mono s1).nlive n, r1, hl ρ a ea, ?_⟩⟩
      simp only at q
      cases eG : G a with
      | ok d => rw [eG] at q; exact fun v H' s3 r3 => q v H' (s1.trans s3) r3
      | ex c fs => rw [eG] at q; exact ⟨q.1, fun cls d H' s3 x => q.2 cls d H' (s1.trans s3) (x.imp fun a z => ⟨fun n => (r.mono s1).nlive n z, (r.mono s1).h0n z⟩)⟩
      | no => rw [eG] at q; exact q
    | ex c fs => rw [ea] at q; exact q.elim
    | no => rw [ea] at q; exact q.elim
/-- a call that raises nothing, as the calls that may are read -/
theorem p_arg {e : Expr} {G : List PyData → Rs PyData} {g : Ev → Rs (List PyData)} (h : EP' X F e (apC G g)) : EP' X F e (argX G g) := wkE h fun σ H Q ⟨O, ρ, d, r, e, q⟩ => by
  unfold argX at e
  split at e
  · rename_i ds ed
    exact ⟨O, ρ, d, r, by unfold apC; rw [ed]; exact e, q⟩
  · exact nomatch e
def sDoX (f : Ev → Rs PyData) : Ev → Rs Out := fun ρ => lft (f ρ) ρ fun _ => .ok (.nx ρ)
def sSetX (i : Nat) (f : Ev → Rs PyData) : Ev → Rs Out := fun ρ => lft (f ρ) ρ fun d => .ok (.nx (ρ.set i (some (.pub d))))
def sRetX (f : Ev → Rs PyData) : Ev → Rs Out := fun ρ => lft (f ρ) ρ fun d => .ok (.rt d)
def sRaise (c : Nat) : Ev → Rs Out := fun ρ => .ok (.xc ρ c [])
theorem lft_eq {α : Type} {r : Rs α} {ρ : Ev} {k : α → Rs Out} {o : Out} (h : lft r ρ k = .ok o) : (∃ a, r = .ok a ∧ k a = .ok o) ∨ ∃ c fs, r = .ex c fs ∧ o = .xc ρ c fs := by
  cases r with
  | ok a => exact .inl ⟨a, rfl, h⟩
  | ex c fs => exact .inr ⟨c, fs, rfl, (Rs.ok.inj h).symm⟩
  | no => exact nomatch h
theorem calm_no {K : KB} {D : Ends} {O : Own} {H : Hp} {ρ : Ev} {c : Nat} {fs : List PyData} {p : Prop} (hF : Calm F) (h : Post K F D O H (.xc ρ c fs)) : p := by
  have h1 : (F.xm c).isSome = true := h.1
  rw [show F.xm = fun _ => none from hF] at h1
  exact nomatch h1
/-- where no exception leaves -/
theorem s_doC {e : Expr} {f : Ev → Rs PyData} {pos : Pos} (hF : Calm F) (h : EP' X F e f) (hs : swapsWith e none pos.line X.env = pure false := by rfl) : SP' X F (.Expr e pos) (sDoX f) := wkS (ps_expr h hs) fun D σ H ⟨O, ρ, o, r, e, p⟩ => by
  rcases lft_eq e with ⟨d, ed, e⟩ | ⟨c, fs, ed, e⟩
  · cases e
    exact ⟨O, ρ, d, r, ed, fun v H' s r' => p O σ H' (r.mono s) (hide_same s)⟩
  · subst e; exact calm_no hF p
theorem s_setC {st : Stmt} {i : Nat} {f : Ev → Rs PyData} (hF : Calm F) (h : PS X st (tAsg (tP X.kb F f) (gName i))) : SP' X F st (sSetX i f) := wkS (s_set h) fun D σ H ⟨O, ρ, o, r, e, p⟩ => by
  rcases lft_eq e with ⟨d, ed, e⟩ | ⟨c, fs, ed, e⟩
  · exact ⟨O, ρ, o, r, by unfold sSet; rw [ed]; exact e, p⟩
  · subst e; exact calm_no hF p
theorem s_retC {e : Expr} {f : Ev → Rs PyData} {pos : Pos} (hF : Calm F) (h : EP' X F e f) : SP' X F (.Return (some e) pos) (sRetX f) := wkS (s_ret h) fun D σ H ⟨O, ρ, o, r, e, p⟩ => by
  rcases lft_eq e with ⟨d, ed, e⟩ | ⟨c, fs, ed, e⟩
  · exact ⟨O, ρ, o, r, by unfold sRet; rw [ed]; exact e, p⟩
  · subst e; exact calm_no hF p
theorem s_raiseC {st : Stmt} {c : Nat} (hF : Calm F) : SP' X F st (sRaise c) := wkS ps_never fun D σ H ⟨O, ρ, o, r, e, p⟩ => by
  cases e; exact calm_no hF p
/-! where one may leave -/
theorem s_doX {e : Expr} {f : Ev → Rs PyData} {pos : Pos} (h : XP' X F e f) (hs : swapsWith e none pos.line X.env = pure false := by rfl) : SP' X F (.Expr e pos) (sDoX f) := wkS (ps_expr h hs) fun D σ H ⟨O, ρ, o, r, e, p⟩ => by
  refine ⟨O, ρ, r, ?_⟩
  rcases lft_eq e with ⟨d, ed, e⟩ | ⟨c, fs, ed, e⟩
  · cases e; rw [ed]
    exact fun v H' s r' => p O σ H' (r.mono s) (hide_same s)
  · subst e; rw [ed]
    exact ⟨p.1, fun cls d H' s q => p.2 O σ H' cls d (r.mono s) (hide_same s) q⟩
theorem s_setX {st : Stmt} {i : Nat} {f : Ev → Rs PyData} (h : PS X st (tAsg (tPX X.kb F f) (gName i))) : SP' X F st (sSetX i f) := wkS h fun D σ H ⟨O, ρ, o, r, e, p⟩ => by
  refine ⟨O, ρ, r, ?_⟩
  rcases lft_eq e with ⟨d, ed, e⟩ | ⟨c, fs, ed, e⟩
  · cases e; rw [ed]
    intro v H' s r'
    have g := got_one (i := i) (r.mono s) r'
    exact p _ _ H' g.rel ((hide_same s).trans g.vis)
  · subst e; rw [ed]
    exact ⟨p.1, fun cls d H' s q => p.2 O σ H' cls d (r.mono s) (hide_same s) q⟩
theorem s_retX {e : Expr} {f : Ev → Rs PyData} {pos : Pos} (h : XP' X F e f) : SP' X F (.Return (some e) pos) (sRetX f) := wkS (ps_ret h) fun D σ H ⟨O, ρ, o, r, e, p⟩ => by
  refine ⟨O, ρ, r, ?_⟩
  rcases lft_eq e with ⟨d, ed, e⟩ | ⟨c, fs, ed, e⟩
  · cases e; rw [ed]
    exact fun v H' s r' => p v H' (r.mono s).h0 (r'.mono hid_le)
  · subst e; rw [ed]
    exact ⟨p.1, fun cls d H' s q => p.2 O σ H' cls d (r.mono s) (hide_same s) q⟩
/-- raise c('..') -/
theorem s_raiseX {e : Expr} {c : Nat} {C : Addr} {pos : Pos} (hc : X.calm = true) (tk : Takes X F.W) (he : PMk X e (fun _ H Q => Q (.ref C) none H)) {xm : XM} (hx : F.xm = xm) (hC : xm c = some (C, none)) : SP' X F (.Raise (some e) none pos) (sRaise c) := wkS (ps_raise hc tk he) fun D σ H ⟨O, ρ, o, r, e, p⟩ => by
  cases e
  exact p.2 O σ H (.ref C) none r (Same.refl _) ⟨C, none, by rw [hx]; exact hC, rfl, rfl⟩
end

/-! ### try -/
def cool1 : Option Cell → Option Cell
  | some .hot => none
  | c => c
/-- without what is in hand -/
def cool (ρ : Ev) : Ev := ρ.map cool1
theorem cool_get {ρ : Ev} {i : Nat} {c : Cell} (h : (cool ρ)[i]? = some (some c)) : ρ[i]? = some (some c) ∧ c ≠ .hot := by
  unfold cool at h
  rw [List.getElem?_map] at h
  cases e : ρ[i]? with
  | none => rw [e] at h; exact nomatch h
  | some o =>
    rw [e] at h
    have h' : cool1 o = some c := Option.some.inj h
    cases o with
    | none => exact nomatch h'
    | some c' => cases c' <;> first | (cases h'; exact ⟨rfl, by simp⟩) | (cases h'; done)
theorem Rel.cool {K : KB} {F F' : FC} {O : Own} {ρ : Ev} {σ : St} {H : Hp} (r : Rel K F O ρ σ H) (h1 : F'.hid = F.hid) (h2 : ∀ a x, F'.H0 a = some x → F.H0 a = some x) (h3 : ∀ a, F'.hid a → F'.H0 a ≠ none) (h4 : ∀ i a, F'.fix i = some a → F.fix i = some a) : Rel K F' O (cool ρ) σ H := by
  have nn : NN F' O = NN F O := by unfold NN; rw [h1]
  refine ⟨by rw [r.len]; unfold PL.cool; rw [List.length_map], r.inj, r.live, h3, fun a x h => r.base a x (h2 a x h), fun i c q => ?_, ⟨by unfold PL.cool; rw [List.length_map]; exact r.obs.sz, fun i a c e1 e2 => r.obs.fx i a c (h4 i a e1) (cool_get e2).1, fun i j k c e1 e2 => r.obs.als i j k c (cool_get e1).1 (cool_get e2).1⟩⟩
  obtain ⟨e, ne⟩ := cool_get q
  have s := r.slots i c e
  rw [nn]
  cases c with
  | pub d => exact s
  | own ds => exact s
  | odc kvs => exact s
  | odi kvs => exact s
  | dsp D s' => exact s
  | obj _ => exact s
  | prf _ _ => exact s
  | hot => exact absurd rfl ne
theorem Rel.setHot {K : KB} {F : FC} {O : Own} {ρ : Ev} {σ : St} {H : Hp} (r : Rel K F O ρ σ H) {i : Nat} {a : Addr} (h : F.ht = some a) : Rel K F O (ρ.set i (some .hot)) (σ.set i (some (.ref a))) H := by
  refine ⟨by rw [List.length_set, List.length_set]; exact r.len, r.inj, r.live, r.hidl, r.base, fun j c q => ?_, r.obs.set (fun _ _ => rfl) (fun j hj => List.getElem?_set_ne (Ne.symm hj)) (by simp) (by simp)⟩
  rcases set_get q with ⟨rfl, e, hl⟩ | ⟨hj, q⟩
  · cases e
    exact ⟨a, h, by rw [List.getElem?_set_self (by rw [r.len]; exact hl)]⟩
  · exact (r.slots j c q).st (List.getElem?_set_ne (Ne.symm hj))
/-- the same, but for the wishes -/
theorem Rel.re {K : KB} {F F' : FC} {O : Own} {ρ : Ev} {σ : St} {H : Hp} (r : Rel K F O ρ σ H) (h1 : F'.hid = F.hid) (h2 : F'.H0 = F.H0) (h3 : F'.ht = F.ht) (h4 : F'.fix = F.fix) : Rel K F' O ρ σ H := by
  have nn : NN F' O = NN F O := by unfold NN; rw [h1]
  refine ⟨r.len, r.inj, r.live, fun a h => ?_, fun a x h => r.base a x (by rw [← h2]; exact h), fun i c q => by rw [nn, h3]; exact r.slots i c q, by rw [h4]; exact r.obs⟩
  rw [h2]; exact r.hidl a (by rw [← h1]; exact h)
def coolO : Out → Rs Out
  | .nx ρ => .ok (.nx (cool ρ))
  | .bk ρ => .ok (.bk (cool ρ))
  | .ct ρ => .ok (.ct (cool ρ))
  | .rt d => .ok (.rt d)
  | .xc ρ c fs => .no
  | .rn ds => .ok (.rn ds)
  | .ro ρ d => .no
def goneO (i : Nat) : Out → Rs Out
  | .nx ρ => .ok (.nx ((cool ρ).set i none))
  | .bk ρ => .ok (.bk ((cool ρ).set i none))
  | .ct ρ => .ok (.ct ((cool ρ).set i none))
  | .rt d => .ok (.rt d)
  | .xc ρ c fs => .no
  | .rn ds => .ok (.rn ds)
  | .ro ρ d => .no
/-- try: b, except (the classes of t): h -/
def sTry (t : Nat → Option Bool) (b : Ev → Rs Out) (h : Nat → List PyData → Ev → Rs Out) : Ev → Rs Out := fun ρ => (b ρ).bnd fun o => match o with
  | .xc ρ' c fs => (match t c with
    | some true => (h c fs (cool ρ')).bnd coolO
    | some false => .ok (.xc ρ' c fs)
    | none => .no)
  | o => .ok o
/-- the same with a name for what is in hand -/
def sTryAs (i : Nat) (t : Nat → Option Bool) (b : Ev → Rs Out) (h : Nat → List PyData → Ev → Rs Out) : Ev → Rs Out := fun ρ => (b ρ).bnd fun o => match o with
  | .xc ρ' c fs => (match t c with
    | some true => (h c fs ((cool ρ').set i (some .hot))).bnd (goneO i)
    | some false => .ok (.xc ρ' c fs)
    | none => .no)
  | o => .ok o
/-- the context of a suite: what is owned is left open -/
noncomputable def fcS (F : FC) (O : Own) (H : Hp) (a : Addr) : FC where
  hid := F.hid
  H0 := fun b => open Classical in if ∃ i, O i = some b then none else H b
  ht := some a
  fix := F.fix
theorem rel_suite {K : KB} {F : FC} {O : Own} {ρ : Ev} {σ : St} {H : Hp} (r : Rel K F O ρ σ H) (a : Addr) : Rel K (fcS F O H a) O (cool ρ) σ H ∧ ∀ b x, F.H0 b = some x → (fcS F O H a).H0 b = some x := by
  have h2 : ∀ b x, F.H0 b = some x → (fcS F O H a).H0 b = some x := fun b x e => by
    show (open Classical in if ∃ i, O i = some b then none else H b) = some x
    rw [if_neg (fun ⟨i, z⟩ => (r.base b x e).2 i z)]
    exact (r.base b x e).1
  have h3 : ∀ b, (fcS F O H a).hid b → (fcS F O H a).H0 b ≠ none := fun b hb => by
    cases q : F.H0 b with
    | none => exact absurd q (r.hidl b hb)
    | some x => rw [h2 b x q]; simp
  have c := r.cool (F' := F) rfl (fun _ _ h => h) r.hidl (fun _ _ h => h)
  refine ⟨⟨c.len, c.inj, c.live, h3, fun b x e => ?_, fun i cl q => ?_, c.obs⟩, h2⟩
  · have e' : (open Classical in if ∃ i, O i = some b then none else H b) = some x := e
    split at e'
    · exact nomatch e'
    · rename_i hn
      exact ⟨e', fun i z => hn ⟨i, z⟩⟩
  · have s := c.slots i cl q
    obtain ⟨_, ne⟩ := cool_get q
    cases cl with
    | pub d => exact s
    | own ds => exact s
    | odc kvs => exact s
    | odi kvs => exact s
    | dsp D s' => exact s
    | obj _ => exact s
    | prf _ _ => exact s
    | hot => exact absurd rfl ne
section
variable {X : Cx} {F : FC} {xm : XM} {x n : Str} {cv : Value} {t : Nat → Option Bool} {body suite : List Stmt} {b₀ : Stmt} {np pos pos' : Pos} {b : Ev → Rs Out} {h : Nat → List PyData → Ev → Rs Out}
/-- what the body's outcomes but exceptions want is what the whole wants -/
theorem post_re {K : KB} {F1 : FC} {D : Ends} {O : Own} {H : Hp} {o : Out} (p : Post K F D O H o) (e1 : F1.hid = F.hid) (e2 : F1.H0 = F.H0) (e3 : F1.ht = F.ht) (e4 : F1.fix = F.fix) (ho : ∀ ρ c fs, o ≠ .xc ρ c fs) : Post K F1 D O H o := by
  have nn : ∀ O, NN F1 O = NN F O := fun O => by unfold NN; rw [e1]
  cases o with
  | nx ρ => exact fun O' σ' H' r s => p O' σ' H' (r.re e1.symm e2.symm e3.symm e4.symm) (by rw [nn, nn] at s; exact s)
  | bk ρ => exact fun O' σ' H' r s => p O' σ' H' (r.re e1.symm e2.symm e3.symm e4.symm) (by rw [nn, nn] at s; exact s)
  | ct ρ => exact fun O' σ' H' r s => p O' σ' H' (r.re e1.symm e2.symm e3.symm e4.symm) (by rw [nn, nn] at s; exact s)
  | rt d => exact fun v H' s r => p v H' (by rw [e2] at s; exact s) (by rw [e1] at r; exact r)
  | xc ρ c fs => exact absurd rfl (ho ρ c fs)
  | ro ρ d => exact fun O' σ' H' v r q => p O' σ' H' v (r.re e1.symm e2.symm e3.symm e4.symm) (by rw [nn] at q; exact q)
  | rn ds => exact fun p' xs H' s hp hh hl hz ra => p p' xs H' (by rw [e2] at s; exact s) (by rw [e2] at hp; exact hp) (by rw [e1] at hh; exact hh) hl hz (by rw [e1] at ra; exact ra)
theorem fcS_none {O : Own} {H : Hp} {a b : Addr} (h2 : ∀ b x, F.H0 b = some x → (fcS F O H a).H0 b = some x) (h : (fcS F O H a).H0 b = none) : F.H0 b = none := by
  cases q : F.H0 b with
  | none => rfl
  | some x => rw [h2 b x q] at h; exact nomatch h
/-- what the suite's outcomes want -/
theorem post_suite {K : KB} {D : Ends} {O : Own} {ρ : Ev} {σ : St} {H : Hp} {a : Addr} {o o' : Out} (r : Rel K F O ρ σ H) (e : coolO o = .ok o') (p : Post K F D O H o') : Post K (fcS F O H a) D O H o := by
  have h2 := (rel_suite r a).2
  have bk : ∀ {O' ρ' σ' H'}, Rel K (fcS F O H a) O' ρ' σ' H' → Rel K F O' (cool ρ') σ' H' := fun r' => Rel.cool (F' := F) r' rfl h2 r.hidl (fun _ _ h => h)
  cases o with
  | nx ρ => cases e; exact fun O' σ' H' r' s => p O' σ' H' (bk r') s
  | bk ρ => cases e; exact fun O' σ' H' r' s => p O' σ' H' (bk r') s
  | ct ρ => cases e; exact fun O' σ' H' r' s => p O' σ' H' (bk r') s
  | rt d => cases e; exact fun v H' s r' => p v H' (fun b x e => s b x (h2 b x e)) r'
  | xc ρ c fs => exact nomatch e
  | rn ds => cases e; exact fun p' xs H' s hp hh hl hz ra => p p' xs H' (fun b x e => s b x (h2 b x e)) (fcS_none h2 hp) hh hl hz ra
  | ro ρ d => exact nomatch e
theorem post_suiteA {K : KB} {D : Ends} {O : Own} {ρ : Ev} {σ : St} {H : Hp} {a : Addr} {i : Nat} {o o' : Out} (r : Rel K F O ρ σ H) (e : goneO i o = .ok o') (p : Post K F D O H o') :
    Post K (fcS F O H a) { nx := fun σ' H' => D.nx (σ'.set i none) H', rt := D.rt, bk := fun σ' H' => D.bk (σ'.set i none) H', ct := fun σ' H' => D.ct (σ'.set i none) H' } O H o := by
  have h2 := (rel_suite r a).2
  have bk : ∀ {O' ρ' σ' H'}, Rel K (fcS F O H a) O' ρ' σ' H' → Rel K F O' ((cool ρ').set i none) (σ'.set i none) H' := fun r' => (Rel.cool (F' := F) r' rfl h2 r.hidl (fun _ _ h => h)).setNone
  cases o with
  | nx ρ => cases e; exact fun O' σ' H' r' s => p O' _ H' (bk r') s
  | bk ρ => cases e; exact fun O' σ' H' r' s => p O' _ H' (bk r') s
  | ct ρ => cases e; exact fun O' σ' H' r' s => p O' _ H' (bk r') s
  | rt d => cases e; exact fun v H' s r' => p v H' (fun b x e => s b x (h2 b x e)) r'
  | xc ρ c fs => exact nomatch e
  | rn ds => cases e; exact fun p' xs H' s hp hh hl hz ra => p p' xs H' (fun b x e => s b x (h2 b x e)) (fcS_none h2 hp) hh hl hz ra
  | ro ρ d => exact nomatch e
theorem exS {K : KB} {O : Own} {ρ : Ev} {σ : St} {H : Hp} {a : Addr} {c : Nat} {fs : List PyData} {cls : Value} {d : Option Addr} (r : Rel K F O ρ σ H) (h : ExOk xm (Nw F O) H c fs cls d) : ExOk xm (fun _ => True) (fcS F O H a).H0 c fs cls d := by
  obtain ⟨C, fn, h1, h2, h3⟩ := h
  refine ⟨C, fn, h1, h2, ?_⟩
  split at h3
  · exact h3
  · obtain ⟨dd, e1, e2, e3⟩ := h3
    refine ⟨dd, e1, trivial, ?_⟩
    show (open Classical in if ∃ i, O i = some dd then none else H dd) = _
    rw [if_neg (fun z => e2.1 (.inr z))]
    exact e3
  · exact h3.elim
/-- try .. except x: -/
theorem s_try (hs : X.stack = X.env :: X.outer) (hf : X.env.frame = some X.env.locals) (hc : Names X x cv) {Wo : WX} (tk : Takes X Wo) (hF : Calm F ∨ (F.xm = xm ∧ F.W = Wo)) (ht : ∀ c b, t c = some b → ∃ C fn, xm c = some (C, fn) ∧ PySem.W.exmOne X.K (.ref C) cv = some b)
    (hb : ∀ (pn : List (Addr × Obj)) (xe : Value → Shared → Prop) (F : FC), F.xm = xm → Takes (X.tr pn xe) F.W → PassesOwn (model X.prog X.w) X.A X.env xe → PSs (X.tr pn xe) body (tS X.kb F b))
    (hsu : ∀ (a : Addr) (oe : Obj) (cls : Value) (d : Option Addr) (pn : List (Addr × Obj)) (c : Nat) (fs : List PyData) (F : FC), Zc cls d oe → (∃ vs, oe.data = .fields vs) → ExOk xm (fun _ => True) F.H0 c fs cls d → F.ht = some a → Calm F → PSs (X.suite a ((a, oe) :: pn)) (b₀ :: suite) (tS X.kb F (h c fs))) :
    SP' X F (.Try body [.ExceptHandler (some (.Name x np)) none (b₀ :: suite) pos'] [] [] pos) (sTry t b h) := by
  refine wkS (ps_try_only (tb := fun W D σ H => ∃ F1 : FC, F1.W = W ∧ F1.xm = xm ∧ tS X.kb F1 b D σ H)
    (ts := fun a cls d D σ H => ∃ (F1 : FC) (c : Nat) (fs : List PyData), ExOk xm (fun _ => True) F1.H0 c fs cls d ∧ F1.ht = some a ∧ Calm F1 ∧ tS X.kb F1 (h c fs) D σ H) hs hf hc tk (fun W pn xe tk po => ?_) (fun a oe cls d pn hz hfl => ?_)) fun D σ H ⟨O, ρ, o, r, e, p⟩ => ?_
  · exact ⟨fun pins s σ H D I ⟨F1, e1, e2, q⟩ => (hb pn xe F1 e2 (by rw [e1]; exact tk) po).run pins s σ H D I q⟩
  · exact ⟨fun pins s σ H D I ⟨F1, c, fs, h1, h2, h3, q⟩ => (hsu a oe cls d pn c fs F1 hz hfl h1 h2 h3).run pins s σ H D I q⟩
  · obtain ⟨ob, eb, e⟩ := Rs.bnd_eq e
    refine ⟨{ F with xm := xm, W := _ }, rfl, rfl, O, ρ, ob, r.re rfl rfl rfl rfl, eb, ?_⟩
    cases ob with
    | nx ρ' => cases e; exact post_re p rfl rfl rfl rfl (fun _ _ _ z => nomatch z)
    | bk ρ' => cases e; exact post_re p rfl rfl rfl rfl (fun _ _ _ z => nomatch z)
    | ct ρ' => cases e; exact post_re p rfl rfl rfl rfl (fun _ _ _ z => nomatch z)
    | rt d => cases e; exact post_re p rfl rfl rfl rfl (fun _ _ _ z => nomatch z)
    | rn ds => cases e; exact post_re p rfl rfl rfl rfl (fun _ _ _ z => nomatch z)
    | ro ρ' d => cases e; exact post_re p rfl rfl rfl rfl (fun _ _ _ z => nomatch z)
    | xc ρ' c fs =>
      simp only at e
      cases etc : t c with
      | none => rw [etc] at e; exact nomatch e
      | some bb =>
        rw [etc] at e
        obtain ⟨C, fn, hC, hx⟩ := ht c bb etc
        refine ⟨by show (xm c).isSome = true; rw [hC]; rfl, fun O' σ' H' cls d r' s' ex => ?_⟩
        have ex' : ExOk xm (Nw F O') H' c fs cls d := ex
        have ecls : cls = .ref C := by
          obtain ⟨C', fn', h1, h2, _⟩ := ex'
          rw [hC] at h1; cases h1; exact h2
        have rF : Rel X.kb F O' ρ' σ' H' := r'.re rfl rfl rfl rfl
        refine ⟨bb, by rw [ecls]; exact hx, fun hbb a na => ?_, fun hbb => ?_⟩
        · subst hbb
          obtain ⟨o2, e2, e3⟩ := Rs.bnd_eq e
          refine ⟨fcS F O' H' a, c, fs, exS rF ex', rfl, rfl, O', cool ρ', o2, (rel_suite rF a).1, e2, ?_⟩
          exact post_suite rF e3 (p.from s')
        · subst hbb
          cases e
          rcases hF with hF | hF
          · exact calm_no hF p
          · rw [← hF.2]; exact p.2 O' σ' H' cls d rF s' (by rw [hF.1]; exact ex')
/-- try .. except x as n: -/
theorem s_tryAs {i : Nat} (hN : X.N.Nodup) (hi : X.N[i]? = some n) (hln : X.env.kindOf n = some .local) (hs : X.stack = X.env :: X.outer) (hf : X.env.frame = some X.env.locals) (hc : Names X x cv) {Wo : WX} (tk : Takes X Wo) (hF : Calm F ∨ (F.xm = xm ∧ F.W = Wo)) (ht : ∀ c b, t c = some b → ∃ C fn, xm c = some (C, fn) ∧ PySem.W.exmOne X.K (.ref C) cv = some b)
    (hb : ∀ (pn : List (Addr × Obj)) (xe : Value → Shared → Prop) (F : FC), F.xm = xm → Takes (X.tr pn xe) F.W → PassesOwn (model X.prog X.w) X.A X.env xe → PSs (X.tr pn xe) body (tS X.kb F b))
    (hsu : ∀ (a : Addr) (oe : Obj) (cls : Value) (d : Option Addr) (pn : List (Addr × Obj)) (c : Nat) (fs : List PyData) (F : FC), Zc cls d oe → (∃ vs, oe.data = .fields vs) → ExOk xm (fun _ => True) F.H0 c fs cls d → F.ht = some a → Calm F → PSs (X.suite a ((a, oe) :: pn)) (b₀ :: suite) (tS X.kb F (h c fs))) :
    SP' X F (.Try body [.ExceptHandler (some (.Name x np)) (some n) (b₀ :: suite) pos'] [] [] pos) (sTryAs i t b h) := by
  refine wkS (ps_try_as (tb := fun W D σ H => ∃ F1 : FC, F1.W = W ∧ F1.xm = xm ∧ tS X.kb F1 b D σ H)
    (ts := fun a cls d D σ H => ∃ (F1 : FC) (c : Nat) (fs : List PyData), ExOk xm (fun _ => True) F1.H0 c fs cls d ∧ F1.ht = some a ∧ Calm F1 ∧ tS X.kb F1 (h c fs) D σ H) hs hf hN hi hln hc tk (fun W pn xe tk po => ?_) (fun a oe cls d pn hz hfl => ?_)) fun D σ H ⟨O, ρ, o, r, e, p⟩ => ?_
  · exact ⟨fun pins s σ H D I ⟨F1, e1, e2, q⟩ => (hb pn xe F1 e2 (by rw [e1]; exact tk) po).run pins s σ H D I q⟩
  · exact ⟨fun pins s σ H D I ⟨F1, c, fs, h1, h2, h3, q⟩ => (hsu a oe cls d pn c fs F1 hz hfl h1 h2 h3).run pins s σ H D I q⟩
  · obtain ⟨ob, eb, e⟩ := Rs.bnd_eq e
    refine ⟨{ F with xm := xm, W := _ }, rfl, rfl, O, ρ, ob, r.re rfl rfl rfl rfl, eb, ?_⟩
    cases ob with
    | nx ρ' => cases e; exact post_re p rfl rfl rfl rfl (fun _ _ _ z => nomatch z)
    | bk ρ' => cases e; exact post_re p rfl rfl rfl rfl (fun _ _ _ z => nomatch z)
    | ct ρ' => cases e; exact post_re p rfl rfl rfl rfl (fun _ _ _ z => nomatch z)
    | rt d => cases e; exact post_re p rfl rfl rfl rfl (fun _ _ _ z => nomatch z)
    | rn ds => cases e; exact post_re p rfl rfl rfl rfl (fun _ _ _ z => nomatch z)
    | ro ρ' d => cases e; exact post_re p rfl rfl rfl rfl (fun _ _ _ z => nomatch z)
    | xc ρ' c fs =>
      simp only at e
      cases etc : t c with
      | none => rw [etc] at e; exact nomatch e
      | some bb =>
        rw [etc] at e
        obtain ⟨C, fn, hC, hx⟩ := ht c bb etc
        refine ⟨by show (xm c).isSome = true; rw [hC]; rfl, fun O' σ' H' cls d r' s' ex => ?_⟩
        have ex' : ExOk xm (Nw F O') H' c fs cls d := ex
        have ecls : cls = .ref C := by
          obtain ⟨C', fn', h1, h2, _⟩ := ex'
          rw [hC] at h1; cases h1; exact h2
        have rF : Rel X.kb F O' ρ' σ' H' := r'.re rfl rfl rfl rfl
        refine ⟨bb, by rw [ecls]; exact hx, fun hbb a na => ?_, fun hbb => ?_⟩
        · subst hbb
          obtain ⟨o2, e2, e3⟩ := Rs.bnd_eq e
          refine ⟨fcS F O' H' a, c, fs, exS rF ex', rfl, rfl, O', (cool ρ').set i (some .hot), o2, (rel_suite rF a).1.setHot rfl, e2, ?_⟩
          exact post_suiteA rF e3 (p.from s')
        · subst hbb
          cases e
          rcases hF with hF | hF
          · exact calm_no hF p
          · rw [← hF.2]; exact p.2 O' σ' H' cls d rF s' (by rw [hF.1]; exact ex')
end
end PL


/-! PL14: classes of exceptions, isinstance in a suite, methods of plain values -/
namespace PL
open PySem PySem.Spec PyProof.Rows L2
theorem room65 {k : Nat} {A : Around} (r : Room k A) : A.units + 65 < cLine := by have := r.un; omega
def sRaiseF (c : Nat) (f : Ev → Rs PyData) : Ev → Rs Out := fun ρ => (f ρ).bnd fun d => .ok (.xc ρ c [d])
theorem s_raiseFC {X : Cx} {F : FC} {st : Stmt} {c : Nat} {f : Ev → Rs PyData} (hF : Calm F) : SP' X F st (sRaiseF c f) := wkS ps_never fun D σ H ⟨O, ρ, o, r, e, p⟩ => by
  obtain ⟨d, ed, e⟩ := Rs.bnd_eq e
  cases e; exact calm_no hF p

abbrev baseVE : List Value := [.type "ValueError", .type "Exception", .type "BaseException", .type "object"]
/-- an error's class -/
structure ExcN (K : PySem.W.Frag) (mg : Str → Option Value) (x : Str) where
  C : Addr
  g : mg x = some (.ref C)
  k : PySem.W.keepIn K (.ref C) = true
  b : PySem.W.subIn K (.ref C) (.type "BaseException") = some true
  t : PySem.W.typeIn K (.ref C) = some (.type "type")
  h : PySem.W.hasDictIn K C = true
/-- an error's class, which has no making of its own -/
structure ExcI (K : PySem.W.Frag) (mg : Str → Option Value) (x : Str) extends ExcN K mg x where
  q : PySem.W.excIn K C baseVE "ValueError.__new__" = true
/-- a table that tells of classes -/
def TabX (xm : XM) (f : Addr → Bool → Prop) (l : List (Nat × Bool)) : Prop := ∀ c b, l.lookup c = some b → ∃ C fn, xm c = some (C, fn) ∧ f C b
theorem tx_n {xm : XM} {f : Addr → Bool → Prop} : TabX xm f [] := fun _ _ e => nomatch e
theorem tx_c {xm : XM} {f : Addr → Bool → Prop} {c : Nat} {b : Bool} {C : Addr} {fn : Option Str} {l : List (Nat × Bool)} (hx : xm c = some (C, fn)) (hf : f C b) (t : TabX xm f l) : TabX xm f ((c, b) :: l) := fun c' b' e => by
  rw [List.lookup_cons] at e
  split at e
  · rename_i h
    cases e
    rw [eq_of_beq h]
    exact ⟨C, fn, hx, hf⟩
  · exact t c' b' e
theorem sub_self {K : PySem.W.Frag} {mg : Str → Option Value} {x : Str} (D : ExcI K mg x) : PySem.W.subIn K (.ref D.C) (.ref D.C) = some true := by
  have q := D.q
  unfold PySem.W.excIn at q
  split at q
  · rename_i cd sl e
    split at q
    · rename_i C' bm _ _ _ _ n _ em es
      have hC : C' = D.C := by
        have := (Bool.and_eq_true_iff.mp (Bool.and_eq_true_iff.mp (Bool.and_eq_true_iff.mp (Bool.and_eq_true_iff.mp (Bool.and_eq_true_iff.mp q).1).1).1).1).1
        simpa using this
      show PySem.W.mroIn K D.C (.ref D.C) = some true
      unfold PySem.W.mroIn PySem.W.clsIn
      rw [e]
      show (if cd.mro.isEmpty then none else some (cd.mro.contains (.ref D.C))) = some true
      rw [em, hC]
      simp
    · exact nomatch q
  · exact nomatch q
theorem exm_sub {K : PySem.W.Frag} {mg : Str → Option Value} {x y : Str} {b : Bool} (D : ExcN K mg y) (C : ExcI K mg x) (h : PySem.W.subIn K (.ref C.C) (.ref D.C) = some b) : PySem.W.exmOne K (.ref C.C) (.ref D.C) = some b := PySem.W.exm_ref D.b D.h D.t h
theorem kit_sub {K : PySem.W.Frag} {mg : Str → Option Value} {x y : Str} {b : Bool} (D : ExcN K mg y) (C : ExcI K mg x) (h : PySem.W.subIn K (.ref C.C) (.ref D.C) = some b) : PySem.W.kitOne K (.ref C.C) (.ref D.C) = some b := by
  by_cases e : C.C = D.C
  · unfold PySem.W.kitOne
    rw [if_pos (by rw [e]; exact beq_self_eq_true _)]
    have q : PySem.W.exmOne K (.ref C.C) (.ref D.C) = some b := exm_sub D C h
    have hs : PySem.W.subIn K (.ref C.C) (.ref C.C) = some true := sub_self C
    rw [← e] at h
    rw [hs] at h; exact h
  · unfold PySem.W.kitOne
    rw [if_neg (fun z => e (by simpa using z))]
    obtain ⟨cd, hc, _⟩ := PySem.W.any_some D.h
    have e2 : ((PySem.W.clsIn K D.C).isSome && PySem.W.typeIn K (.ref D.C) == some (.type "type")) = true := by rw [hc, D.t] <;> rfl
    show (if ((PySem.W.clsIn K D.C).isSome && PySem.W.typeIn K (.ref D.C) == some (.type "type")) = true then PySem.W.subIn K (.ref C.C) (.ref D.C) else none) = some b
    rw [if_pos e2]
    exact h
/-- raise x('..') -/
theorem pm_exc {X : Cx} {x m : Str} {j : Nat} {p p2 pos : Pos} (T : ExcI X.K X.mg x) (hg : Gl X x := by rfl) (hdb : (x == ("__debug__" : Str)) = false := by decide) : PMk X (.Call (.Name x p) [.Constant (.str m) j p2] [] pos) (fun _ H Q => Q (.ref T.C) none H) :=
  pmk_own PySem.F.excBase_ValueError T.q T.g T.k (raises_own T.b T.t) hg hdb
theorem nm_exc {X : Cx} {x : Str} (T : ExcI X.K X.mg x) (hg : Gl X x := by rfl) (hdb : (x == ("__debug__" : Str)) = false := by decide) : Names X x (.ref T.C) := ⟨hg, hdb, .inl T.g⟩

def TabE (xm : XM) (f : Addr → Bool → Prop) (l : List (Nat × Bool)) : Prop := ∀ c b, l.lookup c = some b → ∃ C, xm c = some (C, none) ∧ f C b
theorem ti_n {xm : XM} {f : Addr → Bool → Prop} : TabE xm f [] := fun _ _ e => nomatch e
theorem ti_c {xm : XM} {f : Addr → Bool → Prop} {c : Nat} {b : Bool} {C : Addr} {l : List (Nat × Bool)} (hx : xm c = some (C, none)) (hf : f C b) (t : TabE xm f l) : TabE xm f ((c, b) :: l) := fun c' b' e => by
  rw [List.lookup_cons] at e
  split at e
  · rename_i h
    cases e
    rw [eq_of_beq h]
    exact ⟨C, hx, hf⟩
  · exact t c' b' e
/-! isinstance(n, x) of the exception in hand -/
def isX (i : Nat) (l : List (Nat × Bool)) (c : Nat) : Ev → Rs PyData := fun ρ => match getC ρ i with
  | some .hot => (match l.lookup c with | some b => .ok (.bool b) | none => .no)
  | _ => .no
section
variable {X : Cx} {F : FC} {xm : XM}
theorem p_isX {i : Nat} {a cD : Addr} {oe : Obj} {cls : Value} {d : Option Addr} {pn : List (Addr × Obj)} {c : Nat} {fs : List PyData} {l : List (Nat × Bool)} {x n : Str} {p1 p2 p3 pos : Pos} (hz : Zc cls d oe) (hf : ∃ vs, oe.data = .fields vs) (hx : ExOk xm (fun _ => True) F.H0 c fs cls d) (hht : F.ht = some a)
    (T : TabE xm (fun C b => ExcC X.K C ∧ PySem.W.kitOne X.K (.ref C) (.ref cD) = some b) l)
    (hn : PE (X.suite a ((a, oe) :: pn)) (.Name n p1) (tVar i)) (hg : Gl X "isinstance") (hm : X.mg "isinstance" = none) (hgx : Gl X x := by rfl) (hmx : X.mg x = some (.ref cD)) (hdx : (x == ("__debug__" : Str)) = false := by decide)
    (hb : bootBuiltins "isinstance" = some (.builtin "isinstance") := by decide +kernel)
    (h1 : starEach [.Name n p1, .Name x p2] (X.suite a ((a, oe) :: pn)).env = (false, eval (.Name n p1) (X.suite a ((a, oe) :: pn)).env) :: starEach [.Name x p2] (X.suite a ((a, oe) :: pn)).env := by rfl)
    (h2 : starEach [.Name x p2] (X.suite a ((a, oe) :: pn)).env = (false, eval (.Name x p2) (X.suite a ((a, oe) :: pn)).env) :: starEach [] (X.suite a ((a, oe) :: pn)).env := by rfl)
    (hpl : (backTo pos (starEach [.Name x p2] (X.suite a ((a, oe) :: pn)).env)).any (·.1) = false := by rfl) :
    EP' (X.suite a ((a, oe) :: pn)) F (.Call (.Name "isinstance" p3) [.Name n p1, .Name x p2] [] pos) (isX i l c) := by
  refine ⟨fun pins s σ H Q I ⟨O, ρ, dd, r, e, q⟩ => ?_⟩
  unfold isX at e
  split at e <;> first | (cases e; done) | skip
  rename_i hc
  split at e <;> first | (cases e; done) | skip
  rename_i b hl
  cases e
  obtain ⟨C, e1, h3, h4⟩ := T c b hl
  obtain ⟨C', fn', e1', e2, e3⟩ := hx
  rw [e1] at e1'; cases e1'
  cases fs with
  | cons _ _ => exact e3.elim
  | nil =>
    simp only at e3
    subst e2 e3
    obtain ⟨a', ha', hs⟩ := r.slots i _ (getC_iff.mp hc)
    rw [hht] at ha'; cases ha'
    exact (pe_callB (call_isE h3 hz hf) hg hm hb (pa_cons hn (pa_cons (pe_glob (v := .ref cD) hgx hmx rfl hdx) pa_nil h2) h1) (hpl := hpl) (he := h1)).run pins s σ H Q I ⟨_, hs, .ref cD, .ref cD, b, rfl, fun u ru => ru, h4, q _ H (Same.refl H) .bool⟩
end

/-! methods of plain values -/
def rPM (K : PySem.W.Frag) (op : PyData → List PyData → Rs PyData) : V → List V → Hp → VK → Prop := fun x xs H Q => ∃ (N : Addr → Prop) (d : PyData) (ds : List PyData) (e : PyData), (∀ a, N a → H a ≠ none) ∧ R K (hide N H) d x ∧ RA K (hide N H) ds xs ∧ op d ds = .ok e ∧ ∀ v H', Same H H' → R K (hide N H') e v → Q v H'
/-- d is of the type T -/
def tyD (T : String) : PyData → Bool
  | .list _ => T == "list"
  | .str _ => T == "str"
  | .int _ => T == "int"
  | _ => false
def apM (T : String) (op : PyData → List PyData → Rs PyData) (f : Ev → Rs PyData) (g : Ev → Rs (List PyData)) : Ev → Rs PyData := fun ρ => (f ρ).bnd fun d => (g ρ).bnd fun ds => if tyD T d = true then op d ds else .no
theorem tyV_d {K : PySem.W.Frag} {T : String} {H : Hp} {d : PyData} {x : V} (h : tyD T d = true) (r : R K H d x) : tyV K T x H := by
  cases d with
  | list ds =>
    obtain ⟨z, a, xs, rfl, h1, t1⟩ := r.listV
    exact .inl ⟨eq_of_beq h, xs, h1⟩
  | str y => rw [R] at r; rw [r.1]; exact eq_of_beq h
  | int i => rw [r.intV]; exact eq_of_beq h
  | _ => exact nomatch h
section
variable {X : Cx} {F : FC}
theorem p_bm {T id : String} {name : Str} {o e : Expr} {es : List Expr} {op : PyData → List PyData → Rs PyData} {f : Ev → Rs PyData} {g : Ev → Rs (List PyData)} {apos cpos : Pos} (pa : PlainAttrs T) (slot : Slot T name id) (hty : typeOf (.builtin id) = pure (.type "method_descriptor")) (hm : MtR X id (rPM X.K op)) (ho : EP' X F o f) (ha : AP' X F (e :: es) g)
    (hbase : attributeBase o name X.env (eval o X.env) = eval o X.env := by rfl)
    (hfew : ((backTo cpos (starEach (e :: es) X.env)).all (fun x => !x.1) && (backToKw cpos (keywordEach [] X.env)).all (fun x => x.1.isSome)
      && decide ((e :: es).length + ([] : List Keyword).length + (if ([] : List Keyword).isEmpty then 0 else 1) < 30)) = true := by rfl)
    (hline : (apos.endLine == cpos.line) = true := by rfl) (hs : starEach (e :: es) X.env = (false, eval e X.env) :: starEach es X.env := by rfl) (hplain : (backTo cpos (starEach es X.env)).any (·.1) = false := by rfl) :
    EP' X F (.Call (.Attribute o name apos) (e :: es) [] cpos) (apM T op f g) :=
  wkE (pe_bm pa slot hty hm ho ha hbase hfew hline hs hplain) fun σ H Q ⟨O, ρ, d, r, e, q⟩ => by
    obtain ⟨d1, e1, e⟩ := Rs.bnd_eq e
    obtain ⟨ds, e2, e⟩ := Rs.bnd_eq e
    split at e <;> first | (cases e; done) | skip
    rename_i ht
    exact ⟨O, ρ, d1, r, e1, fun x H1 s1 r1 => ⟨tyV_d ht (r1.mono hide_le), O, ρ, ds, r.mono s1, e2, fun xs H2 s2 r2 => ⟨NN F O, d1, ds, d, fun z n => ((r.mono s1).mono s2).nlive n, r1.mono (hide_same s2), r2, e, fun v H' s3 r3 => q v H' ((s1.trans s2).trans s3) r3⟩⟩⟩
theorem p_bm0 {T id : String} {name : Str} {o : Expr} {op : PyData → List PyData → Rs PyData} {f : Ev → Rs PyData} {apos cpos : Pos} (pa : PlainAttrs T) (slot : Slot T name id) (hty : typeOf (.builtin id) = pure (.type "method_descriptor")) (hm : MtR X id (rPM X.K op)) (ho : EP' X F o f)
    (hbase : attributeBase o name X.env (eval o X.env) = eval o X.env := by rfl) (hline : (apos.endLine == cpos.line) = true := by rfl) :
    EP' X F (.Call (.Attribute o name apos) [] [] cpos) (apM T op f aN) :=
  wkE (pe_bm0 pa slot hty hm ho hbase hline) fun σ H Q ⟨O, ρ, d, r, e, q⟩ => by
    obtain ⟨d1, e1, e⟩ := Rs.bnd_eq e
    obtain ⟨ds, e2, e⟩ := Rs.bnd_eq e
    cases e2
    split at e <;> first | (cases e; done) | skip
    rename_i ht
    exact ⟨O, ρ, d1, r, e1, fun x H1 s1 r1 => ⟨tyV_d ht (r1.mono hide_le), NN F O, d1, [], d, fun z n => (r.mono s1).nlive n, r1, .nil, e, fun v H' s3 r3 => q v H' (s1.trans s3) r3⟩⟩
end
/-- the first place of an equal one -/
def indexL (d : PyData) : List PyData → Option Nat
  | [] => none
  | z :: r => if PyData.eqv z d = true then some 0 else (indexL d r).map (· + 1)
theorem indexL_spec {d : PyData} : ∀ {ds : List PyData} {j : Nat}, indexL d ds = some j → ∃ z, ds[j]? = some z ∧ PyData.eqv z d = true ∧ ∀ m z', m < j → ds[m]? = some z' → PyData.eqv z' d = false
  | [], j, h => nomatch h
  | z :: r, j, h => by
    unfold indexL at h
    split at h
    · cases h
      exact ⟨z, rfl, by assumption, fun m z' hm => absurd hm (Nat.not_lt_zero m)⟩
    · rename_i hn
      obtain ⟨k, hk, rfl⟩ := Option.map_eq_some_iff.mp h
      obtain ⟨y, h1, h2, h3⟩ := indexL_spec hk
      refine ⟨y, by simpa using h1, h2, fun m z' hm e => ?_⟩
      cases m with
      | zero => simp at e; subst e; simpa using hn
      | succ m => exact h3 m z' (by omega) (by simpa using e)
def indexD : PyData → List PyData → Rs PyData
  | .list ds, [d] => if SeqAt.shaped (.list ds) = true ∧ SeqAt.shaped d = true ∧ nodAll ds = true ∧ nod d = true then (match indexL d ds with | some j => .ok (.int j) | none => .no) else .no
  | _, _ => .no
/-- the same for a tuple; a call of a tuple's method -/
def intsO : List PyData → Option (List Int)
  | [] => some []
  | .int i :: ds => (intsO ds).map fun l => i :: l
  | _ :: _ => none
def indexT : PyData → List PyData → Rs PyData
  | .tuple ds, [.int k] => (match intsO ds with
    | some ns => if k ∈ ns then .ok (.int (ns.idxOf k : Nat)) else .no
    | none => .no)
  | _, _ => .no
/-- enumerate of a tuple -/
def enumTD : List PyData → Rs (List PyData)
  | [.tuple a] => .ok (a.mapIdx fun i x => .tuple [.int i, x])
  | _ => .no
def apT (op : PyData → List PyData → Rs PyData) (f : Ev → Rs PyData) (g : Ev → Rs (List PyData)) : Ev → Rs PyData := fun ρ => (f ρ).bnd fun d => (g ρ).bnd fun ds => op d ds
theorem m_index {X : Cx} (hu : X.A.units + 65 < cLine) : MtR X "list.index" (rPM X.K indexD) := by
  intro pins s σ H x xs v us Q I rx rxs ⟨N, d, ds, e, n, r, ra, eo, q⟩
  unfold indexD at eo
  split at eo <;> first | (cases eo; done) | skip
  rename_i ds' d'
  split at eo <;> first | (cases eo; done) | skip
  rename_i hc
  split at eo <;> first | (cases eo; done) | skip
  rename_i j hj
  cases eo
  obtain ⟨z, h1, h2, h3⟩ := indexL_spec hj
  obtain ⟨y, rfl, r2⟩ := ra.inv1
  have rl := (r.mono hide_le).dp (by rw [nod]; exact hc.2.2.1)
  have r' := r
  obtain ⟨_, a, _, rfl, _, _⟩ := r'.listV
  exact mt_indexD hu pins s σ H _ _ v us Q I rx rxs ⟨a, y, d', ds', j, z, rfl, rfl, rl, (r2.mono hide_le).dp hc.2.2.2, hc.1, hc.2.1, h1, h2, h3, q _ H (Same.refl H) .int⟩
end PL
/-! calls that see a list of one's own and give what is on no heap -/
namespace PL
open PySem PySem.Spec PyProof.Rows L2
def tAW (K : KB) (F : FC) (g : Ev → Rs (List PyData)) : TA := fun σ H Q => ∃ O ρ ds, Rel K F O ρ σ H ∧ g ρ = .ok ds ∧ ∀ vs H', Same H H' → RA K.K H' ds vs → Q vs H'
abbrev WA' (X : Cx) (F : FC) (es : List Expr) (g : Ev → Rs (List PyData)) : Prop := PA X es (tAW X.kb F g)
section
variable {X : Cx} {F : FC}
theorem wa_n : WA' X F [] aN := wkA pa_nil fun σ H Q ⟨O, ρ, d, r, e, q⟩ => by
  cases e
  exact q [] H (Same.refl H) .nil
theorem wa_c {e : Expr} {es : List Expr} {f : Ev → Rs PyData} {g : Ev → Rs (List PyData)} (h : WE' X F e f) (t : WA' X F es g)
    (hs : starEach (e :: es) X.env = (false, eval e X.env) :: starEach es X.env := by rfl) : WA' X F (e :: es) (aC f g) := wkA (pa_cons h t hs) fun σ H Q ⟨O, ρ, d, r, e, q⟩ => by
  obtain ⟨a, ea, e⟩ := Rs.bnd_eq e
  obtain ⟨b, eb, e⟩ := Rs.bnd_eq e
  cases e
  exact ⟨O, ρ, a, r, ea, fun x H1 s1 r1 => ⟨O, ρ, b, r.mono s1, eb, fun xs H2 s2 r2 => q (x :: xs) H2 (s1.trans s2) (.cons (r1.mono s2) r2)⟩⟩
theorem no_hideA {K : PySem.W.Frag} {H : Hp} {ds : List PyData} {vs : List V} (r : RA K H ds vs) : RA K (hide (fun _ => False) H) ds vs := r.mono fun _ _ e => hide_of (fun z => z) e
theorem w_callI {k n : Nat} {ps : List Str} {st : Stmt} {G : List PyData → Rs PyData} {x : Str} {p pos : Pos} {e : Expr} {es : List Expr} {g : Ev → Rs (List PyData)} (I : FnI X.K X.mg x st ps) (Fn : FnOk X.prog X.w X.K X.mg X.base CX0 k I.a I.d ps (spP X.K n G)) (hr : Room k X.A)
    (ha : WA' X F (e :: es) g) (hl : Ln n g) (hg : Gl X x := by rfl) (hdb : (x == ("__debug__" : Str)) = false := by decide) (he : starEach (e :: es) X.env = (false, eval e X.env) :: starEach es X.env := by rfl) (hpl : (backTo pos (starEach es X.env)).any (·.1) = false := by rfl) :
    EP' X F (.Call (.Name x p) (e :: es) [] pos) (flatE (apC G g)) :=
  wkE (pe_call Fn hr hg I.m I.F.kp I.b .nil pass0 ha hdb he hpl) fun σ H Q ⟨O, ρ, d, r, e, q⟩ => by
    obtain ⟨d', ed, e⟩ := Rs.bnd_eq e
    obtain ⟨a, ea, e2⟩ := Rs.bnd_eq ed
    exact ⟨O, ρ, a, r, ea, fun vs H1 s1 r1 => ⟨fun _ => False, a, d', fun z n => n.elim, by rw [List.append_nil]; exact no_hideA r1, hl ρ a ea, e2, fun v H' s3 r3 => q v H' (s1.trans s3) (flat_any e r3)⟩⟩
/-! x.pop(), x.clear() -/
def sPop (i : Nat) : Ev → Rs Out := fun ρ => match getC ρ i with
  | some (.own ds) => if ds = [] then .no else .ok (.nx (ρ.set i (some (.own ds.dropLast))))
  | _ => .no
def sClear (i : Nat) : Ev → Rs Out := fun ρ => match getC ρ i with
  | some (.own _) => .ok (.nx (ρ.set i (some (.own []))))
  | _ => .no
theorem s_pop {st : Stmt} {i : Nat} (h : PS X st (tDrop (tBM0 X.K "list" rPop (tVar i)))) : SP' X F st (sPop i) := wkS h fun D σ H ⟨O, ρ, o, r, e, p⟩ => by
  unfold sPop at e
  split at e <;> first | (cases e; done) | skip
  rename_i ds hc
  split at e <;> first | (cases e; done) | skip
  rename_i hn
  cases e
  obtain ⟨hz, a, xs, h1, h2, h3, h4⟩ := own_at r hc
  have hl := h4.len
  have hp : 0 < ds.length := List.length_pos_iff.mpr hn
  have hlt : xs.length - 1 < xs.length := by omega
  have e1 : xs.dropLast = xs.take (xs.length - 1) := List.dropLast_eq_take
  have e2 : ds.dropLast = ds.take (xs.length - 1) := by rw [List.dropLast_eq_take, hl]
  refine ⟨_, h2, .inl ⟨rfl, xs, .of h3⟩, a, xs, xs[xs.length - 1], rfl, rfl, h3, List.getElem?_eq_getElem hlt, ?_⟩
  obtain ⟨m1, m2⟩ := r.mut (i := i) (xs := xs.dropLast) (es := ds.dropLast) (getC_iff.mp hc) h1 (by rw [List.length_dropLast]; omega) (by rw [e1, e2]; exact h4.take _)
  exact p O _ _ m1 m2
theorem s_clear {st : Stmt} {i : Nat} (h : PS X st (tDrop (tBM0 X.K "list" rClear (tVar i)))) : SP' X F st (sClear i) := wkS h fun D σ H ⟨O, ρ, o, r, e, p⟩ => by
  unfold sClear at e
  split at e <;> first | (cases e; done) | skip
  rename_i ds hc
  cases e
  obtain ⟨hz, a, xs, h1, h2, h3, h4⟩ := own_at r hc
  refine ⟨_, h2, .inl ⟨rfl, xs, .of h3⟩, a, xs, rfl, rfl, h3, ?_⟩
  obtain ⟨m1, m2⟩ := r.mut (i := i) (xs := []) (es := []) (getC_iff.mp hc) h1 (Nat.zero_le _) .nil
  exact p O _ _ m1 m2
end
end PL


/-! PL15: things of a slot's own as trees: their parts, references to them -/
namespace PL
open PySem PySem.Spec PyProof.Rows L2

mutual
/-- how many addresses a thing takes -/
def fsz : OC → Nat
  | .p _ => 0
  | .l cs => fszs cs + 1
  | .d _ => 1
  | .o _ _ cs => fszs cs + 2
def fszs : List OC → Nat
  | [] => 0
  | c :: cs => fsz c + fszs cs
end
mutual
/-- the part whose first address is the k-th -/
def subAt : OC → Nat → Option OC
  | .p _, _ => none
  | .l cs, k => match k with | 0 => some (.l cs) | k + 1 => subsAt cs k
  | .d kvs, k => match k with | 0 => some (.d kvs) | _ + 1 => none
  | .o c ns cs, k => match k with | 0 => some (.o c ns cs) | 1 => none | k + 2 => subsAt cs k
def subsAt : List OC → Nat → Option OC
  | [], _ => none
  | c :: cs, k => if k < fsz c then subAt c k else subsAt cs (k - fsz c)
end
mutual
def setSub : OC → Nat → OC → OC
  | .p d, _, _ => .p d
  | .l cs, k, x => match k with | 0 => x | k + 1 => .l (setSubs cs k x)
  | .d kvs, k, x => match k with | 0 => x | _ + 1 => .d kvs
  | .o c ns cs, k, x => match k with | 0 => x | 1 => .o c ns cs | k + 2 => .o c ns (setSubs cs k x)
def setSubs : List OC → Nat → OC → List OC
  | [], _, _ => []
  | c :: cs, k, x => if k < fsz c then setSub c k x :: cs else c :: setSubs cs (k - fsz c) x
end
section
variable {K : KB} {N : Addr → Prop} {H : Hp}
mutual
theorem CellAt.size : ∀ {c : OC} {v : V} {A : List Addr}, CellAt K N H c v A → A.length = fsz c
  | .p _, v, A, h => by rw [CellAt] at h; rw [h.1]; rfl
  | .l cs, v, A, h => by
    rw [CellAt] at h
    obtain ⟨a, xs, B, rfl, _, _, _, h5⟩ := h
    rw [List.length_cons, CellsAt.size h5]; rfl
  | .d _, v, A, h => by
    rw [CellAt] at h
    obtain ⟨_, a, _, _, _, rfl, _⟩ := h
    rfl
  | .o _ _ cs, v, A, h => by
    rw [CellAt] at h
    obtain ⟨a, dx, C, xs, B, rfl, _, _, _, _, _, h7⟩ := h
    rw [List.length_cons, List.length_cons, CellsAt.size h7]; rfl
theorem CellsAt.size : ∀ {cs : List OC} {xs : List V} {A : List Addr}, CellsAt K N H cs xs A → A.length = fszs cs
  | [], xs, A, h => by rw [CellsAt] at h; rw [h.2]; rfl
  | c :: cs, xs, A, h => by
    rw [CellsAt] at h
    obtain ⟨x, r, A1, A2, _, rfl, h3, h4⟩ := h
    rw [List.length_append, CellAt.size h3, CellsAt.size h4]; rfl
end
mutual
theorem CellAt.live : ∀ {c : OC} {v : V} {A : List Addr}, CellAt K N H c v A → ∀ a ∈ A, H a ≠ none
  | .p _, v, A, h => by rw [CellAt] at h; rw [h.1]; intro a ha; cases ha
  | .l cs, v, A, h => by
    rw [CellAt] at h
    obtain ⟨a, xs, B, rfl, _, _, h4, h5⟩ := h
    intro b hb
    rcases List.mem_cons.mp hb with rfl | hb
    · rw [h4]; simp
    · exact CellsAt.live h5 b hb
  | .d _, v, A, h => by
    rw [CellAt] at h
    obtain ⟨_, a, _, _, _, rfl, _, h3, _⟩ := h
    intro b hb
    rw [List.mem_singleton.mp hb, h3]; simp
  | .o _ _ cs, v, A, h => by
    rw [CellAt] at h
    obtain ⟨a, dx, C, xs, B, rfl, _, _, _, h5, h6, h7⟩ := h
    intro b hb
    rcases List.mem_cons.mp hb with rfl | hb
    · rw [h5]; simp
    · rcases List.mem_cons.mp hb with rfl | hb
      · rw [h6]; simp
      · exact CellsAt.live h7 b hb
theorem CellsAt.live : ∀ {cs : List OC} {xs : List V} {A : List Addr}, CellsAt K N H cs xs A → ∀ a ∈ A, H a ≠ none
  | [], xs, A, h => by rw [CellsAt] at h; rw [h.2]; intro a ha; cases ha
  | c :: cs, xs, A, h => by
    rw [CellsAt] at h
    obtain ⟨x, r, A1, A2, _, rfl, h3, h4⟩ := h
    intro b hb
    rcases List.mem_append.mp hb with hb | hb
    · exact CellAt.live h3 b hb
    · exact CellsAt.live h4 b hb
end
theorem CellsAt.vlen : ∀ {cs : List OC} {xs : List V} {A : List Addr}, CellsAt K N H cs xs A → xs.length = cs.length
  | [], xs, A, h => by rw [CellsAt] at h; rw [h.1]; rfl
  | c :: cs, xs, A, h => by
    rw [CellsAt] at h
    obtain ⟨x, r, A1, A2, rfl, _, _, h4⟩ := h
    rw [List.length_cons, List.length_cons, h4.vlen]
theorem subAt_zero {c : OC} (h : fsz c ≠ 0) : subAt c 0 = some c := by
  cases c <;> first | (exact absurd rfl h) | (unfold subAt; rfl)
theorem setSub_zero {c x : OC} (h : fsz c ≠ 0) : setSub c 0 x = x := by
  cases c <;> first | (exact absurd rfl h) | (unfold setSub; rfl)
/-- the thing is a reference to its first address -/
theorem CellAt.root {c : OC} {v : V} {A : List Addr} (h : CellAt K N H c v A) (n : fsz c ≠ 0) : ∃ a B, A = a :: B ∧ v = .ref a := by
  cases c with
  | p d => exact absurd rfl n
  | l cs => rw [CellAt] at h; obtain ⟨a, xs, B, e1, e2, _⟩ := h; exact ⟨a, B, e1, e2⟩
  | d kvs => rw [CellAt] at h; obtain ⟨_, a, es, ep, xs, e1, e2, _⟩ := h; exact ⟨a, [], e1, e2⟩
  | o c ns cs => rw [CellAt] at h; obtain ⟨a, dx, C, xs, B, e1, e2, _⟩ := h; exact ⟨a, dx :: B, e1, e2⟩
/-- a part, and another one in its place -/
def Focus (K : KB) (N : Addr → Prop) (H : Hp) (A : List Addr) (k : Nat) (c' : OC) (put : OC → (Addr → Prop) → Hp → List Addr → Prop) : Prop :=
  ∃ a A1 A2 A3, A = A1 ++ A2 ++ A3 ∧ A1.length = k ∧ CellAt K N H c' (.ref a) A2 ∧ A2.head? = some a ∧ fsz c' ≠ 0 ∧
    ∀ N' H' c2 A2', Same (hide N H) (hide N' H') → (∀ b ∈ A1 ++ A3, ∀ o, H b = some o → H' b = some o) → CellAt K N' H' c2 (.ref a) A2' → put c2 N' H' (A1 ++ A2' ++ A3)
theorem focus_here {c : OC} {v : V} {A : List Addr} (h : CellAt K N H c v A) (n : fsz c ≠ 0) : Focus K N H A 0 c fun c2 N' H' B => CellAt K N' H' c2 v B := by
  obtain ⟨a, B, e1, e2⟩ := h.root n
  subst e2
  refine ⟨a, [], A, [], by simp, rfl, h, by rw [e1]; rfl, n, fun N' H' c2 A2' s k h2 => by simpa using h2⟩
mutual
theorem CellAt.focus : ∀ {c : OC} {v : V} {A : List Addr} {k : Nat} {c' : OC}, CellAt K N H c v A → subAt c k = some c' → Focus K N H A k c' fun c2 N' H' B => CellAt K N' H' (setSub c k c2) v B
  | .p d, v, A, k, c', h, e => by unfold subAt at e; exact nomatch e
  | .l cs, v, A, 0, c', h, e => by
    unfold subAt at e; cases e
    have := focus_here h (by unfold fsz; omega)
    unfold setSub; exact this
  | .l cs, v, A, k + 1, c', h, e => by
    unfold subAt at e
    rw [CellAt] at h
    obtain ⟨a, xs, B, rfl, h2, h3, h4, h5⟩ := h
    obtain ⟨b, A1, A2, A3, e1, e2, e3, e4, e5, put⟩ := CellsAt.focus h5 e
    refine ⟨b, a :: A1, A2, A3, by rw [e1]; rfl, by rw [List.length_cons, e2], e3, e4, e5, fun N' H' c2 A2' s kp h' => ?_⟩
    unfold setSub
    show CellAt K N' H' (.l (setSubs cs k c2)) v _
    obtain ⟨q1, q2⟩ := put N' H' c2 A2' s (fun b hb => kp b (List.mem_cons_of_mem _ hb)) h'
    rw [CellAt]
    exact ⟨a, xs, A1 ++ A2' ++ A3, rfl, h2, by rw [q2]; exact h3, kp a (by simp) _ h4, q1⟩
  | .d kvs, v, A, 0, c', h, e => by
    unfold subAt at e; cases e
    have := focus_here h (by unfold fsz; omega)
    unfold setSub; exact this
  | .d kvs, v, A, k + 1, c', h, e => by unfold subAt at e; exact nomatch e
  | .o c ns cs, v, A, 0, c', h, e => by
    unfold subAt at e; cases e
    have := focus_here h (by unfold fsz; omega)
    unfold setSub; exact this
  | .o c ns cs, v, A, 1, c', h, e => by unfold subAt at e; exact nomatch e
  | .o c ns cs, v, A, k + 2, c', h, e => by
    unfold subAt at e
    rw [CellAt] at h
    obtain ⟨a, dx, C, xs, B, rfl, h2, h3, h4, h5, h6, h7⟩ := h
    obtain ⟨b, A1, A2, A3, e1, e2, e3, e4, e5, put⟩ := CellsAt.focus h7 e
    refine ⟨b, a :: dx :: A1, A2, A3, by rw [e1]; rfl, by rw [List.length_cons, List.length_cons, e2], e3, e4, e5, fun N' H' c2 A2' s kp h' => ?_⟩
    unfold setSub
    show CellAt K N' H' (.o c ns (setSubs cs k c2)) v _
    obtain ⟨q1, q2⟩ := put N' H' c2 A2' s (fun b hb => kp b (List.mem_cons_of_mem _ (List.mem_cons_of_mem _ hb))) h'
    rw [CellAt]
    exact ⟨a, dx, C, xs, A1 ++ A2' ++ A3, rfl, h2, h3, by rw [q2]; exact h4, kp a (by simp) _ h5, kp dx (by simp) _ h6, q1⟩
theorem CellsAt.focus : ∀ {cs : List OC} {xs : List V} {A : List Addr} {k : Nat} {c' : OC}, CellsAt K N H cs xs A → subsAt cs k = some c' → Focus K N H A k c' fun c2 N' H' B => CellsAt K N' H' (setSubs cs k c2) xs B ∧ (setSubs cs k c2).length = cs.length
  | [], xs, A, k, c', h, e => by unfold subsAt at e; exact nomatch e
  | c :: cs, xs, A, k, c', h, e => by
    unfold subsAt at e
    rw [CellsAt] at h
    obtain ⟨x, r, B1, B2, rfl, rfl, h3, h4⟩ := h
    have z1 := h3.size
    by_cases hk : k < fsz c
    · rw [if_pos hk] at e
      obtain ⟨b, A1, A2, A3, e1, e2, e3, e4, e5, put⟩ := CellAt.focus h3 e
      refine ⟨b, A1, A2, A3 ++ B2, by rw [e1]; simp, e2, e3, e4, e5, fun N' H' c2 A2' s kp h' => ?_⟩
      have q1 := put N' H' c2 A2' s (fun b hb => kp b (by rcases List.mem_append.mp hb with hb | hb <;> simp [hb])) h'
      show CellsAt K N' H' (setSubs (c :: cs) k c2) (x :: r) (A1 ++ A2' ++ (A3 ++ B2)) ∧ (setSubs (c :: cs) k c2).length = (c :: cs).length
      rw [show setSubs (c :: cs) k c2 = setSub c k c2 :: cs by unfold setSubs; rw [if_pos hk]]
      refine ⟨?_, rfl⟩
      rw [CellsAt]
      exact ⟨x, r, A1 ++ A2' ++ A3, B2, rfl, by simp, q1, h4.move s fun b hb => kp b (by simp [hb])⟩
    · rw [if_neg hk] at e
      obtain ⟨b, A1, A2, A3, e1, e2, e3, e4, e5, put⟩ := CellsAt.focus h4 e
      refine ⟨b, B1 ++ A1, A2, A3, by rw [e1]; simp, by rw [List.length_append, e2, z1]; omega, e3, e4, e5, fun N' H' c2 A2' s kp h' => ?_⟩
      obtain ⟨q1, q2⟩ := put N' H' c2 A2' s (fun b hb => kp b (by rcases List.mem_append.mp hb with hb | hb <;> simp [hb])) h'
      show CellsAt K N' H' (setSubs (c :: cs) k c2) (x :: r) (B1 ++ A1 ++ A2' ++ A3) ∧ (setSubs (c :: cs) k c2).length = (c :: cs).length
      rw [show setSubs (c :: cs) k c2 = c :: setSubs cs (k - fsz c) c2 by rw [setSubs, if_neg hk]]
      refine ⟨?_, by rw [List.length_cons, q2, List.length_cons]⟩
      rw [CellsAt]
      exact ⟨x, r, B1, A1 ++ A2' ++ A3, rfl, by simp, h3.move s fun b hb => kp b (by simp [hb]), q1⟩
end
end
end PL


/-! PL16: a slot's own thing is changed; references to its parts; fields and items that are plain -/
namespace PL
open PySem PySem.Spec PyProof.Rows L2

def setO (O : Own) (j : Nat) (A : List Addr) : Own := fun i => if 1000 ≤ i ∧ (i - 1000) % 1000 = j then A[(i - 1000) / 1000]? else O i
theorem setO_ox {O : Own} {j k : Nat} {A : List Addr} (hj : j < 1000) : setO O j A (ox j k) = A[k]? := by
  unfold setO ox
  rw [if_pos (by omega)]
  congr 1; omega
theorem setO_ne {O : Own} {j i : Nat} {A : List Addr} (h : ∀ k, i ≠ ox j k) : setO O j A i = O i := by
  unfold setO
  rw [if_neg]
  intro z
  refine h ((i - 1000) / 1000) ?_
  unfold ox
  omega
theorem setO_cases {O : Own} {j i : Nat} {A : List Addr} (hj : j < 1000) : (∃ k, i = ox j k ∧ setO O j A i = A[k]?) ∨ ((∀ k, i ≠ ox j k) ∧ setO O j A i = O i) := by
  by_cases h : ∃ k, i = ox j k
  · obtain ⟨k, e⟩ := h
    exact .inl ⟨k, e, by rw [e]; exact setO_ox hj⟩
  · have h' : ∀ k, i ≠ ox j k := fun k e => h ⟨k, e⟩
    exact .inr ⟨h', setO_ne h'⟩
section
variable {K : KB} {F : FC} {O : Own} {ρ : Ev} {σ : St} {H H' : Hp}
theorem obj_at (r : Rel K F O ρ σ H) {j : Nat} {c : OC} (h : getC ρ j = some (.obj c)) : ∃ v A, σ[j]? = some (some v) ∧ A ≠ [] ∧ (∀ k, O (ox j k) = A[k]?) ∧ CellAt K (NN F O) H c v A ∧ A.Nodup ∧ j < 1000 := by
  have h' := getC_iff.mp h
  obtain ⟨v, A, h1, h2, h3, h4⟩ := r.slots j _ h'
  have hj : j < 1000 := Nat.lt_of_lt_of_le (List.getElem?_eq_some_iff.mp h').1 r.obs.sz
  refine ⟨v, A, h1, h2, h3, h4, ?_, hj⟩
  refine List.pairwise_iff_getElem.mpr fun i k hi hk hlt e => ?_
  have e1 := r.inj (ox j i) (ox j k) A[i] (by rw [h3, List.getElem?_eq_getElem hi]) (by rw [h3, List.getElem?_eq_getElem hk, e])
  have := (ox_inj hj hj e1).2
  omega
theorem mem_own {A : List Addr} {j : Nat} (hA : ∀ k, O (ox j k) = A[k]?) {a : Addr} (h : a ∈ A) : ∃ k, O (ox j k) = some a := by
  obtain ⟨k, hk, e⟩ := List.mem_iff_getElem.mp h
  exact ⟨k, by rw [hA, List.getElem?_eq_getElem hk, e]⟩
theorem nn_setO {j : Nat} {A A2 : List Addr} (hj : j < 1000) (hA : ∀ k, O (ox j k) = A[k]?) {a : Addr} (h : NN F (setO O j A2) a) : a ∈ A2 ∨ NN F O a := by
  rcases h with h | ⟨i, h⟩
  · exact .inr (.inl h)
  · rcases setO_cases (O := O) (i := i) (A := A2) hj with ⟨k, _, e⟩ | ⟨_, e⟩
    · rw [e] at h; exact .inl (List.mem_of_getElem? h)
    · rw [e] at h; exact .inr (.inr ⟨i, h⟩)
/-- what is seen stays, if the thing of slot j is changed -/
theorem reObj_vis (r : Rel K F O ρ σ H) {j : Nat} {A A2 : List Addr} (hj : j < 1000) (hA : ∀ k, O (ox j k) = A[k]?) (keep : ∀ b o, b ∉ A → H b = some o → H' b = some o) (mem : ∀ a ∈ A2, a ∈ A ∨ H a = none) : Same (hide (NN F O) H) (hide (NN F (setO O j A2)) H') := fun b o e => by
  obtain ⟨e1, e2⟩ := hide_some e
  have nA : b ∉ A := fun z => e1 (.inr ((mem_own hA z).elim fun k hk => ⟨_, hk⟩))
  refine hide_of (fun z => ?_) (keep b o nA e2)
  rcases nn_setO hj hA z with z | z
  · rcases mem b z with z | z
    · exact nA z
    · rw [z] at e2; exact nomatch e2
  · exact e1 z
theorem Rel.reObj (r : Rel K F O ρ σ H) {j : Nat} {c c2 : OC} {v : V} {A A2 : List Addr} (hjc : getC ρ j = some (.obj c)) (hv : σ[j]? = some (some v)) (hA : ∀ k, O (ox j k) = A[k]?) (keep : ∀ b o, b ∉ A → H b = some o → H' b = some o) (hd : A2.head? = A.head?) (nd : A2.Nodup) (mem : ∀ a ∈ A2, a ∈ A ∨ H a = none) (ne : A2 ≠ [])
    (hc : CellAt K (NN F (setO O j A2)) H' c2 v A2) (al : ∀ i k : Nat, ρ[i]? = some (some (Cell.prf j k)) → A2[k]? = A[k]?) : Rel K F (setO O j A2) (ρ.set j (some (.obj c2))) σ H' := by
  have h' := getC_iff.mp hjc
  have hj : j < 1000 := Nat.lt_of_lt_of_le (List.getElem?_eq_some_iff.mp h').1 r.obs.sz
  have vis := reObj_vis (H' := H') r hj hA keep mem
  have ox_ne : ∀ {i k l : Nat}, i < 1000 → i ≠ j → ox i k ≠ ox j l := fun h1 h2 e => h2 (ox_inj h1 hj e).1
  have nA : ∀ {i : Nat} {a : Addr}, (∀ k, i ≠ ox j k) → O i = some a → a ∉ A := fun {i a} hn e z => by
    obtain ⟨k, hk⟩ := mem_own hA z
    exact hn k (r.inj _ _ _ e hk)
  have clash : ∀ {i1 i2 : Nat} {a : Addr}, i1 = i2 ∨ True → ∀ k, A2[k]? = some a → (∀ k, i2 ≠ ox j k) → O i2 = some a → False := fun {i1 i2 a} _ k e hn e2 => by
    rcases mem a (List.mem_of_getElem? e) with z | z
    · exact nA hn e2 z
    · exact r.live _ _ e2 z
  refine ⟨by rw [List.length_set]; exact r.len, fun i1 i2 a h1 h2 => ?_, fun i a h1 => ?_, r.hidl, fun a x q => ?_, fun i cl q => ?_, ?_⟩
  · rcases setO_cases (O := O) (i := i1) (A := A2) hj with ⟨k1, e1, q1⟩ | ⟨n1, q1⟩ <;> rcases setO_cases (O := O) (i := i2) (A := A2) hj with ⟨k2, e2, q2⟩ | ⟨n2, q2⟩
    · rw [q1] at h1; rw [q2] at h2
      have l1 := (List.getElem?_eq_some_iff.mp h1).1
      have : k1 = k2 := (List.getElem?_inj l1 nd).mp (h1.trans h2.symm)
      rw [e1, e2, this]
    · rw [q1] at h1; rw [q2] at h2
      exact (clash (i1 := 0) (.inr trivial) k1 h1 n2 h2).elim
    · rw [q1] at h1; rw [q2] at h2
      exact (clash (i1 := 0) (.inr trivial) k2 h2 n1 h1).elim
    · rw [q1] at h1; rw [q2] at h2
      exact r.inj _ _ _ h1 h2
  · rcases setO_cases (O := O) (i := i) (A := A2) hj with ⟨k1, e1, q1⟩ | ⟨n1, q1⟩
    · rw [q1] at h1
      exact hc.live a (List.mem_of_getElem? h1)
    · rw [q1] at h1
      cases e : H a with
      | none => exact absurd e (r.live i a h1)
      | some o => rw [keep a o (nA n1 h1) e]; simp
  · obtain ⟨b1, b2⟩ := r.base a x q
    have n : a ∉ A := fun z => (mem_own hA z).elim fun k hk => b2 _ hk
    refine ⟨keep a x n b1, fun i h1 => ?_⟩
    rcases setO_cases (O := O) (i := i) (A := A2) hj with ⟨k1, e1, q1⟩ | ⟨n1, q1⟩
    · rw [q1] at h1
      rcases mem a (List.mem_of_getElem? h1) with z | z
      · exact n z
      · rw [z] at b1; exact nomatch b1
    · rw [q1] at h1
      exact b2 i h1
  · rcases set_get q with ⟨rfl, e, hl⟩ | ⟨hi, q⟩
    · cases e
      exact ⟨v, A2, hv, ne, fun k => setO_ox hj, hc⟩
    · have hi' : i < 1000 := Nat.lt_of_lt_of_le (List.getElem?_eq_some_iff.mp q).1 r.obs.sz
      have no : ∀ {j' : Nat}, (j' = i ∨ ∃ k, j' = ox i k) → ∀ k, j' ≠ ox j k := fun {j'} hh k e => by
        rcases hh with hh | ⟨l, hh⟩
        · have := ox_big j k; omega
        · exact ox_ne hi' hi (hh.symm.trans e)
      exact (r.slots i cl q).move vis (fun j' hh => setO_ne (no hh)) rfl fun j' a x hh e1 e2 => keep a x (nA (no hh) e1) e2
  · have gt : ∀ {i : Nat} {cl : Cell}, (ρ.set j (some (.obj c2)))[i]? = some (some cl) → (i = j ∧ cl = .obj c2) ∨ (i ≠ j ∧ ρ[i]? = some (some cl)) := fun q => by
      rcases set_get q with ⟨rfl, e, _⟩ | ⟨hi, q⟩
      · exact .inl ⟨rfl, Option.some.inj e⟩
      · exact .inr ⟨hi, q⟩
    refine ⟨by rw [List.length_set]; exact r.obs.sz, fun i a cl e1 e2 => ?_, fun i j' k cl e1 e2 => ?_⟩
    · rcases gt e2 with ⟨rfl, _⟩ | ⟨hi, q⟩
      · have := r.obs.fx i a c e1 h'
        rw [setO_ox hj, ← List.head?_eq_getElem?, hd, List.head?_eq_getElem?, ← hA]
        exact this
      · have hi' : i < 1000 := Nat.lt_of_lt_of_le (List.getElem?_eq_some_iff.mp q).1 r.obs.sz
        rw [setO_ne fun k => ox_ne hi' hi]
        exact r.obs.fx i a cl e1 q
    · rcases gt e1 with ⟨_, e⟩ | ⟨hi, q1⟩
      · exact nomatch e
      · rcases gt e2 with ⟨rfl, _⟩ | ⟨hi2, q2⟩
        · obtain ⟨a, h1, h2⟩ := r.obs.als i j' k c q1 h'
          exact ⟨a, by rw [setO_ox hj, al i k q1, ← hA]; exact h1, h2⟩
        · have hi' : j' < 1000 := Nat.lt_of_lt_of_le (List.getElem?_eq_some_iff.mp q2).1 r.obs.sz
          obtain ⟨a, h1, h2⟩ := r.obs.als i j' k cl q1 q2
          exact ⟨a, by rw [setO_ne fun k => ox_ne hi' hi2]; exact h1, h2⟩
end
end PL


/-! PL17: references to things and their parts; what is read there; changes in place -/
namespace PL
open PySem PySem.Spec PyProof.Rows L2

def rootOf (ρ : Ev) (i : Nat) : Option (Nat × Nat) := match getC ρ i with
  | some (.obj _) => some (i, 0)
  | some (.prf j k) => some (j, k)
  | _ => none
def partAt (ρ : Ev) (j k : Nat) : Option OC := match getC ρ j with
  | some (.obj c) => subAt c k
  | _ => none
def putAt (ρ : Ev) (j k : Nat) (c2 : OC) : Ev := match getC ρ j with
  | some (.obj c) => ρ.set j (some (.obj (setSub c k c2)))
  | _ => ρ
def rvar (i : Nat) : Ev → Rs (Nat × Nat) := fun ρ => match rootOf ρ i with
  | some (j, k) => if (partAt ρ j k).isSome = true then .ok (j, k) else .no
  | none => .no
def tR (K : KB) (F : FC) (f : Ev → Rs (Nat × Nat)) : TE := fun σ H Q => ∃ O ρ j k c', Rel K F O ρ σ H ∧ f ρ = .ok (j, k) ∧ partAt ρ j k = some c' ∧ ∀ a, O (ox j k) = some a → Q (.ref a) H
abbrev RP' (X : Cx) (F : FC) (e : Expr) (f : Ev → Rs (Nat × Nat)) : Prop := PE X e (tR X.kb F f)
section
variable {K : KB} {F : FC} {O : Own} {ρ : Ev} {σ : St} {H H' : Hp}
theorem setO_same {j : Nat} {A : List Addr} (hj : j < 1000) (hA : ∀ k, O (ox j k) = A[k]?) : setO O j A = O := by
  funext i
  rcases setO_cases (O := O) (i := i) (A := A) hj with ⟨k, e, q⟩ | ⟨_, q⟩
  · rw [q, e, hA]
  · exact q
/-- a part of a slot's own thing -/
theorem Rel.part (r : Rel K F O ρ σ H) {j k : Nat} {c' : OC} (h : partAt ρ j k = some c') : ∃ a A2, O (ox j k) = some a ∧ fsz c' ≠ 0 ∧ CellAt K (NN F O) H c' (.ref a) A2 ∧ A2.head? = some a ∧ A2.Nodup ∧ (∀ b ∈ A2, ∃ i, O i = some b) ∧
    ∀ c2 H', (∀ b o, b ∉ A2 → H b = some o → H' b = some o) → CellAt K (NN F O) H' c2 (.ref a) A2 → Rel K F O (putAt ρ j k c2) σ H' ∧ Same (hide (NN F O) H) (hide (NN F O) H') := by
  unfold partAt at h
  split at h <;> first | (cases h; done) | skip
  rename_i c hc
  obtain ⟨v, A, h1, h2, h3, h4, nd, hj⟩ := obj_at r hc
  obtain ⟨a, A1, A2, A3, e1, e2, e3, e4, e5, put⟩ := h4.focus h
  subst e1
  have nd2 : A2.Nodup := (List.nodup_append.mp (List.nodup_append.mp nd).1).2.1
  have mem2 : ∀ b ∈ A2, b ∈ A1 ++ A2 ++ A3 := fun b hb => by simp [hb]
  have out2 : ∀ b ∈ A1 ++ A3, b ∉ A2 := fun b hb hb2 => by
    rcases List.mem_append.mp hb with hb | hb
    · exact (List.nodup_append.mp (List.nodup_append.mp nd).1).2.2 b hb b hb2 rfl
    · exact (List.nodup_append.mp nd).2.2 b (by simp [hb2]) b hb rfl
  refine ⟨a, A2, ?_, e5, e3, e4, nd2, fun b hb => (mem_own h3 (mem2 b hb)).elim fun k hk => ⟨_, hk⟩, fun c2 H' keep hc2 => ?_⟩
  · rw [h3, List.append_assoc, List.getElem?_append_right (by omega), e2, Nat.sub_self, ← List.head?_eq_getElem?]
    cases A2 with
    | nil => exact nomatch e4
    | cons x y => exact e4
  · have keep' : ∀ b o, b ∉ A1 ++ A2 ++ A3 → H b = some o → H' b = some o := fun b o hb => keep b o fun z => hb (mem2 b z)
    have vis := reObj_vis (H' := H') (A2 := A1 ++ A2 ++ A3) r hj h3 keep' fun a ha => .inl ha
    rw [setO_same hj h3] at vis
    have big := put (NN F O) H' c2 A2 vis (fun b hb o => keep b o (out2 b hb)) hc2
    refine ⟨?_, vis⟩
    have rr := r.reObj (A2 := A1 ++ A2 ++ A3) hc h1 h3 keep' rfl nd (fun a ha => .inl ha) h2 (by rw [setO_same hj h3]; exact big) (fun _ _ _ => rfl)
    rw [setO_same hj h3] at rr
    unfold putAt
    rw [hc]
    exact rr
theorem partAt_root (r : Rel K F O ρ σ H) {i : Nat} {c : OC} (h : getC ρ i = some (.obj c)) : partAt ρ i 0 = some c ∧ fsz c ≠ 0 := by
  obtain ⟨v, A, h1, h2, h3, h4, nd, hj⟩ := obj_at r h
  have hz : fsz c ≠ 0 := fun z => h2 (List.eq_nil_of_length_eq_zero (h4.size.trans z))
  exact ⟨by unfold partAt; rw [h]; exact subAt_zero hz, hz⟩
end
section
variable {X : Cx} {F : FC}
theorem r_var {x : Str} {pos : Pos} (i : Nat) (h : PE X (.Name x pos) (tVar i)) : RP' X F (.Name x pos) (rvar i) := wkE h fun σ H Q ⟨O, ρ, j, k, c', r, e, hp, q⟩ => by
  unfold rvar at e
  split at e <;> first | (cases e; done) | skip
  rename_i j' k' hr
  split at e <;> first | (cases e; done) | skip
  cases e
  unfold rootOf at hr
  split at hr <;> first | (cases hr; done) | skip
  · rename_i c hc
    cases hr
    obtain ⟨v, A, h1, h2, h3, h4, nd, hj⟩ := obj_at r hc
    obtain ⟨a, B, e1, e2⟩ := h4.root (partAt_root r hc).2
    exact ⟨v, h1, by rw [e2]; exact q a (by rw [h3, e1]; rfl)⟩
  · rename_i j'' k'' hc
    cases hr
    unfold partAt at hp
    split at hp <;> first | (cases hp; done) | skip
    rename_i c hcj
    obtain ⟨a, h1, h2⟩ := r.obs.als i j k c (getC_iff.mp hc) (getC_iff.mp hcj)
    exact ⟨_, h2, q a h1⟩
end

/-! lists with plain items -/
section
variable {K : KB} {N : Addr → Prop} {H : Hp}
theorem CellsAt.get : ∀ {cs : List OC} {xs : List V} {A : List Addr} {i : Nat} {c : OC}, CellsAt K N H cs xs A → cs[i]? = some c → ∃ x Ai, xs[i]? = some x ∧ CellAt K N H c x Ai
  | [], _, _, _, _, _, e => by simp at e
  | c0 :: cs, xs, A, 0, c, h, e => by
    rw [CellsAt] at h
    obtain ⟨x, r, A1, A2, rfl, rfl, h3, h4⟩ := h
    simp at e; subst e
    exact ⟨x, A1, rfl, h3⟩
  | c0 :: cs, xs, A, i + 1, c, h, e => by
    rw [CellsAt] at h
    obtain ⟨x, r, A1, A2, rfl, rfl, h3, h4⟩ := h
    obtain ⟨y, Ai, e1, e2⟩ := h4.get (i := i) (by simpa using e)
    exact ⟨y, Ai, by simpa using e1, e2⟩
theorem CellAt.plain {d : PyData} {x : V} {A : List Addr} (h : CellAt K N H (.p d) x A) : A = [] ∧ R K.K (hide N H) d x := by rw [CellAt] at h; exact h
theorem CellAt.ofP {d : PyData} {x : V} (h : R K.K (hide N H) d x) : CellAt K N H (.p d) x [] := by rw [CellAt]; exact ⟨rfl, h⟩
theorem CellsAt.one {c : OC} {x : V} {A : List Addr} (h : CellAt K N H c x A) : CellsAt K N H [c] [x] A := by
  rw [CellsAt]; exact ⟨x, [], A, [], rfl, by simp, h, by rw [CellsAt]; exact ⟨rfl, rfl⟩⟩
theorem CellsAt.append : ∀ {cs ds : List OC} {xs ys : List V} {A B : List Addr}, CellsAt K N H cs xs A → CellsAt K N H ds ys B → CellsAt K N H (cs ++ ds) (xs ++ ys) (A ++ B)
  | [], ds, xs, ys, A, B, h, h' => by rw [CellsAt] at h; rw [h.1, h.2]; exact h'
  | c :: cs, ds, xs, ys, A, B, h, h' => by
    rw [CellsAt] at h
    obtain ⟨x, r, A1, A2, rfl, rfl, h3, h4⟩ := h
    have := h4.append h'
    rw [List.cons_append, CellsAt]
    exact ⟨x, r ++ ys, A1, A2 ++ B, rfl, by simp, h3, this⟩
theorem CellsAt.setP {d d' : PyData} {x : V} (hr : R K.K (hide N H) d x) : ∀ {cs : List OC} {xs : List V} {A : List Addr} {i : Nat}, CellsAt K N H cs xs A → cs[i]? = some (.p d') → CellsAt K N H (cs.set i (.p d)) (xs.set i x) A
  | [], _, _, _, _, e => by simp at e
  | c0 :: cs, xs, A, 0, h, e => by
    rw [CellsAt] at h
    obtain ⟨y, r, A1, A2, rfl, rfl, h3, h4⟩ := h
    simp at e; subst e
    rw [h3.plain.1, List.set_cons_zero, List.set_cons_zero, CellsAt]
    exact ⟨x, r, [], A2, rfl, rfl, .ofP hr, h4⟩
  | c0 :: cs, xs, A, i + 1, h, e => by
    rw [CellsAt] at h
    obtain ⟨y, r, A1, A2, rfl, rfl, h3, h4⟩ := h
    have := CellsAt.setP hr h4 (i := i) (by simpa using e)
    rw [List.set_cons_succ, List.set_cons_succ, CellsAt]
    exact ⟨y, _, A1, A2, rfl, rfl, h3, this⟩
theorem CellsAt.eraseP {d' : PyData} : ∀ {cs : List OC} {xs : List V} {A : List Addr} {i : Nat}, CellsAt K N H cs xs A → cs[i]? = some (.p d') → CellsAt K N H (cs.eraseIdx i) (xs.eraseIdx i) A
  | [], _, _, _, _, e => by simp at e
  | c0 :: cs, xs, A, 0, h, e => by
    rw [CellsAt] at h
    obtain ⟨y, r, A1, A2, rfl, rfl, h3, h4⟩ := h
    simp at e; subst e
    rw [h3.plain.1]
    exact h4
  | c0 :: cs, xs, A, i + 1, h, e => by
    rw [CellsAt] at h
    obtain ⟨y, r, A1, A2, rfl, rfl, h3, h4⟩ := h
    have := CellsAt.eraseP h4 (i := i) (by simpa using e)
    rw [List.eraseIdx_cons_succ, List.eraseIdx_cons_succ, CellsAt]
    exact ⟨y, _, A1, A2, rfl, rfl, h3, this⟩
end
/-- plain items alone -/
def plainL : List OC → Rs (List PyData)
  | [] => .ok []
  | .p d :: cs => (plainL cs).bnd fun ds => .ok (d :: ds)
  | _ :: _ => .no
theorem CellsAt.plainL {K : KB} {N : Addr → Prop} {H : Hp} : ∀ {cs : List OC} {xs : List V} {A : List Addr} {ds : List PyData}, CellsAt K N H cs xs A → PL.plainL cs = .ok ds → RA K.K (hide N H) ds xs
  | [], xs, A, ds, h, e => by cases e; rw [CellsAt] at h; rw [h.1]; exact .nil
  | .p d :: cs, xs, A, ds, h, e => by
    obtain ⟨es, e1, e2⟩ := Rs.bnd_eq (show (PL.plainL cs).bnd (fun ds => .ok (d :: ds)) = .ok ds from e)
    cases e2
    rw [CellsAt] at h
    obtain ⟨x, r, A1, A2, rfl, rfl, h3, h4⟩ := h
    exact .cons h3.plain.2 (h4.plainL e1)
  | .l _ :: _, _, _, _, _, e => nomatch e
  | .d _ :: _, _, _, _, _, e => nomatch e
  | .o _ _ _ :: _, _, _, _, _, e => nomatch e
/-- the list that a reference leads to, if its items are plain -/
def listAt (f : Ev → Rs (Nat × Nat)) : Ev → Rs (List PyData) := fun ρ => (f ρ).bnd fun p => match partAt ρ p.1 p.2 with
  | some (.l cs) => plainL cs
  | _ => .no
/-- its item, plain -/
def itemAt (f : Ev → Rs (Nat × Nat)) (fi : Ev → Rs PyData) : Ev → Rs PyData := fun ρ => (f ρ).bnd fun p => (fi ρ).bnd fun k => (asI k).bnd fun k => match partAt ρ p.1 p.2 with
  | some (.l cs) => (match atI cs k with | some (.p d) => .ok d | _ => .no)
  | _ => .no
section
variable {X : Cx} {F : FC}
theorem plainL_len : ∀ {cs : List OC} {ds : List PyData}, plainL cs = .ok ds → ds.length = cs.length
  | [], ds, e => by cases e; rfl
  | .p d :: cs, ds, e => by
    obtain ⟨es, e1, e2⟩ := Rs.bnd_eq (show (plainL cs).bnd (fun ds => .ok (d :: ds)) = .ok ds from e)
    cases e2
    rw [List.length_cons, List.length_cons, plainL_len e1]
  | .l _ :: _, _, e => nomatch e
  | .d _ :: _, _, e => nomatch e
  | .o _ _ _ :: _, _, e => nomatch e
theorem w_ref {e : Expr} {f : Ev → Rs (Nat × Nat)} (h : RP' X F e f) : WE' X F e (lst (listAt f)) := wkE h fun σ H Q ⟨O, ρ, d, r, e, q⟩ => by
  obtain ⟨ds, e1, e2⟩ := Rs.bnd_eq e
  cases e2
  obtain ⟨p, e3, e4⟩ := Rs.bnd_eq e1
  split at e4 <;> first | (cases e4; done) | skip
  rename_i cs hp
  obtain ⟨a, A2, h1, h2, h3, _⟩ := r.part hp
  refine ⟨O, ρ, p.1, p.2, _, r, e3, hp, fun a' ha' => ?_⟩
  rw [h1] at ha'; cases ha'
  rw [CellAt] at h3
  obtain ⟨a', xs, B, rfl, e5, e6, e7, e8⟩ := h3
  cases e5
  exact q _ H (Same.refl H) (.list (by rw [plainL_len e4]; exact e6) (.of e7) ((e8.plainL e4).mono hide_le))
theorem atI_get {α β : Type} {xs : List α} {ys : List β} {k : Int} {y : β} (hl : xs.length = ys.length) (h : atI ys k = some y) : ∃ i : Nat, ys[i]? = some y ∧ ∀ x, xs[i]? = some x → atI xs k = some x := by
  unfold atI at h ⊢
  obtain ⟨j, e1, e2⟩ := Option.bind_eq_some_iff.mp h
  exact ⟨j, e2, fun x hx => by rw [hl, e1]; exact hx⟩
end
end PL


/-! PL18: names for parts; items; lists of one's own changed through references -/
namespace PL
open PySem PySem.Spec PyProof.Rows L2
theorem Rel.listPart {K : KB} {F : FC} {O : Own} {ρ : Ev} {σ : St} {H : Hp} (r : Rel K F O ρ σ H) {j k : Nat} {cs : List OC} (h : partAt ρ j k = some (.l cs)) : ∃ a xs B, O (ox j k) = some a ∧ H a = some (.lst xs) ∧ cs.length ≤ sizeLine ∧ xs.length = cs.length ∧ CellsAt K (NN F O) H cs xs B ∧
    ∀ cs2 xs2, cs2.length ≤ sizeLine → CellsAt K (NN F O) H cs2 xs2 B → Rel K F O (putAt ρ j k (.l cs2)) σ (upd H a (.lst xs2)) ∧ Same (hide (NN F O) H) (hide (NN F O) (upd H a (.lst xs2))) := by
  obtain ⟨a, A2, h1, h2, h3, h4, nd, own, put⟩ := r.part h
  rw [CellAt] at h3
  obtain ⟨a', xs, B, rfl, e1, e2, e3, e4⟩ := h3
  cases e1
  refine ⟨a, xs, B, h1, e3, e2, e4.vlen, e4, fun cs2 xs2 hz hc => ?_⟩
  have vis : Same (hide (NN F O) H) (hide (NN F O) (upd H a (.lst xs2))) := fun b o q => by
    obtain ⟨q1, q2⟩ := hide_some q
    exact hide_of q1 (by rw [upd_ne (fun z => q1 (.inr ⟨_, by rw [z]; exact h1⟩))]; exact q2)
  have nB : a ∉ B := (List.nodup_cons.mp nd).1
  refine put (.l cs2) _ (fun b o hb q => by rw [upd_ne (fun z => hb (by rw [z]; simp))]; exact q) ?_
  rw [CellAt]
  exact ⟨a, xs2, B, rfl, rfl, hz, upd_same, hc.move vis fun b hb o q => by rw [upd_ne (fun z => nB (by rw [← z]; exact hb))]; exact q⟩
section
variable {X : Cx} {F : FC}
/-- an item that is plain -/
theorem p_item {e b : Expr} {f : Ev → Rs (Nat × Nat)} {fi : Ev → Rs PyData} {pos : Pos} (h : RP' X F e f) (hb : EP' X F b fi) (hs : PlainIx b := by exact fun _ _ => rfl) : EP' X F (.Subscript e b pos) (itemAt f fi) :=
  wkE (pe_ix ix_list h hb hs) fun σ H Q ⟨O, ρ, d, r, e, q⟩ => by
    obtain ⟨p, e1, e⟩ := Rs.bnd_eq e
    obtain ⟨k, e2, e⟩ := Rs.bnd_eq e
    obtain ⟨kk, e3, e⟩ := Rs.bnd_eq e
    split at e <;> first | (cases e; done) | skip
    rename_i cs hp
    split at e <;> first | (cases e; done) | skip
    rename_i d' hat
    cases e
    obtain ⟨a, A2, h1, h2, h3, _⟩ := r.part hp
    refine ⟨O, ρ, p.1, p.2, _, r, e1, hp, fun a' ha' => ?_⟩
    rw [h1] at ha'; cases ha'
    rw [CellAt] at h3
    obtain ⟨a', xs, B, rfl, e5, e6, e7, e8⟩ := h3
    cases e5
    refine ⟨O, ρ, k, r, e2, fun w H1 s1 r1 => ?_⟩
    have ew : w = .int kk := by
      cases k with
      | int q => cases e3; exact r1.intV
      | _ => exact nomatch e3
    have vl := e8.vlen
    obtain ⟨i, g1, g2⟩ := atI_get vl hat
    obtain ⟨y, Ai, g3, g4⟩ := e8.get g1
    exact ⟨a, xs, kk, y, rfl, ew, .of (s1 _ _ e7), g2 y g3, q _ H1 s1 (g4.plain.2.mono (hide_same s1))⟩
/-- a name for a part -/
def sRef (i : Nat) (f : Ev → Rs (Nat × Nat)) : Ev → Rs Out := fun ρ => (f ρ).bnd fun p => if (partAt ρ p.1 p.2).isSome = true ∧ i ≠ p.1 then .ok (.nx (ρ.set i (some (.prf p.1 p.2)))) else .no
theorem Rel.setPrf {K : KB} {O : Own} {ρ : Ev} {σ : St} {H : Hp} (r : Rel K F O ρ σ H) {i j k : Nat} {a : Addr} {c' : OC} (hp : partAt ρ j k = some c') (ha : O (ox j k) = some a) (hij : i ≠ j) : Rel K F (minusO O i) (ρ.set i (some (.prf j k))) (σ.set i (some (.ref a))) H := by
  refine ⟨by rw [List.length_set, List.length_set]; exact r.len, fun j k a h1 h2 => r.inj j k a (minusO_some h1).2 (minusO_some h2).2, fun j a h1 => r.live j a (minusO_some h1).2, r.hidl, fun a x q => ⟨(r.base a x q).1, fun j h1 => (r.base a x q).2 j (minusO_some h1).2⟩, fun j c q => ?_, ?_⟩
  · rcases set_get q with ⟨rfl, e, hl⟩ | ⟨hj, q⟩
    · cases e; trivial
    · exact ((r.slots j c q).vis minusO_le fun j' h' => minusO_out (out_of hj (own_big h'))).st (List.getElem?_set_ne (Ne.symm hj))
  · have ob : ∀ {i' j' : Nat} {c : Cell}, (ρ.set i (some (.prf j k)))[i']? = some (some c) → (i' = i ∧ c = .prf j k ∧ i < ρ.length) ∨ (i' ≠ i ∧ ρ[i']? = some (some c)) := fun {i' j' c} q => by
      rcases set_get q with ⟨rfl, e, hl⟩ | ⟨hj, q⟩
      · exact .inl ⟨rfl, Option.some.inj e, hl⟩
      · exact .inr ⟨hj, q⟩
    refine ⟨by rw [List.length_set]; exact r.obs.sz, fun i' b c e1 e2 => ?_, fun i' j' k' c e1 e2 => ?_⟩
    · rcases ob (j' := 0) e2 with ⟨_, e, _⟩ | ⟨_, e⟩
      · exact nomatch e
      · rw [minusO_out (.inr (ox_big _ _))]; exact r.obs.fx i' b c e1 e
    · rcases ob (j' := 0) e2 with ⟨_, e, _⟩ | ⟨hn, e2⟩
      · exact nomatch e
      · rcases ob (j' := 0) e1 with ⟨rfl, e, hl⟩ | ⟨hn1, e1⟩
        · cases e
          exact ⟨a, by rw [minusO_out (.inr (ox_big _ _))]; exact ha, by rw [List.getElem?_set_self (by rw [r.len]; exact hl)]⟩
        · obtain ⟨b, h1, h2⟩ := r.obs.als i' j' k' c e1 e2
          exact ⟨b, by rw [minusO_out (.inr (ox_big _ _))]; exact h1, by rw [List.getElem?_set_ne (Ne.symm hn1)]; exact h2⟩
theorem s_ref {st : Stmt} {i : Nat} {f : Ev → Rs (Nat × Nat)} (h : PS X st (tAsg (tR X.kb F f) (gName i))) : SP' X F st (sRef i f) := wkS h fun D σ H ⟨O, ρ, o, r, e, p⟩ => by
  obtain ⟨q, e1, e⟩ := Rs.bnd_eq e
  split at e <;> first | (cases e; done) | skip
  rename_i hc
  cases e
  obtain ⟨c', hp⟩ := Option.isSome_iff_exists.mp hc.1
  exact ⟨O, ρ, q.1, q.2, c', r, e1, hp, fun a ha => p _ _ H (r.setPrf hp ha hc.2) (hide_anti minusO_le)⟩
/-- f[fi] = fe, a plain item -/
def sOSet (f : Ev → Rs (Nat × Nat)) (fi fe : Ev → Rs PyData) : Ev → Rs Out := fun ρ => (fe ρ).bnd fun d => (f ρ).bnd fun p => (fi ρ).bnd fun k => (asI k).bnd fun k => match partAt ρ p.1 p.2 with
  | some (.l cs) => (match ixN cs.length k with
    | some j => (match cs[j]? with
      | some (.p _) => .ok (.nx (putAt ρ p.1 p.2 (.l (cs.set j (.p d)))))
      | _ => .no)
    | none => .no)
  | _ => .no
theorem s_oset {st : Stmt} {f : Ev → Rs (Nat × Nat)} {fi fe : Ev → Rs PyData} (h : PS X st (tAsg (tP X.kb F fe) (gSub (tR X.kb F f) (tP X.kb F fi) rSetL))) : SP' X F st (sOSet f fi fe) := wkS h fun D σ H ⟨O, ρ, o, r, e, p⟩ => by
  obtain ⟨d, e0, e⟩ := Rs.bnd_eq e
  obtain ⟨q, e1, e⟩ := Rs.bnd_eq e
  obtain ⟨k, e2, e⟩ := Rs.bnd_eq e
  obtain ⟨kk, e3, e⟩ := Rs.bnd_eq e
  split at e <;> first | (cases e; done) | skip
  rename_i cs hp
  split at e <;> first | (cases e; done) | skip
  rename_i j hj
  split at e <;> first | (cases e; done) | skip
  rename_i d' hd'
  cases e
  refine ⟨O, ρ, d, r, e0, fun v H1 s1 r1 => ?_⟩
  refine ⟨O, ρ, q.1, q.2, _, r.mono s1, e1, hp, fun a' ha' => ⟨O, ρ, k, r.mono s1, e2, fun w H2 s2 r2 => ?_⟩⟩
  have ew : w = .int kk := by
    cases k with
    | int q => cases e3; exact r2.intV
    | _ => exact nomatch e3
  obtain ⟨a, xs, B, h1, h2, h3, h4, h5, put⟩ := ((r.mono s1).mono s2).listPart hp
  rw [h1] at ha'; cases ha'
  obtain ⟨m1, m2⟩ := put (cs.set j (.p d)) (xs.set j v) (by rw [List.length_set]; exact h3) (CellsAt.setP (r1.mono (hide_same s2)) h5 hd')
  exact ⟨_, xs, kk, j, rfl, ew, h2, by rw [h4]; exact hj, p O _ _ m1 ((hide_same (s1.trans s2)).trans m2)⟩
/-- f.append(fe) -/
def sOApp (f : Ev → Rs (Nat × Nat)) (fe : Ev → Rs PyData) : Ev → Rs Out := fun ρ => (f ρ).bnd fun p => match partAt ρ p.1 p.2 with
  | some (.l cs) => (fe ρ).bnd fun d => if cs.length < sizeLine then .ok (.nx (putAt ρ p.1 p.2 (.l (cs ++ [.p d])))) else .no
  | _ => .no
theorem s_oapp {st : Stmt} {f : Ev → Rs (Nat × Nat)} {fe : Ev → Rs PyData} (h : PS X st (tDrop (tBM X.K "list" rAppend (tR X.kb F f) (tCons (tP X.kb F fe) tNil)))) : SP' X F st (sOApp f fe) := wkS h fun D σ H ⟨O, ρ, o, r, e, p⟩ => by
  obtain ⟨q, e1, e⟩ := Rs.bnd_eq e
  split at e <;> first | (cases e; done) | skip
  rename_i cs hp
  obtain ⟨d, ed, e⟩ := Rs.bnd_eq e
  split at e <;> first | (cases e; done) | skip
  rename_i hz
  cases e
  refine ⟨O, ρ, q.1, q.2, _, r, e1, hp, fun a' ha' => ?_⟩
  obtain ⟨a, xs, B, h1, h2, _⟩ := r.listPart hp
  rw [h1] at ha'; cases ha'
  refine ⟨.inl ⟨rfl, xs, .of h2⟩, O, ρ, d, r, ed, fun v H' s r' => ?_⟩
  obtain ⟨a', ys, B, h1', h2, h3, h4, h5, put⟩ := (r.mono s).listPart hp
  rw [h1] at h1'; cases h1'
  obtain ⟨m1, m2⟩ := put (cs ++ [.p d]) (ys ++ [v]) (by rw [List.length_append, List.length_singleton]; omega) (by have := h5.append (CellsAt.one (CellAt.ofP r')); rw [List.append_nil] at this; exact this)
  exact ⟨_, ys, v, rfl, rfl, h2, by rw [h4]; exact hz, p O _ _ m1 ((hide_same s).trans m2)⟩
/-- f.pop() -/
def sOPop (f : Ev → Rs (Nat × Nat)) : Ev → Rs Out := fun ρ => (f ρ).bnd fun p => match partAt ρ p.1 p.2 with
  | some (.l cs) => (match cs[cs.length - 1]? with | some (.p _) => .ok (.nx (putAt ρ p.1 p.2 (.l cs.dropLast))) | _ => .no)
  | _ => .no
theorem drop_erase {α : Type} (l : List α) : l.dropLast = l.eraseIdx (l.length - 1) := by
  rw [List.dropLast_eq_take]
  cases l with
  | nil => rfl
  | cons a l => rw [List.eraseIdx_eq_take_drop_succ]; simp
theorem s_opop {st : Stmt} {f : Ev → Rs (Nat × Nat)} (h : PS X st (tDrop (tBM0 X.K "list" rPop (tR X.kb F f)))) : SP' X F st (sOPop f) := wkS h fun D σ H ⟨O, ρ, o, r, e, p⟩ => by
  obtain ⟨q, e1, e⟩ := Rs.bnd_eq e
  split at e <;> first | (cases e; done) | skip
  rename_i cs hp
  split at e <;> first | (cases e; done) | skip
  rename_i d hd
  cases e
  refine ⟨O, ρ, q.1, q.2, _, r, e1, hp, fun a' ha' => ?_⟩
  obtain ⟨a, xs, B, h1, h2, h3, h4, h5, put⟩ := r.listPart hp
  rw [h1] at ha'; cases ha'
  have hl : cs.length - 1 < cs.length := (List.getElem?_eq_some_iff.mp hd).1
  obtain ⟨m1, m2⟩ := put cs.dropLast xs.dropLast (by rw [List.length_dropLast]; omega) (by rw [drop_erase, drop_erase, h4]; exact h5.eraseP hd)
  exact ⟨.inl ⟨rfl, xs, .of h2⟩, _, xs, xs[xs.length - 1]'(by omega), rfl, rfl, h2, List.getElem?_eq_getElem (by omega), p O _ _ m1 m2⟩
/-! expressions that change things -/
def tPS (K : KB) (F : FC) (f : Ev → Rs (PyData × Ev)) : TE := fun σ H Q => ∃ O ρ p, Rel K F O ρ σ H ∧ f ρ = .ok p ∧ ∀ O' v H', Rel K F O' p.2 σ H' → Same (hide (NN F O) H) (hide (NN F O') H') → R K.K (hide (NN F O') H') p.1 v → Q v H'
abbrev SE' (X : Cx) (F : FC) (e : Expr) (f : Ev → Rs (PyData × Ev)) : Prop := PE X e (tPS X.kb F f)
def pureS (f : Ev → Rs PyData) : Ev → Rs (PyData × Ev) := fun ρ => (f ρ).bnd fun d => .ok (d, ρ)
theorem se_p {e : Expr} {f : Ev → Rs PyData} (h : EP' X F e f) : SE' X F e (pureS f) := wkE h fun σ H Q ⟨O, ρ, p, r, e, q⟩ => by
  obtain ⟨d, e1, e2⟩ := Rs.bnd_eq e
  cases e2
  exact ⟨O, ρ, d, r, e1, fun v H' s r' => q O v H' (r.mono s) (hide_same s) r'⟩
def ap1S (op : PyData → Rs PyData) (f : Ev → Rs (PyData × Ev)) : Ev → Rs (PyData × Ev) := fun ρ => (f ρ).bnd fun p => (op p.1).bnd fun d => .ok (d, p.2)
def ap2S (op : PyData → PyData → Rs PyData) (f g : Ev → Rs (PyData × Ev)) : Ev → Rs (PyData × Ev) := fun ρ => (f ρ).bnd fun p => (g p.2).bnd fun q => (op p.1 q.1).bnd fun d => .ok (d, q.2)
theorem to1S {K : KB} {F : FC} {op : PyData → Rs PyData} {f : Ev → Rs (PyData × Ev)} {σ : St} {H : Hp} {Q : VK} (h : tPS K F (ap1S op f) σ H Q) : tUn (rP1 K.K op) (tPS K F f) σ H Q := by
  obtain ⟨O, ρ, p, r, e, q⟩ := h
  obtain ⟨a, ea, e⟩ := Rs.bnd_eq e
  obtain ⟨d, ed, e⟩ := Rs.bnd_eq e
  cases e
  exact ⟨O, ρ, a, r, ea, fun O1 x H1 r1 s1 rx => ⟨NN F O1, a.1, d, fun z n => r1.nlive n, rx, ed, fun v H' s r' => q O1 v H' (r1.mono s) (s1.trans (hide_same s)) r'⟩⟩
theorem to2S {K : KB} {F : FC} {op : PyData → PyData → Rs PyData} {f g : Ev → Rs (PyData × Ev)} {σ : St} {H : Hp} {Q : VK} (h : tPS K F (ap2S op f g) σ H Q) : tOp (rP2 K.K op) (tPS K F f) (tPS K F g) σ H Q := by
  obtain ⟨O, ρ, p, r, e, q⟩ := h
  obtain ⟨a, ea, e⟩ := Rs.bnd_eq e
  obtain ⟨b, eb, e⟩ := Rs.bnd_eq e
  obtain ⟨d, ed, e⟩ := Rs.bnd_eq e
  cases e
  exact ⟨O, ρ, a, r, ea, fun O1 x H1 r1 s1 rx => ⟨O1, a.2, b, r1, eb, fun O2 y H2 r2 s2 ry => ⟨NN F O2, a.1, b.1, d, fun z n => r2.nlive n, rx.mono s2, ry, ed, fun v H' s r' => q O2 v H' (r2.mono s) ((s1.trans s2).trans (hide_same s)) r'⟩⟩⟩
theorem se_un {op : UnaryOp} {o : PyData → Rs PyData} {a : Expr} {f : Ev → Rs (PyData × Ev)} {pos : Pos} (ho : UnR X (unaryOp op) (rP1 X.K o)) (ha : SE' X F a f) : SE' X F (.UnaryOp op a pos) (ap1S o f) := wkE (pe_un ho ha) fun _ _ _ h => to1S h
theorem se_op {op : Operator} {o : PyData → PyData → Rs PyData} {a b : Expr} {f g : Ev → Rs (PyData × Ev)} {pos : Pos} (ho : OpR X (binaryOp op) (rP2 X.K o)) (ha : SE' X F a f) (hb : SE' X F b g) : SE' X F (.BinOp a op b pos) (ap2S o f g) := wkE (pe_op ho ha hb) fun _ _ _ h => to2S h
theorem se_cmp {op : CmpOp} {o : PyData → PyData → Rs PyData} {a b : Expr} {f g : Ev → Rs (PyData × Ev)} {pos : Pos} (ho : OpR X (compareOp op) (rP2 X.K o)) (ha : SE' X F a f) (hb : SE' X F b g) (hm : behindInMarks op b = false) : SE' X F (.Compare a [op] [b] pos) (ap2S o f g) := wkE (pe_cmpR ho ha hb hm) fun _ _ _ h => to2S h
/-! arguments -/
def tAS (K : KB) (F : FC) (g : Ev → Rs (List PyData × Ev)) : TA := fun σ H Q => ∃ O ρ p, Rel K F O ρ σ H ∧ g ρ = .ok p ∧ ∀ O' vs H', Rel K F O' p.2 σ H' → Same (hide (NN F O) H) (hide (NN F O') H') → RA K.K (hide (NN F O') H') p.1 vs → Q vs H'
abbrev SA' (X : Cx) (F : FC) (es : List Expr) (g : Ev → Rs (List PyData × Ev)) : Prop := PA X es (tAS X.kb F g)
def aNS : Ev → Rs (List PyData × Ev) := fun ρ => .ok ([], ρ)
def aCS (f : Ev → Rs (PyData × Ev)) (g : Ev → Rs (List PyData × Ev)) : Ev → Rs (List PyData × Ev) := fun ρ => (f ρ).bnd fun p => (g p.2).bnd fun q => .ok (p.1 :: q.1, q.2)
theorem sa_n : SA' X F [] aNS := wkA pa_nil fun σ H Q ⟨O, ρ, p, r, e, q⟩ => by
  cases e
  exact q O [] H r (Same.refl _) .nil
theorem sa_c {e : Expr} {es : List Expr} {f : Ev → Rs (PyData × Ev)} {g : Ev → Rs (List PyData × Ev)} (h : SE' X F e f) (t : SA' X F es g)
    (hs : starEach (e :: es) X.env = (false, eval e X.env) :: starEach es X.env := by rfl) : SA' X F (e :: es) (aCS f g) := wkA (pa_cons h t hs) fun σ H Q ⟨O, ρ, p, r, e, q⟩ => by
  obtain ⟨a, ea, e⟩ := Rs.bnd_eq e
  obtain ⟨b, eb, e⟩ := Rs.bnd_eq e
  cases e
  exact ⟨O, ρ, a, r, ea, fun O1 x H1 r1 s1 rx => ⟨O1, a.2, b, r1, eb, fun O2 xs H2 r2 s2 rxs => q O2 (x :: xs) H2 r2 (s1.trans s2) (.cons (rx.mono s2) rxs)⟩⟩
def apCS (op : List PyData → Rs PyData) (g : Ev → Rs (List PyData × Ev)) : Ev → Rs (PyData × Ev) := fun ρ => (g ρ).bnd fun p => (op p.1).bnd fun d => .ok (d, p.2)
theorem toCS {K : KB} {F : FC} {op : List PyData → Rs PyData} {g : Ev → Rs (List PyData × Ev)} {σ : St} {H : Hp} {Q : VK} (h : tPS K F (apCS op g) σ H Q) : tCB (rPC K.K op) (tAS K F g) σ H Q := by
  obtain ⟨O, ρ, p, r, e, q⟩ := h
  obtain ⟨a, ea, e⟩ := Rs.bnd_eq e
  obtain ⟨d, ed, e⟩ := Rs.bnd_eq e
  cases e
  exact ⟨O, ρ, a, r, ea, fun O1 xs H1 r1 s1 rx => ⟨NN F O1, a.1, d, fun z n => r1.nlive n, rx, ed, fun v H' s r' => q O1 v H' (r1.mono s) (s1.trans (hide_same s)) r'⟩⟩
theorem se_callB {id : String} {o : List PyData → Rs PyData} {x : Str} {p pos : Pos} {e : Expr} {es : List Expr} {g : Ev → Rs (List PyData × Ev)} (hc : CallR X (.builtin id) (rPC X.K o)) (hg : Gl X x) (hm : X.mg x = none) (hv : bootBuiltins x = some (.builtin id)) (ha : SA' X F (e :: es) g) (hn : x ≠ "__name__" := by decide) (hdb : (x == ("__debug__" : Str)) = false := by decide)
    (he : starEach (e :: es) X.env = (false, eval e X.env) :: starEach es X.env := by rfl) (hpl : (backTo pos (starEach es X.env)).any (·.1) = false := by rfl) : SE' X F (.Call (.Name x p) (e :: es) [] pos) (apCS o g) :=
  wkE (pe_callB hc hg hm hv ha hn hdb he hpl) fun _ _ _ h => toCS h
theorem se_callTy {T : String} {o : List PyData → Rs PyData} {x : Str} {p pos : Pos} {e : Expr} {es : List Expr} {g : Ev → Rs (List PyData × Ev)} (hc : CallR X (.type T) (rPC X.K o)) (hg : Gl X x) (hm : X.mg x = none) (hv : bootBuiltins x = some (.type T)) (ha : SA' X F (e :: es) g) (hn : x ≠ "__name__" := by decide) (hdb : (x == ("__debug__" : Str)) = false := by decide)
    (he : starEach (e :: es) X.env = (false, eval e X.env) :: starEach es X.env := by rfl) (hpl : (backTo pos (starEach es X.env)).any (·.1) = false := by rfl) : SE' X F (.Call (.Name x p) (e :: es) [] pos) (apCS o g) :=
  wkE (pe_callTy hc hg hm hv ha hn hdb he hpl) fun _ _ _ h => toCS h
/-- g gives n values -/
def LnS (n : Nat) (g : Ev → Rs (List PyData × Ev)) : Prop := ∀ ρ p, g ρ = .ok p → p.1.length = n
theorem lnS0 : LnS 0 aNS := fun ρ p e => by cases e; rfl
theorem lnSS {n : Nat} {f : Ev → Rs (PyData × Ev)} {g : Ev → Rs (List PyData × Ev)} (h : LnS n g) : LnS (n + 1) (aCS f g) := fun ρ p e => by
  obtain ⟨a, ea, e⟩ := Rs.bnd_eq e
  obtain ⟨b, eb, e⟩ := Rs.bnd_eq e
  cases e
  rw [List.length_cons, h a.2 b eb]
def tupS (g : Ev → Rs (List PyData × Ev)) : Ev → Rs (PyData × Ev) := fun ρ => (g ρ).bnd fun p => .ok (.tuple p.1, p.2)
theorem se_tup {es : List Expr} {k n : Nat} {g : Ev → Rs (List PyData × Ev)} {pos : Pos} (h : SA' X F es g) (hl : LnS n g) (hn : n ≤ 1000 := by decide) : SE' X F (.Tuple es k pos) (tupS g) :=
  wkE (pe_tupN h) fun σ H Q ⟨O, ρ, p, r, e, q⟩ => by
    obtain ⟨a, ea, e⟩ := Rs.bnd_eq e
    cases e
    have hz : a.1.length ≤ sizeLine := by rw [hl ρ a ea]; exact small_n hn
    exact ⟨O, ρ, a, r, ea, fun O1 vs H1 r1 s1 rx => ⟨by rw [rx.len]; exact hz, fun p o hp ho => q O1 _ _ (r1.mono (same_upd hp)) (s1.trans (hide_same (same_upd hp))) (newT ho (fun a z => r1.nlive z) hp hz rx)⟩⟩
/-- a call of a def of plain values -/
theorem se_callI {k n : Nat} {ps : List Str} {st : Stmt} {G : List PyData → Rs PyData} {x : Str} {p pos : Pos} {e : Expr} {es : List Expr} {g : Ev → Rs (List PyData × Ev)} (I : FnI X.K X.mg x st ps) (Fn : FnOk X.prog X.w X.K X.mg X.base CX0 k I.a I.d ps (spP X.K n G)) (hr : Room k X.A)
    (ha : SA' X F (e :: es) g) (hl : LnS n g) (hg : Gl X x := by rfl) (hdb : (x == ("__debug__" : Str)) = false := by decide) (he : starEach (e :: es) X.env = (false, eval e X.env) :: starEach es X.env := by rfl) (hpl : (backTo pos (starEach es X.env)).any (·.1) = false := by rfl) :
    SE' X F (.Call (.Name x p) (e :: es) [] pos) (apCS G g) :=
  wkE (pe_call Fn hr hg I.m I.F.kp I.b .nil pass0 ha hdb he hpl) fun σ H Q ⟨O, ρ, p, r, e, q⟩ => by
    obtain ⟨a, ea, e⟩ := Rs.bnd_eq e
    obtain ⟨d, ed, e⟩ := Rs.bnd_eq e
    cases e
    exact ⟨O, ρ, a, r, ea, fun O1 vs H1 r1 s1 rx => ⟨NN F O1, a.1, d, fun z n => r1.nlive n, by rw [List.append_nil]; exact rx, hl ρ a ea, ed, fun v H' s r' => q O1 v H' (r1.mono s) (s1.trans (hide_same s)) r'⟩⟩
end
end PL


/-! PL19: defs that are handed a thing and change it -/
namespace PL
open PySem PySem.Spec PyProof.Rows L2
def drop1 (j : Nat) : Option Cell → Option Cell
  | some (.prf i k) => if i = j then none else some (.prf i k)
  | c => c
/-- without the names of parts of slot j's thing -/
def dropRef (j : Nat) (ρ : Ev) : Ev := ρ.map (drop1 j)
theorem drop_get {ρ : Ev} {i j : Nat} {c : Cell} (h : (dropRef j ρ)[i]? = some (some c)) : ρ[i]? = some (some c) ∧ ∀ k, c ≠ .prf j k := by
  unfold dropRef at h
  rw [List.getElem?_map] at h
  cases e : ρ[i]? with
  | none => rw [e] at h; exact nomatch h
  | some o =>
    rw [e] at h
    have h' : drop1 j o = some c := Option.some.inj h
    cases o with
    | none => exact nomatch h'
    | some c' =>
      cases c' with
      | prf i' k' =>
        have h2 : (if i' = j then none else some (Cell.prf i' k')) = some c := h'
        split at h2
        · exact nomatch h2
        · rename_i hn
          cases h2
          exact ⟨rfl, fun k z => hn (by cases z; rfl)⟩
      | _ => cases h'; exact ⟨rfl, fun k z => nomatch z⟩
theorem drop_obj {ρ : Ev} {i j : Nat} {c : OC} (h : getC ρ i = some (.obj c)) : getC (dropRef j ρ) i = some (.obj c) := by
  rw [getC_iff] at h ⊢
  unfold dropRef
  rw [List.getElem?_map, h]; rfl
theorem Rel.drop {K : KB} {F : FC} {O : Own} {ρ : Ev} {σ : St} {H : Hp} (r : Rel K F O ρ σ H) (j : Nat) : Rel K F O (dropRef j ρ) σ H :=
  ⟨by rw [r.len]; unfold dropRef; rw [List.length_map], r.inj, r.live, r.hidl, r.base, fun i c q => r.slots i c (drop_get q).1, ⟨by unfold dropRef; rw [List.length_map]; exact r.obs.sz, fun i a c e1 e2 => r.obs.fx i a c e1 (drop_get e2).1, fun i j k c e1 e2 => r.obs.als i j k c (drop_get e1).1 (drop_get e2).1⟩⟩
theorem part_drop {ρ : Ev} {i j k : Nat} {c : OC} (h : partAt ρ i k = some c) : partAt (dropRef j ρ) i k = some c := by
  unfold partAt at h ⊢
  split at h <;> first | (cases h; done) | skip
  rename_i c' hc
  rw [drop_obj hc]; exact h
abbrev OFn := OC → List PyData → Rs (PyData × OC)
def allN (hid : Addr → Prop) (A : List Addr) : Addr → Prop := fun b => hid b ∨ b ∈ A
/-- the promise of a def whose parameter h is a thing that it may change -/
def spO (K : KB) (n h : Nat) (G : OFn) : Sp := fun vs H Q _ => ∃ (hid : Addr → Prop) (c : OC) (A : List Addr) (ds : List PyData) (a : Addr),
  vs.length = n ∧ vs[h]? = some (.ref a) ∧ RA K.K (hide (allN hid A) H) ds (vs.eraseIdx h) ∧ ds.length + 1 = n ∧ CellAt K (allN hid A) H c (.ref a) A ∧ A.Nodup ∧ A ≠ [] ∧ (∀ b, hid b → H b ≠ none) ∧ (∀ b ∈ A, ¬ hid b) ∧
  ∃ d c', G c ds = .ok (d, c') ∧ ∀ w H' A', (∀ b o, b ∉ A → H b = some o → H' b = some o) → A'.head? = A.head? → A'.Nodup → (∀ b ∈ A', ¬ hid b ∧ (b ∈ A ∨ H b = none)) → CellAt K (allN hid A') H' c' (.ref a) A' → R K.K (hide (allN hid A') H') d w → Q w H'
def startO (n h : Nat) (c : OC) (ds : List PyData) : Ev := ((ds.map fun d => some (Cell.pub d)).insertIdx h (some (.obj c))) ++ List.replicate (n - (ds.length + 1)) none
def runO (n h : Nat) (body : Ev → Rs Out) (c : OC) (ds : List PyData) : Rs (PyData × OC) := match body (startO n h c ds) with
  | .ok (.ro ρ d) => (match getC ρ h with | some (.obj c') => .ok (d, c') | _ => .no)
  | .ok (.nx ρ) => (match getC ρ h with | some (.obj c') => .ok (.none, c') | _ => .no)
  | _ => .no
theorem start_relO {K : KB} {F : FC} {H : Hp} {hid : Addr → Prop} {A : List Addr} {c : OC} {a : Addr} {ds : List PyData} {vs : List V} {N : List Str} {n h : Nat} (e1 : vs.length = n) (e2 : vs[h]? = some (.ref a)) (t : RA K.K (hide (allN hid A) H) ds (vs.eraseIdx h)) (e3 : ds.length + 1 = n) (hc : CellAt K (allN hid A) H c (.ref a) A) (nd : A.Nodup) (ne : A ≠ []) (hl : ∀ b, hid b → H b ≠ none) (hA : ∀ b ∈ A, ¬ hid b)
    (hn : n ≤ N.length) (hN : N.length ≤ 1000) (f1 : F.hid = hid) (f2 : F.H0 = fun b => open Classical in if b ∈ A then none else H b) (f3 : F.fix = fun i => if i = h then A.head? else none) : Rel K F (setO (fun _ => none) h A) (startO N.length h c ds) (L2.start N vs) H := by
  have hh : h < n := by rw [← e1]; exact (List.getElem?_eq_some_iff.mp e2).1
  have hj : h < 1000 := by omega
  have nn : NN F (setO (fun _ => none) h A) = allN hid A := by
    funext b
    refine propext ⟨fun z => ?_, fun z => ?_⟩
    · rcases z with z | ⟨i, z⟩
      · rw [f1] at z; exact .inl z
      · rcases setO_cases (O := fun _ => none) (i := i) (A := A) hj with ⟨k, _, e⟩ | ⟨_, e⟩
        · rw [e] at z; exact .inr (List.mem_of_getElem? z)
        · rw [e] at z; exact nomatch z
    · rcases z with z | z
      · exact .inl (by rw [f1]; exact z)
      · obtain ⟨k, hk, e⟩ := List.mem_iff_getElem.mp z
        exact .inr ⟨ox h k, by rw [setO_ox hj, List.getElem?_eq_getElem hk, e]⟩
  have own : ∀ {i : Nat} {b : Addr}, setO (fun _ => none) h A i = some b → ∃ k, i = ox h k ∧ A[k]? = some b := fun {i b} z => by
    rcases setO_cases (O := fun _ => none) (i := i) (A := A) hj with ⟨k, e, q⟩ | ⟨_, e⟩
    · exact ⟨k, e, by rw [q] at z; exact z⟩
    · rw [e] at z; exact nomatch z
  have ln : (startO N.length h c ds).length = N.length := by
    unfold startO
    rw [List.length_append, List.length_insertIdx, List.length_map, List.length_replicate, if_pos (by omega)]
    omega
  -- what stands in a slot at first
  have at' : ∀ {i : Nat} {cl : Cell}, (startO N.length h c ds)[i]? = some (some cl) → (i = h ∧ cl = .obj c) ∨ ∃ d v, cl = .pub d ∧ vs[i]? = some v ∧ R K.K (hide (allN hid A) H) d v := fun {i cl} q => by
    unfold startO at q
    have hi : i < ds.length + 1 := by
      by_cases hi : i < ds.length + 1
      · exact hi
      · rw [List.getElem?_append_right (by rw [List.length_insertIdx, List.length_map, if_pos (by omega)]; omega), List.getElem?_replicate] at q
        split at q <;> first | (cases q; done) | skip
    rw [List.getElem?_append_left (by rw [List.length_insertIdx, List.length_map, if_pos (by omega)]; exact hi), List.getElem?_insertIdx] at q
    by_cases h1 : i < h
    · rw [if_pos h1] at q
      rw [List.getElem?_map] at q
      obtain ⟨d, e4, e5⟩ := Option.map_eq_some_iff.mp q
      cases e5
      obtain ⟨v, e6, e7⟩ := t.get e4
      rw [List.getElem?_eraseIdx, if_pos h1] at e6
      exact .inr ⟨d, v, rfl, e6, e7⟩
    · rw [if_neg h1] at q
      by_cases h2 : i = h
      · rw [if_pos h2] at q
        split at q
        · cases q; exact .inl ⟨h2, rfl⟩
        · exact nomatch q
      · rw [if_neg h2, List.getElem?_map] at q
        obtain ⟨d, e4, e5⟩ := Option.map_eq_some_iff.mp q
        cases e5
        obtain ⟨v, e6, e7⟩ := t.get e4
        rw [List.getElem?_eraseIdx, if_neg (by omega), show i - 1 + 1 = i by omega] at e6
        exact .inr ⟨d, v, rfl, e6, e7⟩
  have sg : ∀ {i : Nat} {v : V}, vs[i]? = some v → (L2.start N vs)[i]? = some (some v) := fun {i v} q => by
    unfold L2.start
    have := (List.getElem?_eq_some_iff.mp q).1
    rw [List.getElem?_append_left (by rw [List.length_map]; exact this), List.getElem?_map, q]; rfl
  refine ⟨by rw [ln]; unfold L2.start; simp; omega, fun i j b q1 q2 => ?_, fun i b q => ?_, fun b q => ?_, fun b x q => ?_, fun i cl q => ?_, ?_⟩
  · obtain ⟨k1, r1, q1⟩ := own q1
    obtain ⟨k2, r2, q2⟩ := own q2
    have l1 := (List.getElem?_eq_some_iff.mp q1).1
    have : k1 = k2 := (List.getElem?_inj l1 nd).mp (q1.trans q2.symm)
    rw [r1, r2, this]
  · obtain ⟨k, _, q⟩ := own q
    exact hc.live b (List.mem_of_getElem? q)
  · rw [f1] at q
    rw [f2]
    show (open Classical in if b ∈ A then none else H b) ≠ none
    rw [if_neg (fun z => hA b z q)]
    exact hl b q
  · rw [f2] at q
    have q' : (open Classical in if b ∈ A then none else H b) = some x := q
    split at q'
    · exact nomatch q'
    · rename_i hb
      refine ⟨q', fun i z => ?_⟩
      obtain ⟨k, _, z⟩ := own z
      exact hb (List.mem_of_getElem? z)
  · rcases at' q with ⟨rfl, rfl⟩ | ⟨d, v, rfl, e4, e5⟩
    · exact ⟨.ref a, A, sg e2, ne, fun k => setO_ox hj, by rw [nn]; exact hc⟩
    · exact ⟨v, sg e4, by rw [nn]; exact e5⟩
  · refine ⟨by rw [ln]; exact hN, fun i b cl q1 q2 => ?_, fun i j k cl q1 q2 => ?_⟩
    · rw [f3] at q1
      have q1' : (if i = h then A.head? else none) = some b := q1
      split at q1'
      · rename_i hi
        rw [hi, setO_ox hj, ← List.head?_eq_getElem?]; exact q1'
      · exact nomatch q1'
    · rcases at' q1 with ⟨_, e⟩ | ⟨d, v, e, _⟩ <;> exact nomatch e
theorem fn_ruleO {P : Program} {w : World} {K : PySem.W.Frag} {mg : Str → Option Value} {base : Heap} {x : Str} {st : Stmt} {N ps : List Str} {k n m h : Nat} {body : Ev → Rs Out} {G : OFn} {sc : Scope} (I : FnI K mg x st ps) (hsc : defScope st = sc) (S : FnScope N ps sc) (hn : ps.length ≤ N.length) (hp : ps.length = n) (hm : N.length = m) (hG : G = runO m h body)
    (hb : ∀ (cdv : Value) (A : Around) (outer : List Env) (s : Shared) (H : Hp) (E : XK) (F : FC), Room k (A.deeper (envOfC x sc s.heap.objs.size I.a cdv)) → Calm F → PSs (cxOf CX0 P w K mg base N x sc I.a cdv A outer s H E).nox (defBody st) (tS ⟨K, P, w⟩ F body)) (hm' : m ≤ 1000 := by decide) :
    FnOk P w K mg base CX0 (k + 1) I.a I.d ps (spO ⟨K, P, w⟩ n h G) := by
  subst hsc hp hm hG
  refine I.F.ok S (fun vs H Q E hh => ?_) (fun cdv A outer s H vs Q E hr hh => ?_)
  · obtain ⟨_, _, _, _, _, e1, _⟩ := hh
    exact e1
  · obtain ⟨hid, c, B, ds, a, e1, e2, t, e3, hc, nd, ne, hl, hA, d, c', eG, q⟩ := hh
    let F : FC := { hid := hid, H0 := fun b => open Classical in if b ∈ B then none else H b, fix := fun i => if i = h then B.head? else none }
    have hh : h < ps.length := by rw [← e1]; exact (List.getElem?_eq_some_iff.mp e2).1
    refine ⟨_, hb cdv A outer s H E F hr rfl, ?_⟩
    have r0 := start_relO (F := F) (K := ⟨K, P, w⟩) (N := N) e1 e2 t e3 hc nd ne hl hA hn hm' rfl rfl rfl
    -- the end
    have fin : ∀ (O' : Own) (ρ' : Ev) (σ' : St) (H' : Hp) (w' : V) (d' : PyData), getC ρ' h = some (.obj c') → d' = d → Rel ⟨K, P, w⟩ F O' ρ' σ' H' → R K (hide (NN F O') H') d' w' → Q w' H' := fun O' ρ' σ' H' w' d' hg ed r' rd => by
      subst ed
      obtain ⟨v, A', h1, h2, h3, h4, h5, h6⟩ := obj_at r' hg
      have hd : A'.head? = B.head? := by
        cases eB : B with
        | nil => exact absurd eB ne
        | cons b0 B' =>
          have := r'.obs.fx h b0 c' (by show (if h = h then B.head? else none) = _; rw [if_pos rfl, eB]; rfl) (getC_iff.mp hg)
          rw [h3, ← List.head?_eq_getElem?] at this
          rw [this]; rfl
      have anti : ∀ b, allN hid A' b → NN F O' b := fun b z => z.elim .inl fun z => .inr ((mem_own h3 z).elim fun k hk => ⟨_, hk⟩)
      have nl : ∀ b ∈ A', ∀ x, F.H0 b ≠ some x := fun b hb x z => (mem_own h3 hb).elim fun k hk => (r'.base b x z).2 _ hk
      have va : v = .ref a := by
        obtain ⟨a1, B1, z1, z2⟩ := h4.root (fun z => h2 (List.eq_nil_of_length_eq_zero (h4.size.trans z)))
        obtain ⟨a2, B2, z3, z4⟩ := hc.root (fun z => ne (List.eq_nil_of_length_eq_zero (hc.size.trans z)))
        rw [z1, z3] at hd
        have : a1 = a2 := Option.some.inj hd
        rw [z2, this, ← z4]
      refine q w' H' A' (fun b o hb e => ?_) hd h5 (fun b hb => ⟨fun z => ?_, ?_⟩) ?_ (rd.mono (hide_anti anti))
      · exact (r'.base b o (by show (open Classical in if b ∈ B then none else H b) = some o; rw [if_neg hb]; exact e)).1
      · cases e : F.H0 b with
        | none => exact r'.hidl b z e
        | some x => exact nl b hb x e
      · by_cases hbB : b ∈ B
        · exact .inl hbB
        · refine .inr ?_
          cases e : H b with
          | none => rfl
          | some x => exact absurd (by show (open Classical in if b ∈ B then none else H b) = some x; rw [if_neg hbB]; exact e) (nl b hb x)
      · rw [← va]
        exact h4.move (hide_anti anti) fun _ _ _ z => z
    unfold runO at eG
    split at eG <;> first | (cases eG; done) | skip
    · rename_i ρ' d' eo
      split at eG <;> first | (cases eG; done) | skip
      rename_i c2 hg
      cases eG
      exact ⟨_, _, _, r0, eo, fun O' σ' H' v r' rd => fin O' ρ' σ' H' v _ hg rfl r' rd⟩
    · rename_i ρ' eo
      split at eG <;> first | (cases eG; done) | skip
      rename_i c2 hg
      cases eG
      exact ⟨_, _, _, r0, eo, fun O' σ' H' r' _ => fin O' ρ' σ' H' .non _ hg rfl r' .none⟩
end PL


/-! PL20: enumerate of a tuple -/
namespace PL
open PySem PySem.Spec PyProof.Rows
open Sem (wp)
theorem enum_new1 {v : Value} {o : Obj} {H : Heap → Prop} (B : Begins v o H) :
    Meets (Builtin.«enumerate.__new__» ⟨[.type "enumerate", v], []⟩) (fun _ R s => H s.heap ∧
      R (.ok (.ret (.ref (s.heap.push o).objs.size))) { s with heap := (s.heap.push o).push { cls := .type "enumerate", data := .fields #[.none, .bool false, .ref s.heap.objs.size, rawInt 0, .none, .none] } }) :=
  .of_wp fun prog w A R s h => by
    obtain ⟨hp, g, d, tk, os⟩ := s; obtain ⟨h1, h⟩ := h
    have hsub := sub_enumerate
    have q1 : ∀ {A' : Around} {E : Value → Shared → Prop} {Q : Value → Shared → Prop}, Q (.ref hp.objs.size) ⟨hp.push o, g, d, tk, os⟩ → wpAny (model prog w) A' (pyIter v) Q E ⟨hp, g, d, tk, os⟩ :=
      fun q => B.iter prog w _ _ ⟨hp, g, d, tk, os⟩ _ h1 q
    wp_walk using q1
    refine wpAny_stack_any fun st => wpAny_pure ?_
    split
    · rename_i c _ _ _ _ _
      cases (c == Value.type "enumerate")
      · wp_walk using q1
        exact ⟨_, rfl, h⟩
      · wp_walk using q1
        exact ⟨_, rfl, h⟩
    · wp_walk using q1
      exact ⟨_, rfl, h⟩
section
variable {prog : Program} {w : World} {A : Around} {E : Value → Shared → Prop} {s : Shared}
theorem call_enum1 {v : Value} {o : Obj} {H : Heap → Prop} {Q : Value → Shared → Prop} (B : Begins v o H) (h1 : H s.heap)
    (h : ∀ h', IsEnum h' (s.heap.objs.size + 1) s.heap.objs.size 0 .none → h'.get? s.heap.objs.size = some o → h'.objs.size = s.heap.objs.size + 2 →
      (∀ b o, s.heap.get? b = some o → h'.get? b = some o) → Q (.ref (s.heap.objs.size + 1)) { s with heap := h' }) :
    wpAny (model prog w) A (call (.type "enumerate") [v]) Q E s := by
  refine callType_new F.called_enumerate (by decide) (F.typeCall_enumerate_1 _) (F.newCall_enumerate_1 _) (fun obj => F.args_object_init_2 obj _) F.entry_enumerate_new
    (enum_new1 B) ⟨h1, ?_⟩
  have hz : (s.heap.push o).objs.size = s.heap.objs.size + 1 := Heap.size_push ..
  show _ ∧ _
  rw [hz]
  have he : IsEnum ((s.heap.push o).push { cls := .type "enumerate", data := .fields #[.none, .bool false, .ref s.heap.objs.size, rawInt 0, .none, .none] }) (s.heap.objs.size + 1) s.heap.objs.size 0 .none := by
    have := Heap.get?_push_size (s.heap.push o) (o := { cls := .type "enumerate", data := .fields #[.none, .bool false, .ref s.heap.objs.size, rawInt 0, .none, .none] }) rfl
    rw [hz] at this; exact this
  exact ⟨⟨_, he, rfl⟩, h _ he (Heap.get?_push_of_some _ (Heap.get?_push_size _ B.free)) (by rw [Heap.size_push, hz]) fun b o x => Heap.get?_push_of_some _ (Heap.get?_push_of_some _ x)⟩
end
end PL
namespace PL
open PySem PySem.Spec PyProof.Rows L2
/-- a tuple's items with their numbers, each in a new pair -/
def IteT (K : PySem.W.Frag) (a : Addr) : It where
  go := fun i H => ∃ (xs : List V) (x : V), SqT K H a xs ∧ xs[i]? = some x
  yld := fun i H v H' => ∃ T x, v = .ref T ∧ H T = none ∧ H' = upd H T (.tup [.int (i : Nat), x]) ∧ ∀ xs, SqT K H a xs → xs[i]? = some x
  stop := fun i H => ∃ xs : List V, SqT K H a xs ∧ xs.length = i
theorem turn_enumT {P : Program} {w : World} {K : PySem.W.Frag} {elts : List Expr} {kk : Nat} {tpos : Pos} (a e it : Addr) (hne : e ≠ it) (het : e ≠ a) (hti : a ≠ it) :
    Turn P w K (.Tuple elts kk tpos) (IteT K a) [e, it] e (fun i h => (∃ old, IsEnum h e it ((i : Nat) : Int) old) ∧ h.IsTupleIter it a i) where
  mem := by simp
  obj := fun i h st b hb => by
    obtain ⟨⟨old, he⟩, o, ho, hc, hd⟩ := st
    have e' : b = e ∨ b = it := by simpa using hb
    rcases e' with z | z
    · subst z; exact ⟨_, he, fun v q => nomatch q⟩
    · subst z; exact ⟨o, ho, fun v q => by rw [hd] at q; cases q⟩
  keep := fun i h h' st k => ⟨let ⟨old, he⟩ := st.1; ⟨old, k e (by simp) _ he⟩, st.2.at fun o q => k it (by simp) o q⟩
  item := by
    intro X hP hw hK hc i pins s σ H E I hf st hg
    subst hP hw hK
    obtain ⟨⟨old, he⟩, hit⟩ := st
    obtain ⟨xs, x, hq, hx⟩ := hg
    obtain ⟨its, rv, p, hz⟩ := I.tuple hq
    obtain ⟨u, hu, ru⟩ := rv.get hx
    have hel : e < s.heap.objs.size := Heap.lt_size he
    have hil : it < s.heap.objs.size := by obtain ⟨_, q, _⟩ := hit; exact Heap.lt_size q
    have hlt : i < its.toArray.size := by
      rw [List.size_toArray]
      exact (List.getElem?_eq_some_iff.mp hu).1
    refine wpAny_pyNext_enum_itemD (Draws.tuple (A := X.A.in1) (I.ok.hd hc) it a hti its.toArray) he ⟨hit, p⟩ hlt hne (by simp [hne, het]) fun y h' tk hP ho hst' hT hsz hk => ?_
    have ey : y = u := by
      have e1 : its[i]? = some y := by simpa using hP
      rw [hu] at e1; exact (Option.some.inj e1).symm
    subst ey
    refine ⟨_, rfl, wpAny_letOwnedTupleGo_enum (s := { s with heap := h', toks := tk + 1 }) ho fun h'' he' sb => ?_⟩
    have hT2 : h''.get? s.heap.objs.size = some { cls := .type "tuple", data := .seq #[.int i tk, y] } := (sb.2 _ (Nat.ne_of_gt hel)).trans hT
    have new : ObjOk X.prog X.w (upd H s.heap.objs.size (.tup [.int (i : Nat), x])) h'' s.heap.objs.size (.tup [.int (i : Nat), x]) :=
      ⟨by show 2 ≤ sizeLine; decide, [.int i tk, y], .cons ⟨_, rfl⟩ (.cons ru .nil), ⟨_, hT2, rfl, _, rfl⟩⟩
    have I1 : Inv X pins σ (upd H s.heap.objs.size (.tup [.int (i : Nat), x])) { s with heap := h'', toks := tk + 1 } :=
      I.turnedNew (ch := [e, it]) (fun b ob hb q => (sb.2 b (fun z => hb (by simp [z]))).trans (hk b ob (fun z => hb (by simp [z])) (fun z => hb (by simp [z])) q)) hf (Nat.le_refl _) new
    refine ⟨.ref s.heap.objs.size, _, I1, rfl, ⟨_, x, rfl, I.hok.fresh (Nat.le_refl _), rfl, fun ys hy => by rw [I.tuple_inj hy hq]; exact hx⟩, ⟨⟨y, ?_⟩, hst'.1.at fun o q => (sb.2 it (Ne.symm hne)).trans q⟩, fun b hb => ?_⟩
    · have e1 : ((i + 1 : Nat) : Int) = (i : Int) + 1 := by omega
      rw [e1]; exact he'
    · have hb' : b < s.heap.objs.size := by
        have e' : b = e ∨ b = it := by simpa using hb
        rcases e' with z | z
        · rw [z]; exact hel
        · rw [z]; exact hil
      rw [upd_ne (Nat.ne_of_lt hb')]
      exact (hf b hb).1
  done := by
    intro X hP hw hK hc i pins s σ H E I hf st hg
    subst hP hw hK
    obtain ⟨⟨old, he⟩, hit⟩ := st
    obtain ⟨xs, hq, hx⟩ := hg
    obtain ⟨its, rv, p, hz⟩ := I.tuple hq
    obtain ⟨f0, f1, f2, f3, f4, f5⟩ := hf it (by simp)
    have hl : its.toArray.size = i := by rw [List.size_toArray, ← rv.length]; exact hx
    exact wpAny_pyNext_enum_endD (Draws.tuple (A := X.A.in1) (I.ok.hd hc) it a hti its.toArray) he ⟨by rw [hl]; exact hit, p⟩ fun h' eb => ⟨rfl, I.turned (t' := s.toks) (fun b o hb q => eb b o hb q) f0 f1 f3 f4 f5⟩
  self := fun A i s Q E st h => let ⟨_, he⟩ := st.1; wpAny_pyIter_enum he h
def iEnumT (K : PySem.W.Frag) (ta : TA) : TI := fun σ H R => ta σ H fun vs H1 => ∃ a xs, vs = [.ref a] ∧ SqT K H1 a xs ∧ R (IteT K a) H1
theorem pi_enumT {X : Cx} {e : Expr} {ta : TA} {p pos tpos : Pos} {elts : List Expr} {kk : Nat} (hg : Gl X "enumerate") (hm : X.mg "enumerate" = none) (ha : PA X [e] ta) (hs : starEach [e] X.env = [(false, eval e X.env)] := by rfl) :
    PI X (.Tuple elts kk tpos) (.Call (.Name "enumerate" p) [e] [] pos) (iEnumT X.K ta) := by
  refine ⟨fun pins s σ H R I h => ?_⟩
  refine Call_ (ld_blt I hg hm boot_enumerate (PyProof.Rows.callWith_type1 (thn (ha.run pos pins s σ H _ I h) fun us s1 ⟨vs, H1, I1, r1, q1⟩ => ?_) hs rfl))
  obtain ⟨a, xs, ex, hq, q⟩ := q1
  subst ex
  cases r1 with
  | cons r rr =>
    cases rr
    cases r
    obtain ⟨its, rv, p', hz⟩ := I1.tuple hq
    have hal : a < s1.heap.objs.size := p'.lt
    refine call_enum1 (begins_tuple a its.toArray) p' fun h' he hit hsz hk => wpAny_pyIter_enum he ?_
    have I2 : Inv X pins σ H1 { s1 with heap := h' } := I1.kept (t' := s1.toks) hk
    refine ⟨s1.heap.objs.size + 1, [s1.heap.objs.size + 1, s1.heap.objs.size], _, _, H1, rfl, I2, turn_enumT a (s1.heap.objs.size + 1) s1.heap.objs.size (Nat.succ_ne_self _) (Nat.ne_of_gt (Nat.lt_succ_of_lt hal)) (Nat.ne_of_lt hal), ⟨⟨.none, he⟩, ⟨_, hit, rfl, rfl⟩⟩, fun b hb => ?_, q⟩
    have e' : b = s1.heap.objs.size + 1 ∨ b = s1.heap.objs.size := by simpa using hb
    have hle : s1.heap.objs.size ≤ b := by
      rcases e' with z | z
      · rw [z]; exact Nat.le_add_right _ _
      · rw [z]; exact Nat.le_refl _
    exact I1.fpOk hle (I1.hok.fresh hle)
theorem wk_enumT {is : List Nat} {K : PySem.W.Frag} {B E : Hp} {a : Addr} {ds : List PyData} {xs : List V} (z : ds.length ≤ sizeLine) (h : SqT K B a xs) (t : RA K E ds xs) : Wk (.many is) K B E (IteT K a) (ds.mapIdx fun i x => .tuple [.int i, x]) := by
  refine ⟨by rw [List.length_mapIdx]; exact z, fun H i s hi => ?_, fun H s => ⟨xs, sqt_mono s h, by rw [List.length_mapIdx, t.len]⟩, fun H i x H' s hi y => ?_⟩
  · rw [List.length_mapIdx] at hi
    obtain ⟨x, e1, e2⟩ := t.get (List.getElem?_eq_getElem hi)
    exact ⟨xs, x, sqt_mono s h, e1⟩
  · obtain ⟨T, u, e, hT, eH, y1⟩ := y
    subst e eH
    obtain ⟨d, e1, e2⟩ := t.getV (y1 xs (sqt_mono s h))
    exact ⟨same_upd hT, _, by rw [List.getElem?_mapIdx, e1]; rfl, fun N hn se => pair_R hn hT .int (e2.mono se)⟩
theorem i_enumT {is : List Nat} {X : Cx} {F : FC} {e : Expr} {g : Ev → Rs (List PyData)} {p pos tpos : Pos} {elts : List Expr} {kk : Nat} (hg : Gl X "enumerate") (hm : X.mg "enumerate" = none) (ha : AP' X F [e] g) (hs : starEach [e] X.env = [(false, eval e X.env)] := by rfl) : PI X (.Tuple elts kk tpos) (.Call (.Name "enumerate" p) [e] [] pos) (tI X.kb F (.many is) (apN enumTD g)) :=
  wkI (pi_enumT hg hm ha hs) fun σ H Q ⟨O, ρ, ds, r, e, q⟩ => by
    obtain ⟨l, el, e⟩ := Rs.bnd_eq e
    unfold enumTD at e
    split at e <;> first | (cases e; done) | skip
    cases e
    refine ⟨O, ρ, _, r, el, fun vs H1 s1 r1 => ?_⟩
    obtain ⟨x, ev, g1⟩ := r1.inv1
    obtain ⟨z1, a, xs, e1, h1, t1⟩ := g1.tupV
    subst e1
    exact ⟨a, xs, ev, sqT_le h1, q _ H1 s1 (wk_enumT z1 h1 t1)⟩
end PL
namespace PL
open PySem PySem.Spec PyProof.Rows L2
/-! tuple.index -/
def TupD (K : PySem.W.Frag) (x : V) (H : Hp) : Prop := ∃ a xs, x = .ref a ∧ SqT K H a xs ∧ NoD K H a
def tTIx (K : PySem.W.Frag) (to : TE) (t : TA) : TE := fun σ H Q => to σ H fun x H1 => TupD K x H1 ∧ t σ H1 fun vs H2 => ∃ (a : Addr) (ns : List Int) (k : Int), x = .ref a ∧ vs = [.int k] ∧ SqT K H2 a (ns.map V.int) ∧ k ∈ ns ∧ Q (.int (ns.idxOf k : Nat)) H2
theorem nod_at {X : Cx} {pins : List (Addr × Obj)} {σ : St} {H : Hp} {s : Shared} {a : Addr} (I : Inv X pins σ H s) (h : NoD X.K H a) : ∃ ob, s.heap.get? a = some ob ∧ ob.dict = none := by
  rcases h with ⟨o, u, h1, h2⟩ | ⟨o, h1, h2⟩
  · exact ⟨o, (I.hok a _ h2).1, h1⟩
  · exact ⟨o, I.kIn a o h1, h2⟩
section
variable {X : Cx} {F : FC}
theorem pe_tupIx {to : TE} {t : TA} {o e : Expr} {apos cpos : Pos} (ho : PE X o to) (ha : PA X [e] t)
    (hbase : attributeBase o "index" X.env (eval o X.env) = eval o X.env := by rfl)
    (hfew : ((backTo cpos (starEach [e] X.env)).all (fun x => !x.1) && (backToKw cpos (keywordEach [] X.env)).all (fun x => x.1.isSome)
      && decide ([e].length + ([] : List Keyword).length + (if ([] : List Keyword).isEmpty then 0 else 1) < 30)) = true := by rfl)
    (hline : (apos.endLine == cpos.line) = true := by rfl) (hs : starEach [e] X.env = (false, eval e X.env) :: starEach [] X.env := by rfl) (hplain : (backTo cpos (starEach [] X.env)).any (·.1) = false := by rfl) :
    PE X (.Call (.Attribute o "index" apos) [e] [] cpos) (tTIx X.K to t) := by
  refine ⟨fun pins s σ H Q I h => ?_⟩
  refine wpAny_Call_method_late hbase hfew hline rfl (thn (ho.run pins s σ H _ I h) fun v s1 ⟨x, H1, I1, r1, ty, q1⟩ => ?_)
  obtain ⟨a, xs, ex, hq, hn⟩ := ty
  subst ex
  obtain rfl : v = Value.ref a := r1
  obtain ⟨its, rv, p, _⟩ := I1.tuple hq
  obtain ⟨o', ho', hc, _⟩ := id p
  refine ⟨"tuple", "tuple.index", PySem.F.plainAttrs_tuple, PySem.F.slot_tuple_index, PySem.F.type_tuple_index, ⟨o', ho', hc⟩, fun b e => by cases e; exact nod_at I1 hn, ?_⟩
  have hA := ha.run cpos pins s1 σ H1 _ I1 q1
  rw [hs] at hA ⊢
  refine Calls.callWith_builtin (by show (false || (backTo cpos (starEach [] X.env)).any (·.1)) = false; rw [hplain] <;> rfl) (Calls.evalArgs_plain ?_)
  refine thn hA fun us s2 ⟨vs, H2, I2, r2, a2, ns, k, e1, e2, e3, e4, q⟩ => ?_
  cases e1
  subst e2
  obtain ⟨u, rfl, t', rfl⟩ := vals1 r2
  obtain ⟨its2, rv2, p2, _⟩ := I2.tuple e3
  exact SeqAt.tuple_index_ints (vs := its2) p2 (intsAre_of rv2) e4 ⟨.int (ns.idxOf k : Nat), H2, I2.tok _, ⟨_, rfl⟩, q⟩
theorem ints_ra {K : PySem.W.Frag} {H : Hp} : ∀ {ds : List PyData} {ns : List Int} {xs : List V}, intsO ds = some ns → RA K H ds xs → xs = ns.map V.int
  | [], ns, xs, e, r => by cases e; exact r.inv0
  | d :: ds, ns, xs, e, r => by
    cases d with
    | int i =>
      rw [intsO] at e
      obtain ⟨l, e1, rfl⟩ := Option.map_eq_some_iff.mp e
      obtain ⟨x, q, rfl, h1, h2⟩ := r.inv
      rw [h1.intV, ints_ra e1 h2]; rfl
    | _ => exact nomatch e
theorem p_tupIx {o e : Expr} {f : Ev → Rs PyData} {g : Ev → Rs (List PyData)} {apos cpos : Pos} (ho : EP' X F o f) (ha : AP' X F [e] g)
    (hbase : attributeBase o "index" X.env (eval o X.env) = eval o X.env := by rfl)
    (hfew : ((backTo cpos (starEach [e] X.env)).all (fun x => !x.1) && (backToKw cpos (keywordEach [] X.env)).all (fun x => x.1.isSome)
      && decide ([e].length + ([] : List Keyword).length + (if ([] : List Keyword).isEmpty then 0 else 1) < 30)) = true := by rfl)
    (hline : (apos.endLine == cpos.line) = true := by rfl) (hs : starEach [e] X.env = (false, eval e X.env) :: starEach [] X.env := by rfl) (hplain : (backTo cpos (starEach [] X.env)).any (·.1) = false := by rfl) :
    EP' X F (.Call (.Attribute o "index" apos) [e] [] cpos) (apT indexT f g) :=
  wkE (pe_tupIx ho ha hbase hfew hline hs hplain) fun σ H Q ⟨O, ρ, d, r, e, q⟩ => by
    obtain ⟨d1, e1, e⟩ := Rs.bnd_eq e
    obtain ⟨ds, e2, e⟩ := Rs.bnd_eq e
    unfold indexT at e
    split at e <;> first | (cases e; done) | skip
    rename_i es k e'
    split at e <;> first | (cases e; done) | skip
    rename_i ns hns
    split at e <;> first | (cases e; done) | skip
    rename_i hk
    cases e
    refine ⟨O, ρ, _, r, e1, fun x H1 s1 r1 => ?_⟩
    obtain ⟨z, a, xs, ex, h1, t1, nd⟩ := r1.tupN
    subst ex
    have nd : NoD X.kb.K (hide (NN F O) H1) a := by
      rcases nd with nd | nd
      · exact nd
      · exfalso
        cases es with
        | nil => exact nomatch nd
        | cons d0 r0 =>
          cases d0 with
          | str y => exact nomatch hns
          | _ => exact nomatch nd
    refine ⟨⟨a, xs, rfl, sqT_le h1, nd.mono hide_le⟩, O, ρ, _, r.mono s1, e2, fun vs H2 s2 r2 => ?_⟩
    obtain ⟨y, ev, g1⟩ := r2.inv1
    refine ⟨a, ns, k, rfl, by rw [ev, g1.intV], ?_, hk, q _ H2 (s1.trans s2) .int⟩
    rw [← ints_ra hns t1]
    exact sqt_mono s2 (sqT_le h1)
end
end PL


/-! PL21: set(xs) of a list, its length, sorted of it -/
namespace PL
open PySem PySem.Spec PyProof.Rows L2
section
variable {P : Program} {w : World} {A : Around} {E : Value → Shared → Prop} {s : Shared}
/-- the object of a new set -/
def newS (w : World) : Obj := { cls := .type "set", dict := none, data := .set #[] 0 (.fresh 0 0 (!w.params.followText "set-order")) }
/-- a way to put things into the set at S: SP i says what is in it after i of them; it rests on S and on what B names -/
structure Fill (P : Program) (w : World) (S : Addr) (B : Addr → Prop) (U n : Nat) (Pv : Nat → Value → Prop) (SP : Nat → Heap → Prop) : Prop where
  keep : ∀ i h h', SP i h → (∀ b o, b = S ∨ B b → h.get? b = some o → h'.get? b = some o) → SP i h'
  put : ∀ (A : Around) (E : Value → Shared → Prop) i v (s : Shared) (Q : Bool → Shared → Prop), A.units < U → i < n → Pv i v → SP i s.heap →
    (∀ b h' tk, Heap.SameBut S s.heap h' → SP (i + 1) h' → s.toks ≤ tk → Q b { s with heap := h', toks := tk }) → wpAny (model P w) A (setAdd S v) Q E s
theorem set_fill {I S : Addr} {fp wr : List Addr} {G : Array GenState → Array GenState → Prop} {n : Nat} {Pv : Nat → Value → Prop} {Z : Nat → Shared → Prop} {R : Result → Shared → Prop} {SP : Nat → Heap → Prop} {B : Addr → Prop} {U : Nat} (hU : A.in1.units < U)
    (W : WalksS P w A.in1 I fp wr G n Pv Z) (nS : S ∉ fp) (nB : ∀ b, B b → b ∉ wr) (L : Fill P w S B U n Pv SP) : ∀ (k i : Nat) (s : Shared), n - i = k → i ≤ n → Z i s → SP i s.heap →
      (∀ s', Moved (S :: wr) G s s' → SP n s'.heap → R (.ok (.ret .none)) s') → codeAny (model P w) A (.builtin "set.update.loop" ⟨[.ref S, .ref I], []⟩) R s := by
  have nW : ∀ b, b = S ∨ B b → b ∉ wr := fun b z => z.elim (fun e y => nS (W.sub _ (e ▸ y))) (nB b)
  have up : ∀ b ∈ wr, b ∈ S :: wr := fun _ z => List.mem_cons_of_mem _ z
  intro k
  induction k with
  | zero =>
    intro i s e1 e2 z0 sp hR
    obtain rfl : i = n := by omega
    refine codeAny_builtin F.entry_set_update_loop ?_
    rw [Around.under_plainId F.plain_set_update_loop _]
    show wpAny _ A.in1 (pyNext (.ref I) >>= _) _ _ s
    refine wpAny_bind (W.done s _ _ z0 fun s' mv => ?_)
    show wpAny _ A.in1 (ret Value.none) _ _ s'
    exact wpAny_pure (hR s' (mv.mono up) (L.keep _ _ _ sp fun b o z q => mv.heap b o (nW b z) q))
  | succ k ih =>
    intro i s e1 e2 z0 sp hR
    have lt : i < n := by omega
    refine codeAny_builtin F.entry_set_update_loop ?_
    rw [Around.under_plainId F.plain_set_update_loop _]
    show wpAny _ A.in1 (pyNext (.ref I) >>= _) _ _ s
    refine wpAny_bind (W.item i s _ _ lt z0 fun v s' pv z1 mv => ?_)
    have sp1 := L.keep _ _ _ sp fun b o z q => mv.heap b o (nW b z) q
    show wpAny _ A.in1 (holding [v] (setAdd S v) >>= _) _ _ s'
    refine wpAny_bind (wpAny_holding (L.put _ _ i v s' _ hU lt pv sp1 fun b h' tk sb sp2 tl => ?_))
    refine wpAny_pure ⟨plainId_quiet F.plain_set_update_loop _, ih (i + 1) _ (by omega) lt (W.frame _ s' _ _ z1 tl fun b hb o e => ?_) sp2 fun s'' mv2 sp3 => ?_⟩
    · rw [sb.2 b fun h : b = S => nS (by rw [← h]; exact hb)]
      exact e
    · refine hR s'' (Moved.trans W.gtrans ((mv.mono up).then_heap tl fun b o hb e => ?_) mv2) sp3
      rw [sb.2 b fun h : b = S => hb (by rw [h]; exact List.mem_cons_self)]
      exact e
/-- `set.__new__` -/
theorem set_new1 (a : Value) {Z : Value → Shared → Prop} (h : Z (.ref s.heap.objs.size) { s with heap := s.heap.push (newS w) }) :
    codeAny (model P w) A (.call (.builtin "set.__new__") ⟨[.type "set", a], []⟩) (wants Z E) s := code_set_led1 a h
theorem newS_at {h : Heap} : (h.push (newS w)).get? h.objs.size = some (newS w) := Heap.get?_push_size _ rfl
set_option maxHeartbeats 8000000 in
/-- `set(l)` of a list -/
theorem call_set_lst {l : Addr} {its : Array Value} {n : Nat} {Pv : Nat → Value → Prop} {SP : Nat → Heap → Prop} {Q : Value → Shared → Prop} {U : Nat} (hU : A.units + 3 < U) (hn : A.handled = none) (ol : s.heap.IsList l its) (zn : its.size = n)
    (pv : ∀ i v, its[i]? = some v → Pv i v) (L : Fill P w s.heap.objs.size (fun b => b < s.heap.objs.size) U n Pv SP) (sp0 : ∀ h : Heap, h.get? s.heap.objs.size = some (newS w) → (∀ b o, s.heap.get? b = some o → h.get? b = some o) → SP 0 h)
    (q : ∀ (h' : Heap) (tk : Nat), SP n h' → (∀ b o, s.heap.get? b = some o → h'.get? b = some o) → Q (.ref s.heap.objs.size) { s with heap := h', toks := tk }) :
    wpAny (model P w) A (call (.type "set") [.ref l]) Q E s := by
  subst zn
  obtain ⟨c0, t0, m0⟩ := F.called_set.mro
  have m1 := F.called_set.made
  have m2 := F.called_set.sub
  refine wpAny_call (codeAny_of_tree ?_)
  show wpAny _ _ (callAny (.type "set") _) _ _ _
  refine wpAny_pure ⟨Code.quiet_builtin _ (by decide +kernel), codeAny_builtin F.entry_type_call ?_⟩
  rw [Around.under_plain (weight_type_call_type "set" [.ref l] []) rfl]
  have m3 := F.called_set.notType
  have m4 := F.called_set.canCreate
  have m5 := F.typeCall_set_1 (.ref l)
  repeat (any_goals (first | assumption | wp_step))
  refine codeAny_mono (set_new1 (.ref l) (E := E) (Z := fun obj z => obj = .ref s.heap.objs.size ∧ z = { s with heap := s.heap.push (newS w) }) ⟨rfl, rfl⟩) fun r z hr => ?_
  cases r with
  | error e => exact hr
  | ok fl =>
    cases fl with
    | ret obj =>
      obtain ⟨rfl, rfl⟩ := hr
      have oT : Shared.TypeIs { s with heap := s.heap.push (newS w) } (.ref s.heap.objs.size) "set" := ⟨_, newS_at, rfl⟩
      have b1 := F.called_set.init.lookup
      have b2 := F.called_set.init.bind (.ref s.heap.objs.size)
      repeat (any_goals (first | assumption | wp_step))
      refine codeAny_mono (codeAny_call_builtin (R := wants (fun r z2 => r = .none ∧ ∃ h' tk, z2 = { s with heap := h', toks := tk } ∧ SP its.size h' ∧ (∀ b o, s.heap.get? b = some o → h'.get? b = some o)) E)
        F.called_set.init.plain F.entry_set_init (check_set_init_1 oT ?_)) fun r2 z2 hr2 => ?_
      · obtain ⟨o, ho, hc, nl, hd⟩ := ol
        obtain ⟨oc, od, odt, osl⟩ := o
        simp only at hc hd
        subst hc; subst hd
        have ho1 : (s.heap.push (newS w)).get? l = some { cls := .type "list", dict := od, data := .seq its nl, slots := osl } := Heap.get?_push_of_some _ ho
        have y1 := F.sub_list_set
        have y2 := F.sub_list_frozenset
        have y3 : (Value.type "list" == Value.type "dict") = false := by decide
        have ol1 : (s.heap.push (newS w)).IsList l its := ⟨_, ho1, rfl, nl, rfl⟩
        unfold Builtin.«set.__init__» noKeywords Builtin.Frozenset.updateFrom
        generalize hPI : pyIter = PI
        wp_walk
        subst hPI
        refine wpAny_pyIter_list ol1 ?_
        refine wpAny_bind (wpAny_runValue ?_)
        have lS : l < s.heap.objs.size := Heap.lt_size ho
        have n3 : A.in1.in1.in1.handled = none := by simp [hn]
        have neI : l ≠ (s.heap.push (newS w)).objs.size := by
          have e1 : l < s.heap.objs.size + 1 := Nat.lt_succ_of_lt lS
          rw [Heap.size_push]
          exact Nat.ne_of_lt e1
        have nS : s.heap.objs.size ∉ [(s.heap.push (newS w)).objs.size, l] := by
          rw [Heap.size_push]
          simp only [List.mem_cons, List.not_mem_nil, or_false, not_or]
          exact ⟨Nat.ne_of_lt (Nat.lt_succ_self _), fun z => absurd lS (by rw [z]; exact Nat.lt_irrefl _)⟩
        refine set_fill (Z := _) (U := U) hU ((Walks.list n3 _ l neI its).toS) nS (fun b lb z => Nat.ne_of_lt (Nat.lt_succ_of_lt lb) ((List.mem_singleton.mp z).trans (Heap.size_push s.heap (newS w)))) ⟨L.keep, fun A' E' i v s' Q' hU' lt pq => L.put A' E' i v s' Q' hU' lt (pv i v pq)⟩ (its.size - 0) 0 _ (by omega) (Nat.zero_le _)
          ⟨⟨_, Heap.get?_push_size _ rfl, rfl, rfl⟩, ol1.push _⟩ (sp0 _ (Heap.get?_push_of_some _ newS_at) fun b o e => Heap.get?_push_of_some _ (Heap.get?_push_of_some _ e)) fun s' mv sp => ?_
        obtain ⟨h', g', d', tk', os'⟩ := s'
        have eg : g' = s.gens := mv.gens
        have ed : d' = s.drawn := mv.drawn
        have eo : os' = s.os := mv.os
        subst eg; subst ed; subst eo
        show wpAny _ _ _ _ _ _
        refine wpAny_pure ?_
        show wpAny _ _ (ret Value.none) _ _ _
        refine wpAny_pure ⟨rfl, h', tk', rfl, sp, fun b o e => ?_⟩
        have b0 : b < s.heap.objs.size := Heap.lt_size e
        refine mv.heap b o ?_ (Heap.get?_push_of_some _ (Heap.get?_push_of_some _ e))
        rw [Heap.size_push]
        simp only [List.mem_cons, List.not_mem_nil, or_false, not_or]
        have b1 : b < s.heap.objs.size + 1 := Nat.lt_succ_of_lt b0
        exact ⟨Nat.ne_of_lt b0, Nat.ne_of_lt b1⟩
      · cases r2 with
        | error e => exact hr2
        | ok fl2 =>
          cases fl2 with
          | ret r =>
            obtain ⟨rfl, h', tk, rfl, sp, hk⟩ := hr2
            repeat (any_goals (first | assumption | wp_step))
            exact q _ _ sp hk
          | _ => exact hr2.elim
    | _ => exact hr.elim
end
/-! ### ints -/
theorem intsFill (P : Program) (w : World) (S : Addr) (B : Addr → Prop) (U : Nat) (ns : List Int) (hb : ns.length + 1 < scanBound) :
    Fill P w S B U ns.length (fun i v => ∃ k t, ns[i]? = some k ∧ v = .int k t) (fun i h => ∃ c, c ≤ i ∧ SetR w h S (fun j => decide (j ∈ ns.take i)) c) where
  keep := fun i h h' ⟨c, hc, r⟩ k => ⟨c, hc, r.at fun o => k S o (.inl rfl)⟩
  put := fun A E i v s Q _ lt ⟨z, t, hz, e⟩ ⟨c, hc, r⟩ q => by
    subst e
    unfold setAdd
    refine wpAny_holding ?_
    refine wpAny_bind ((intKind P w).pyHash (k := z) (intKind_is _ _ _ _) ?_)
    refine setR_add_hashed (s := { s with toks := s.toks + 1 }) r (by omega) fun h' sb r2 => ?_
    refine q _ h' _ sb ⟨if decide (z ∈ ns.take i) = true then c else c + 1, by split <;> omega, r2.congr fun j => ?_⟩ (Nat.le_succ _)
    rw [List.take_add_one, hz]
    simp [List.mem_append]
/-- set(xs) of a list of ints -/
def rSetL (w : World) (K : PySem.W.Frag) : List V → Hp → VK → Prop := fun xs H Q => ∃ (l : Addr) (ns : List Int), xs = [V.ref l] ∧ SqL K H l (ns.map V.int) ∧ ns.length + 1 < scanBound ∧
  ∀ p c, H p = none → c ≤ ns.length → Q (.ref p) (upd H p (SetO w p (fun j => decide (j ∈ ns)) c))
section
variable {X : Cx}
theorem cr_setL (hc : X.calm = true) : CallR X (.type "set") (rSetL X.w X.K) := by
  intro pins s σ H xs us Q I r ⟨l, ns, e, hl, hb, q⟩
  subst e
  rw [Vals.ref1 r]
  obtain ⟨its, rv, pl, hz⟩ := I.list hl
  have ia := intsAre_of rv
  have hlen : its.toArray.size = ns.length := by rw [List.size_toArray, ← rv.length, List.length_map]
  refine call_set_lst (U := X.A.units + 4) (Nat.lt_succ_self _) (n := ns.length) (I.ok.hd hc) pl.isList hlen (fun i v hv => ?_) (intsFill X.prog X.w _ _ _ ns hb) (fun h e _ => ⟨0, Nat.le_refl 0, setR_new_at e⟩) fun h' tk ⟨c, hc', hS⟩ k => ?_
  · obtain ⟨n, t, e1, e2⟩ := PyProof.Rows.IntsAre.at ia i v (by simpa using hv)
    exact ⟨n, t, e2, e1⟩
  · rw [List.take_length] at hS
    have hf := I.hok.fresh (Nat.le_refl s.heap.objs.size)
    exact ⟨.ref _, upd H s.heap.objs.size (SetO X.w s.heap.objs.size (fun j => decide (j ∈ ns)) c), I.laid (t' := tk) k (Nat.le_refl _) (setO_new hS), rfl, q _ c hf hc'⟩
end
/-- into an ascending list without doubles -/
def insU (x : Int) : List Int → List Int
  | [] => [x]
  | y :: ys => if x < y then x :: y :: ys else if x = y then y :: ys else y :: insU x ys
def setU (ns : List Int) : List Int := ns.foldr insU []
theorem insU_mem {x z : Int} : ∀ {ys : List Int}, z ∈ insU x ys ↔ z = x ∨ z ∈ ys
  | [] => by simp [insU]
  | y :: ys => by
    unfold insU
    split
    · simp
    · split
      · rename_i e
        subst e
        simp
      · simp only [List.mem_cons, insU_mem (ys := ys)]
        constructor
        · rintro (h | h | h)
          · exact .inr (.inl h)
          · exact .inl h
          · exact .inr (.inr h)
        · rintro (h | h | h)
          · exact .inr (.inl h)
          · exact .inl h
          · exact .inr (.inr h)
theorem insU_asc {x : Int} : ∀ {ys : List Int}, ys.Pairwise (· < ·) → (insU x ys).Pairwise (· < ·)
  | [], _ => by simp [insU]
  | y :: ys, h => by
    obtain ⟨h1, h2⟩ := List.pairwise_cons.mp h
    unfold insU
    split
    · rename_i lt
      exact List.pairwise_cons.mpr ⟨fun z hz => by
        rcases List.mem_cons.mp hz with e | hz
        · omega
        · have := h1 z hz; omega, h⟩
    · split
      · exact h
      · exact List.pairwise_cons.mpr ⟨fun z hz => by
          rcases insU_mem.mp hz with e | hz
          · omega
          · exact h1 z hz, insU_asc h2⟩
theorem setU_mem {z : Int} : ∀ {ns : List Int}, z ∈ setU ns ↔ z ∈ ns
  | [] => Iff.rfl
  | n :: ns => by
    show z ∈ insU n (setU ns) ↔ _
    rw [insU_mem, setU_mem, List.mem_cons]
theorem setU_asc : ∀ {ns : List Int}, (setU ns).Pairwise (· < ·)
  | [] => List.Pairwise.nil
  | n :: ns => insU_asc setU_asc
theorem asc_uniq : ∀ {as bs : List Int}, as.Pairwise (· < ·) → bs.Pairwise (· < ·) → (∀ k, k ∈ as ↔ k ∈ bs) → as = bs
  | [], [], _, _, _ => rfl
  | [], b :: bs, _, _, h => absurd ((h b).mpr List.mem_cons_self) (by simp)
  | a :: as, [], _, _, h => absurd ((h a).mp List.mem_cons_self) (by simp)
  | a :: as, b :: bs, ha, hb, h => by
    obtain ⟨a1, a2⟩ := List.pairwise_cons.mp ha
    obtain ⟨b1, b2⟩ := List.pairwise_cons.mp hb
    have e : a = b := by
      rcases List.mem_cons.mp ((h a).mp List.mem_cons_self) with e | e
      · exact e
      · rcases List.mem_cons.mp ((h b).mpr List.mem_cons_self) with e' | e'
        · exact e'.symm
        · have := b1 a e
          have := a1 b e'
          omega
    subst e
    rw [asc_uniq a2 b2 fun k => ?_]
    constructor
    · intro hk
      rcases List.mem_cons.mp ((h k).mp (List.mem_cons_of_mem _ hk)) with e | e
      · subst e
        exact absurd (a1 k hk) (by omega)
      · exact e
    · intro hk
      rcases List.mem_cons.mp ((h k).mpr (List.mem_cons_of_mem _ hk)) with e | e
      · subst e
        exact absurd (b1 k hk) (by omega)
      · exact e
def intOf? : PyData → Option Int
  | .int i => some i
  | _ => none
def intsOf? : List PyData → Option (List Int)
  | [] => some []
  | d :: ds => match intOf? d, intsOf? ds with
    | some i, some is => some (i :: is)
    | _, _ => none
theorem intsOf?_eq : ∀ {ds : List PyData} {ns : List Int}, intsOf? ds = some ns → ds = ns.map .int
  | [], ns, h => by cases h; rfl
  | d :: ds, ns, h => by
    unfold intsOf? at h
    split at h <;> first | (cases h; done) | skip
    rename_i i is h1 h2
    cases h
    unfold intOf? at h1
    split at h1 <;> first | (cases h1; done) | skip
    cases h1
    rw [intsOf?_eq h2]
    rfl
theorem intsOf?_map : ∀ ns : List Int, intsOf? (ns.map .int) = some ns
  | [] => rfl
  | n :: ns => by
    show (match intOf? (.int n), intsOf? (ns.map .int) with | some i, some is => some (i :: is) | _, _ => none) = _
    rw [intsOf?_map ns]
    rfl
theorem insU_len (x : Int) : ∀ ys : List Int, (insU x ys).length ≤ ys.length + 1
  | [] => Nat.le_refl _
  | y :: ys => by
    unfold insU
    split
    · exact Nat.le_refl _
    · split
      · exact Nat.le_succ _
      · exact Nat.succ_le_succ (insU_len x ys)
theorem setU_len : ∀ ns : List Int, (setU ns).length ≤ ns.length
  | [] => Nat.le_refl _
  | n :: ns => Nat.le_trans (insU_len n (setU ns)) (Nat.succ_le_succ (setU_len ns))
theorem RA.intsV {K : PySem.W.Frag} {H : Hp} : ∀ {ns : List Int} {xs : List V}, RA K H (ns.map .int) xs → xs = ns.map V.int
  | [], _, h => h.inv0
  | n :: ns, _, h => by
    obtain ⟨x, r, rfl, h1, h2⟩ := h.inv
    rw [h1.intV, RA.intsV h2]
    rfl
/-- sorted(set(l)) of a list of ints -/
def setIN : List PyData → Rs (List PyData)
  | [.list ds] => match intsOf? ds with
    | some ns => if ns.length < 64 then .ok ((setU ns).map .int) else .no
    | none => .no
  | _ => .no
theorem setIN_ok (ns : List Int) (h : ns.length < 64) : setIN [.list (ns.map .int)] = .ok ((setU ns).map .int) := by
  show (match intsOf? (ns.map .int) with | some ns => if ns.length < 64 then Rs.ok ((setU ns).map PyData.int) else Rs.no | none => Rs.no) = _
  rw [intsOf?_map]
  exact if_pos h
section
variable {X : Cx} {F : FC}
theorem n_setI {a : Expr} {g : Ev → Rs (List PyData)} {p p2 q pos : Pos} (hc : X.calm = true) (hg : Gl X "sorted") (hm : X.mg "sorted" = none) (hg2 : Gl X "set") (hm2 : X.mg "set" = none) (ha : AP' X F [a] g)
    (he : starEach [a] X.env = (false, eval a X.env) :: starEach [] X.env := by rfl) (he2 : starEach [.Call (.Name "set" p2) [a] [] q] X.env = (false, eval (.Call (.Name "set" p2) [a] [] q) X.env) :: starEach [] X.env := by rfl) :
    NP' X F (.Call (.Name "sorted" p) [.Call (.Name "set" p2) [a] [] q] [] pos) (apN setIN g) :=
  wkE (pe_callB (cr_sortedSet hc) hg hm (by decide +kernel) (pa_cons (pe_callTy (cr_setL hc) hg2 hm2 (by decide +kernel) ha (by decide) (by decide) he rfl) pa_nil he2) (by decide) (by decide) he2 rfl) fun σ H Q ⟨O, ρ, es, r, e, qq⟩ => by
    obtain ⟨ds, ed, e⟩ := Rs.bnd_eq e
    refine ⟨O, ρ, ds, r, ed, fun vs H1 s1 ra => ?_⟩
    unfold setIN at e
    split at e <;> first | (cases e; done) | skip
    rename_i ds
    split at e <;> first | (cases e; done) | skip
    rename_i ns hns
    split at e <;> first | (cases e; done) | skip
    rename_i h64
    cases e
    have hd := intsOf?_eq hns
    subst hd
    obtain ⟨x, rfl, r1⟩ := ra.inv1
    obtain ⟨z1, a, ys, rfl, h1, t1⟩ := r1.listV
    have ey : ys = ns.map V.int := t1.intsV
    subst ey
    refine ⟨a, ns, rfl, sqL_le h1, by unfold scanBound; omega, fun p' c hp hcl => ?_⟩
    show rSortedSet X.w [.ref p'] _ Q
    refine ⟨p', _, c, rfl, upd_same, by omega, fun ns' p'' hs hmem hlen hp'' => ?_⟩
    have en : ns' = setU ns := asc_uniq hs setU_asc fun k => by
      rw [hmem k, setU_mem]
      simp
    subst en
    have hne : p'' ≠ p' := fun z => by
      subst z
      rw [upd_same] at hp''
      exact nomatch hp''
    have hp1 : H1 p'' = none := by rwa [upd_ne hne] at hp''
    have s3 : Same H (upd (upd H1 p' (SetO X.w p' (fun j => decide (j ∈ ns)) c)) p'' (.lst ((setU ns).map V.int))) := (s1.trans (same_upd hp)).trans (same_upd hp'')
    exact qq p'' _ _ s3 (s1.free hp1) upd_same (by rw [List.length_map]; have := setU_len ns; rw [sizeLine_eq]; omega) RA.ints
end
end PL
namespace PL
open PySem PySem.Spec PyProof.Rows L2 PpSet
/-! ### bools -/
def cntB (bs : List Bool) : Nat := (if true ∈ bs then 1 else 0) + if false ∈ bs then 1 else 0
theorem cntB_le (bs : List Bool) : cntB bs ≤ 2 := by
  unfold cntB
  split <;> split <;> omega
theorem cntB_snoc (bs : List Bool) (b : Bool) : cntB (bs ++ [b]) = if decide (b ∈ bs) = true then cntB bs else cntB bs + 1 := by
  unfold cntB
  cases b <;> by_cases h1 : true ∈ bs <;> by_cases h2 : false ∈ bs <;> simp [List.mem_append, h1, h2]
theorem boolsFill (P : Program) (w : World) (S : Addr) (B : Addr → Prop) (U : Nat) (bs : List Bool) :
    Fill P w S B U bs.length (fun i v => ∃ b, bs[i]? = some b ∧ v = .bool b) (fun i h => SetB w h S (fun j => decide (j ∈ bs.take i)) (cntB (bs.take i))) where
  keep := fun i h h' r k => r.at fun o => k S o (.inl rfl)
  put := fun A E i v s Q _ lt ⟨b, hb, e⟩ r q => by
    subst e
    unfold setAdd
    refine wpAny_holding ?_
    refine wpAny_bind ((boolK P w).pyHash (boolK_is P w b) ?_)
    refine setB_add_hashed (s := { s with toks := s.toks + 1 }) r (by have := cntB_le (bs.take i); unfold scanBound; omega) fun h' sb r2 => ?_
    refine q _ h' _ sb ?_ (Nat.le_succ _)
    have e : bs.take (i + 1) = bs.take i ++ [b] := by rw [List.take_add_one, hb]; rfl
    rw [e, cntB_snoc]
    exact r2.congr fun j => by simp [List.mem_append]
/-- set(xs) of a list of bools -/
def rSetBL (w : World) (K : PySem.W.Frag) : List V → Hp → VK → Prop := fun xs H Q => ∃ (l : Addr) (bs : List Bool), xs = [V.ref l] ∧ SqL K H l (bs.map V.bl) ∧
  ∀ p, H p = none → Q (.ref p) (upd H p (SetBO w p (fun j => decide (j ∈ bs)) (cntB bs)))
theorem bools_at : ∀ {bs : List Bool} {its : List Value} {i : Nat} {v : Value}, Vals (bs.map V.bl) its → its[i]? = some v → ∃ b, bs[i]? = some b ∧ v = .bool b
  | [], _, i, v, r, h => by cases r; simp at h
  | b :: bs, _, 0, v, r, h => by
    cases r with
    | cons r1 r2 =>
      simp at h
      subst h
      exact ⟨b, rfl, r1⟩
  | b :: bs, _, i + 1, v, r, h => by
    cases r with
    | cons r1 r2 =>
      obtain ⟨c, h1, h2⟩ := bools_at (i := i) r2 (by simpa using h)
      exact ⟨c, by simpa using h1, h2⟩
section
variable {X : Cx}
theorem cr_setBL (hc : X.calm = true) : CallR X (.type "set") (rSetBL X.w X.K) := by
  intro pins s σ H xs us Q I r ⟨l, bs, e, hl, q⟩
  subst e
  rw [Vals.ref1 r]
  obtain ⟨its, rv, pl, hz⟩ := I.list hl
  have hlen : its.toArray.size = bs.length := by rw [List.size_toArray, ← rv.length, List.length_map]
  refine call_set_lst (U := X.A.units + 4) (Nat.lt_succ_self _) (n := bs.length) (I.ok.hd hc) pl.isList hlen (fun i v hv => bools_at rv (by simpa using hv)) (boolsFill X.prog X.w _ _ _ bs) (fun h e _ => ?_) fun h' tk hS k => ?_
  · exact ⟨_, #[], 0, _, e, ⟨rfl, rfl, rfl⟩, rfl, (fun e he => by simp at he), (by simp), (fun k => by simp), (by decide), (by rfl), rfl, List.Pairwise.nil, by
      show _ ∨ (!X.w.params.followText "set-order") = true
      cases X.w.params.followText "set-order"
      · exact .inr rfl
      · exact .inl rfl⟩
  · rw [List.take_length] at hS
    have hf := I.hok.fresh (Nat.le_refl s.heap.objs.size)
    exact ⟨.ref _, upd H s.heap.objs.size (SetBO X.w s.heap.objs.size (fun j => decide (j ∈ bs)) (cntB bs)), I.laid (t' := tk) k (Nat.le_refl _) (setBO_new hS), rfl, q _ hf⟩
def rLenSB (w : World) : List V → Hp → VK → Prop := fun xs H Q => ∃ a S n, xs = [V.ref a] ∧ H a = some (SetBO w a S n) ∧ Q (.int (n : Int)) H
theorem cr_lenSB : CallR X (.builtin "len") (rLenSB X.w) := by
  intro pins s σ H xs us Q I r ⟨a, S, n, e, ha, q⟩
  subst e
  rw [Vals.ref1 r]
  obtain ⟨o, es, ep, t, ho, hex, hd, _, _, _, hb, hf, hn, _⟩ := setBO_get I ha
  refine call_len_set ho hex hd hf (by unfold scanBound at hb; omega) ⟨.int n, H, I.tok _, ⟨_, by rw [hn]⟩, q⟩
end
def boolOf? : PyData → Option Bool
  | .bool b => some b
  | _ => none
def boolsOf? : List PyData → Option (List Bool)
  | [] => some []
  | d :: ds => match boolOf? d, boolsOf? ds with
    | some i, some is => some (i :: is)
    | _, _ => none
theorem boolsOf?_eq : ∀ {ds : List PyData} {ns : List Bool}, boolsOf? ds = some ns → ds = ns.map .bool
  | [], ns, h => by cases h; rfl
  | d :: ds, ns, h => by
    unfold boolsOf? at h
    split at h <;> first | (cases h; done) | skip
    rename_i i is h1 h2
    cases h
    unfold boolOf? at h1
    split at h1 <;> first | (cases h1; done) | skip
    cases h1
    rw [boolsOf?_eq h2]
    rfl
theorem RA.boolsV {K : PySem.W.Frag} {H : Hp} : ∀ {ns : List Bool} {xs : List V}, RA K H (ns.map .bool) xs → xs = ns.map V.bl
  | [], _, h => h.inv0
  | n :: ns, _, h => by
    obtain ⟨x, r, rfl, h1, h2⟩ := h.inv
    rw [R] at h1
    rw [h1, RA.boolsV h2]
    rfl
/-- len(set(l)) of a list of bools -/
def lenSetB : List PyData → Rs PyData
  | [.list ds] => match boolsOf? ds with
    | some bs => .ok (.int (cntB bs : Nat))
    | none => .no
  | _ => .no
section
variable {X : Cx} {F : FC}
theorem p_lenSetB {a : Expr} {g : Ev → Rs (List PyData)} {p p2 q pos : Pos} (hc : X.calm = true) (hg : Gl X "len") (hm : X.mg "len" = none) (hg2 : Gl X "set") (hm2 : X.mg "set" = none) (ha : AP' X F [a] g)
    (he : starEach [a] X.env = (false, eval a X.env) :: starEach [] X.env := by rfl) (he2 : starEach [.Call (.Name "set" p2) [a] [] q] X.env = (false, eval (.Call (.Name "set" p2) [a] [] q) X.env) :: starEach [] X.env := by rfl) :
    EP' X F (.Call (.Name "len" p) [.Call (.Name "set" p2) [a] [] q] [] pos) (apC lenSetB g) :=
  wkE (pe_callB cr_lenSB hg hm (by decide +kernel) (pa_cons (pe_callTy (cr_setBL hc) hg2 hm2 (by decide +kernel) ha (by decide) (by decide) he rfl) pa_nil he2) (by decide) (by decide) he2 rfl) fun σ H Q ⟨O, ρ, es, r, e, qq⟩ => by
    obtain ⟨ds, ed, e⟩ := Rs.bnd_eq e
    refine ⟨O, ρ, ds, r, ed, fun vs H1 s1 ra => ?_⟩
    unfold lenSetB at e
    split at e <;> first | (cases e; done) | skip
    rename_i ds
    split at e <;> first | (cases e; done) | skip
    rename_i bs hbs
    cases e
    have hd := boolsOf?_eq hbs
    subst hd
    obtain ⟨x, rfl, r1⟩ := ra.inv1
    obtain ⟨z1, a, ys, rfl, h1, t1⟩ := r1.listV
    have ey : ys = bs.map V.bl := t1.boolsV
    subst ey
    refine ⟨a, bs, rfl, sqL_le h1, fun p' hp => ?_⟩
    exact ⟨p', _, _, rfl, upd_same, qq _ _ (s1.trans (same_upd hp)) .int⟩
end
end PL


/-! PL22: a tuple times an int -/
namespace PL
open PySem PySem.Spec PyProof.Rows L2
/-- t * 1 of a tuple that is not empty: the tuple itself -/
theorem tup_mul1 (l : Addr) (its : Array Value) (n : Nat) (dd : Option Addr) (sl : Array (Option Value)) (u : Tok) :
    Meets (Builtin.«tuple.__mul__» ⟨[.ref l, .int 1 u], []⟩) (fun _ R s => s.heap.get? l = some { cls := .type "tuple", dict := dd, data := .seq its n, slots := sl } ∧ R (.ok (.ret (Value.ref l))) s) :=
  .of_wp fun prog w A R s h => by
    obtain ⟨hp, g, d, tk, os⟩ := s
    obtain ⟨ol, h⟩ := h
    have f1 := AutoSeq1.idx_int
    have c0 : (decide ((1 : Int) < -(2 ^ 63)) || decide ((1 : Int) ≥ 2 ^ 63)) = false := by decide
    have c1 : (its.isEmpty || (1 : Int) == 1) = true := by rw [show ((1 : Int) == 1) = true from rfl, Bool.or_true]
    wp_walk using wpAny_loadPart' ol
    repeat (first
      | (refine wpAny_ite_false (decide_eq_false (by rw [c0]; exact Bool.false_ne_true)) ?_; wp_walk using wpAny_loadPart' ol)
      | (refine wpAny_ite_true (decide_eq_true (by rw [c1])) ?_; wp_walk using wpAny_loadPart' ol))
    exact ⟨_, rfl, h⟩
/-- t * 0 -/
theorem tup_mul0 (l : Addr) (its : Array Value) (n : Nat) (dd : Option Addr) (sl : Array (Option Value)) (u : Tok) (ne : its.isEmpty = false) :
    Meets (Builtin.«tuple.__mul__» ⟨[.ref l, .int 0 u], []⟩) (fun _ R s => s.heap.get? l = some { cls := .type "tuple", dict := dd, data := .seq its n, slots := sl } ∧
      R (.ok (.ret (Value.ref s.heap.objs.size))) { s with heap := s.heap.push { cls := Value.type "tuple", data := Data.seq #[] }, toks := s.toks }) :=
  .of_wp fun prog w A R s h => by
    obtain ⟨hp, g, d, tk, os⟩ := s
    obtain ⟨ol, h⟩ := h
    have f1 := AutoSeq1.idx_int
    have c0 : (decide ((0 : Int) < -(2 ^ 63)) || decide ((0 : Int) ≥ 2 ^ 63)) = false := by decide
    have c1 : (its.isEmpty || (0 : Int) == 1) = false := by rw [ne]; rfl
    have c2 : (decide ((0 : Int) ≤ 0) || its.isEmpty) = true := by rw [ne]; rfl
    wp_walk using wpAny_loadPart' ol
    repeat (first
      | (refine wpAny_ite_false (decide_eq_false (by rw [c0]; exact Bool.false_ne_true)) ?_; wp_walk using wpAny_loadPart' ol)
      | (refine wpAny_ite_false (decide_eq_false (by rw [c1]; exact Bool.false_ne_true)) ?_; wp_walk using wpAny_loadPart' ol)
      | (refine wpAny_ite_true (decide_eq_true (by rw [c2])) ?_; wp_walk using wpAny_loadPart' ol))
    exact ⟨_, rfl, h⟩
def rMulT (K : PySem.W.Frag) : R2 := fun x y H Q => ∃ l k xs, x = .ref l ∧ y = .int k ∧ SqT K H l xs ∧ xs ≠ [] ∧ 0 ≤ k ∧ k ≤ 1000 ∧ xs.length ≤ 1000 ∧ (k = 1 → Q (.ref l) H) ∧ (k ≠ 1 → NewT H (List.replicate k.toNat xs).flatten Q)
section
variable {X : Cx}
theorem op_mulT : OpR X (binaryOp .Mult) (rMulT X.K) := by
  intro pins s σ H x y v u Q I rx ry ⟨l, k, xs, e1, e2, hT, ne, k0, k1, zz, q1, q2⟩
  subst e1; subst e2
  cases rx
  obtain ⟨t, rfl⟩ := ry
  obtain ⟨its, r, ⟨⟨cls, dd, data, sl⟩, ho, hc, n, hd⟩, zs⟩ := I.tuple hT
  simp only at hc hd
  subst hc hd
  have le : its.length = xs.length := r.length.symm
  have ni : its ≠ [] := fun e => ne (List.eq_nil_of_length_eq_zero (by rw [← le, e]; rfl))
  have hi : its.toArray.isEmpty = false := by
    cases its with
    | nil => exact absurd rfl ni
    | cons a b => rfl
  refine wpAny_binaryOp_repeat_ref (T := "tuple") (U := "int") (by decide) ⟨_, ho, rfl⟩ (fun s' => typeIs_int s' k t) noFill_tuple_mul F.fills_int_mul F.slot_int_rmul repeat_tuple F.slot_int_index.lookup
    (call_meets F.slot_int_rmul (typeIs_int s k t) F.entry_int_rmul (F.args_int_rmul_2 _ _) (int_rmul_tuple k t l its.toArray n dd sl) ⟨ho, rfl, ⟨_, ho, rfl⟩, ?_⟩)
  by_cases h1 : k = 1
  · subst h1
    exact call_meets F.slot_tuple_mul ⟨_, ho, rfl⟩ F.entry_tuple_mul (F.args_tuple_mul_2 _ _) (tup_mul1 l its.toArray n dd sl t) ⟨ho, ⟨.ref l, H, I, rfl, q1 rfl⟩⟩
  by_cases h0 : k = 0
  · subst h0
    refine call_meets F.slot_tuple_mul ⟨_, ho, rfl⟩ F.entry_tuple_mul (F.args_tuple_mul_2 _ _) (tup_mul0 l its.toArray n dd sl t hi) ⟨ho, ?_⟩
    exact new_ok (xs := []) (its := []) I (Nat.zero_le _) .nil (q2 h1)
  · have sz : its.toArray.size = xs.length := by rw [List.size_toArray, le]
    have hm : ((its.toArray.size : Nat) : Int) * k ≤ 1000000 := by
      rw [sz]
      have a1 : ((xs.length : Nat) : Int) * k ≤ 1000 * k := Int.mul_le_mul_of_nonneg_right (by omega) (by omega)
      omega
    have fl : ∀ ys : List Value, ys.length = xs.length → (List.replicate k.toNat ys).flatten.length ≤ sizeLine := fun ys e => by
      rw [PyProof.Rows.lm_len_rep_flat, e, sizeLine_eq]
      have a1 : k.toNat * xs.length ≤ 1000 * 1000 := Nat.mul_le_mul (by omega) zz
      omega
    refine call_meets F.slot_tuple_mul ⟨_, ho, rfl⟩ F.entry_tuple_mul (F.args_tuple_mul_2 _ _) (tuple_mulW l its.toArray n dd sl k t ?_ ?_ ?_ (by omega) ?_ (by rw [size_rep, List.size_toArray]; exact fl its le)) ⟨ho, ?_⟩
    · rw [decide_eq_false (by omega), decide_eq_false (by omega)]
      rfl
    · rw [hi, Bool.false_or]
      exact beq_eq_false_iff_ne.mpr h1
    · rw [hi, Bool.or_false]
      exact decide_eq_false (by omega)
    · unfold Builtin.Tuple.tupleTooMany
      rw [sizeLine_eq]
      exact decide_eq_false (by omega)
    · rw [size_rep]
      refine new_ok I ?_ (r.rep k.toNat) (q2 h1)
      rw [PyProof.Rows.lm_len_rep_flat, ← le, ← PyProof.Rows.lm_len_rep_flat]
      exact fl its le
/-- two ints, or a tuple times an int -/
def mulT : PyData → PyData → Rs PyData
  | .tuple ds, .int k => if ds ≠ [] ∧ 0 ≤ k ∧ k ≤ 1000 ∧ ds.length ≤ 1000 then .ok (.tuple (List.replicate k.toNat ds).flatten) else .no
  | a, b => mulN a b
theorem o_mulT : OpR X (binaryOp .Mult) (rP2 X.K mulT) := by
  intro pins s σ H x y v u Q I rx ry ⟨N, d1, d2, d, n, r1, r2, e, q⟩
  unfold mulT at e
  split at e
  · split at e <;> first | (cases e; done) | skip
    rename_i ds k hc
    cases e
    obtain ⟨c1, c2, c3, c4⟩ := hc
    obtain ⟨z1, a, xs, e1, h1, t1, k1⟩ := r1.tupN
    refine op_mulT pins s σ H x y v u Q I rx ry ⟨a, k, xs, e1, r2.intV, sqT_le h1, fun z => ?_, c2, c3, by rw [t1.len]; exact c4, fun z => ?_, fun _ p o hp ho => q _ _ (same_upd hp) (newT ho n hp ?_ (t1.rep _))⟩
    · rw [z] at t1
      exact c1 (List.eq_nil_of_length_eq_zero t1.len.symm)
    · subst z
      exact q _ H (Same.refl H) (by simpa using R.tup z1 h1 t1 k1)
    · rw [PyProof.Rows.lm_len_rep_flat, sizeLine_eq]
      have a1 : k.toNat * ds.length ≤ 1000 * 1000 := Nat.mul_le_mul (by omega) c4
      omega
  · exact o_mulN pins s σ H x y v u Q I rx ry ⟨N, d1, d2, d, n, r1, r2, e, q⟩
end
end PL


/-! PL23: x.split(sep) of texts -/
namespace PL
open PySem PySem.Spec PyProof.Rows L2
def splitD : PyData → List PyData → Rs PyData
  | .str a, [.str b] => if (b.length == 0) = false ∧ a.length + 2 ≤ sizeLine ∧ ((Txt.split a b).all fun y => PyData.strOk y) = true then .ok (.list ((Txt.split a b).map .str)) else .no
  | _, _ => .no
theorem RA.strs {K : PySem.W.Frag} {H : Hp} : ∀ {ys : List Str}, (ys.all fun y => PyData.strOk y) = true → RA K H (ys.map .str) (ys.map V.str)
  | [], _ => .nil
  | y :: ys, h => by
    rw [List.all_cons, Bool.and_eq_true] at h
    exact .cons (by rw [R]; exact ⟨rfl, h.1⟩) (RA.strs h.2)
theorem m_split {X : Cx} : MtR X "str.split" (rPM X.K splitD) := by
  intro pins s σ H x xs v us Q I rx rxs ⟨N, d, ds, e, n, r, ra, eo, q⟩
  unfold splitD at eo
  split at eo <;> first | (cases eo; done) | skip
  rename_i a b
  split at eo <;> first | (cases eo; done) | skip
  rename_i hc
  cases eo
  obtain ⟨c1, c2, c3⟩ := hc
  obtain ⟨y, rfl, r1⟩ := ra.inv1
  refine mt_split pins s σ H x _ v us Q I rx rxs ⟨a, b, r.strV.1, by rw [r1.strV.1], c1, c2, fun p hp => q _ _ (same_upd hp) (newL n hp ?_ (RA.strs c3))⟩
  rw [List.length_map]
  exact Nat.le_trans (PyProof.Rows.split_le a b) c2
end PL


/-! PL24: sets of nested tuples -/
namespace PL
open PySem PySem.Spec PyProof.Rows L2
section
variable {P : Program} {w : World} {A : Around} {E : Value → Shared → Prop} {s : Shared}
/-! ### what is asked of a key by the way -/
/-- the question m of a value comes to b and leaves all as it is -/
def Says (P : Program) (w : World) (m : Sem Bool) (b : Bool) (s : Shared) : Prop := ∀ (A : Around) (E : Value → Shared → Prop) (Q : Bool → Shared → Prop), Q b s → wpAny (model P w) A m Q E s
theorem says_pure {b : Bool} {m : Sem Bool} (e : m = pure b) : Says P w m b s := fun A E Q q => by
  subst e
  exact wpAny_pure q
theorem ofA_tuple {n m : Nat} {a : Addr} {o : Obj} {vs : Array Value} (ho : s.heap.get? a = some o) (hc : o.cls = .type "tuple") (hd : o.data = .seq vs m) (hv : ∀ v ∈ vs.toList, Says P w (ofAClassStatement n v) false s) :
    Says P w (ofAClassStatement (n + 1) (.ref a)) false s := fun A E Q q => by
  unfold ofAClassStatement
  refine wpAny_bind (wpAny_typeOf (T := "tuple") ⟨o, ho, hc⟩ ?_)
  dsimp only
  rw [show (("tuple" : String) == "tuple") = true by decide]
  simp only [if_true, Bool.not_true, Bool.false_eq_true, if_false]
  try refine wpAny_bind (wpAny_pure ?_)
  try simp only [Bool.not_true, Bool.false_eq_true, if_false]
  show wpAny _ _ (seqItems? (.ref a) >>= _) _ _ s
  refine wpAny_bind (wpAny_seqItems ho hd (wpAny_bind ?_))
  show wpAny _ _ (forIn vs _ _) _ _ s
  rw [← Array.forIn_toList]
  refine wpAny_forIn_list _ (fun left acc z => acc.1 = none ∧ z = s ∧ ∀ v ∈ left, Says P w (ofAClassStatement n v) false s) _ (fun v left acc z ⟨e1, e2, al⟩ => ?_) (fun ⟨x1, x2⟩ z ⟨e1, e2, _⟩ => ?_) _ _ ⟨rfl, rfl, hv⟩
  · subst e2
    refine wpAny_bind (al v List.mem_cons_self _ _ _ ?_)
    simp only [Bool.false_eq_true, if_false]
    exact wpAny_pure ⟨rfl, rfl, fun u hu => al u (List.mem_cons_of_mem _ hu)⟩
  · dsimp only at e1
    subst e1
    subst e2
    exact wpAny_pure q
/-- the question m comes to an answer and leaves all as it is -/
def Asks (P : Program) (w : World) (m : Sem Bool) (s : Shared) : Prop := ∀ (A : Around) (E : Value → Shared → Prop) (Q : Bool → Shared → Prop), (∀ b, Q b s) → wpAny (model P w) A m Q E s
theorem asks_pure {b : Bool} {m : Sem Bool} (e : m = pure b) : Asks P w m s := fun A E Q q => by
  subst e
  exact wpAny_pure (q b)
theorem byV_tuple {n m : Nat} {a : Addr} {o : Obj} {vs : Array Value} (ho : s.heap.get? a = some o) (hc : o.cls = .type "tuple") (hd : o.data = .seq vs m) (hv : ∀ v ∈ vs.toList, Asks P w (hashByValue n v) s) :
    Asks P w (hashByValue (n + 1) (.ref a)) s := fun A E Q q => by
  unfold hashByValue
  refine wpAny_bind (wpAny_specialOf (T := "tuple") ⟨o, ho, hc⟩ F.slot_tuple_hash.lookup ?_)
  show wpAny _ _ (seqItems? (.ref a) >>= _) _ _ s
  refine wpAny_bind (wpAny_seqItems ho hd (wpAny_bind ?_))
  show wpAny _ _ (forIn vs _ _) _ _ s
  rw [← Array.forIn_toList]
  refine wpAny_mono (Q := fun acc z => z = s) (wpAny_forIn_list _ (fun left acc z => z = s ∧ ∀ v ∈ left, Asks P w (hashByValue n v) s) _ (fun v left acc z ⟨e2, al⟩ => ?_) (fun acc z ⟨e2, _⟩ => e2) _ _ ⟨rfl, hv⟩) (fun acc z e => ?_) fun _ _ e => e
  · subst e2
    refine wpAny_bind (al v List.mem_cons_self _ _ _ fun b => ?_)
    cases b
    · simp only [Bool.not_false, if_true]
      exact wpAny_pure rfl
    · simp only [Bool.not_true, Bool.false_eq_true, if_false]
      exact wpAny_pure ⟨rfl, fun u hu => al u (List.mem_cons_of_mem _ hu)⟩
  · subst e
    rcases acc with ⟨x1, x2⟩
    cases x1 with
    | none => exact wpAny_pure (q _)
    | some b => exact wpAny_pure (q _)
mutual
theorem ofA_key : ∀ (k : NestedKey) (v : Value) (n : Nat), NestedIs s.heap k v → k.depth ≤ n → Says P w (ofAClassStatement n v) false s
  | .none, _, n, x, _ => by cases x; exact says_pure (by cases n <;> rfl)
  | .num i, _, n, x, _ => by cases x <;> exact says_pure (by cases n <;> rfl)
  | .text y, _, n, x, _ => by cases x; exact says_pure (by cases n <;> rfl)
  | .tup ks, _, n, x, hn => by
    cases x with
    | tup h1 h2 h3 h4 =>
      cases n with
      | zero => exact absurd hn (by rw [NestedKey.depth]; omega)
      | succ n => exact ofA_tuple h1 h2 h3 (ofA_keys ks _ n h4 (by rw [NestedKey.depth] at hn; omega))
theorem ofA_keys : ∀ (ks : List NestedKey) (vs : List Value) (n : Nat), NestedAll s.heap ks vs → NestedKey.depthAll ks ≤ n → ∀ v ∈ vs, Says P w (ofAClassStatement n v) false s
  | [], _, n, x, _, v, hv => by cases x; cases hv
  | k :: ks, _, n, x, hn, v, hv => by
    cases x with
    | cons a1 a2 =>
      rw [NestedKey.depthAll] at hn
      cases hv with
      | head => exact ofA_key k _ n a1 (by omega)
      | tail _ hv => exact ofA_keys ks _ n a2 (by omega) v hv
end
mutual
theorem byV_key : ∀ (k : NestedKey) (v : Value) (n : Nat), NestedIs s.heap k v → k.depth ≤ n → Asks P w (hashByValue n v) s
  | .none, _, n, x, _ => by cases x; exact asks_pure (by cases n <;> rfl)
  | .num i, _, n, x, _ => by cases x <;> exact asks_pure (by cases n <;> rfl)
  | .text y, _, n, x, _ => by cases x; exact asks_pure (by cases n <;> rfl)
  | .tup ks, _, n, x, hn => by
    cases x with
    | tup h1 h2 h3 h4 =>
      cases n with
      | zero => exact absurd hn (by rw [NestedKey.depth]; omega)
      | succ n => exact byV_tuple h1 h2 h3 (byV_keys ks _ n h4 (by rw [NestedKey.depth] at hn; omega))
theorem byV_keys : ∀ (ks : List NestedKey) (vs : List Value) (n : Nat), NestedAll s.heap ks vs → NestedKey.depthAll ks ≤ n → ∀ v ∈ vs, Asks P w (hashByValue n v) s
  | [], _, n, x, _, v, hv => by cases x; cases hv
  | k :: ks, _, n, x, hn, v, hv => by
    cases x with
    | cons a1 a2 =>
      rw [NestedKey.depthAll] at hn
      cases hv with
      | head => exact byV_key k _ n a1 (by omega)
      | tail _ hv => exact byV_keys ks _ n a2 (by omega) v hv
end
/-- the tuple at a is the key k -/
def KAt (h : Heap) (k : NestedKey) (a : Addr) : Prop := NestedIs h k (.ref a) ∧ k.depth ≤ 8
theorem KAt.keep {h h' : Heap} {k : NestedKey} {a : Addr} (x : KAt h k a) (hk : ∀ b o, h.get? b = some o → h'.get? b = some o) : KAt h' k a :=
  ⟨NestedIs.at (fun b o vs n e _ => hk b o e) k _ x.1, x.2⟩
/-- where only a set is changed, a key stays one -/
theorem KAt.beside {h h' : Heap} {k : NestedKey} {a d : Addr} {o : Obj} {es : Array (Int × Value)} {ep : Nat} {t : SetTable} (x : KAt h k a) (ho : h.get? d = some o) (hd : o.data = .set es ep t) (sb : Heap.SameBut d h h') : KAt h' k a :=
  ⟨NestedIs.at (fun b o' vs n e1 e2 => by
    refine (sb.2 b fun z => ?_).trans e1
    subst z
    cases ho.symm.trans e1
    rw [hd] at e2
    exact nomatch e2) k _ x.1, x.2⟩
theorem KAt.same {h : Heap} {k l : NestedKey} {a : Addr} (x : KAt h k a) (y : KAt h l a) : k = l := NestedIs.inj k l _ x.1 y.1
theorem shown_not {k : NestedKey} {b : Addr} {Q : Bool → Shared → Prop} (hk : KAt s.heap k b) {ys : List Value} (hy : ∀ y ∈ ys, ∃ k' c, y = Value.ref c ∧ KAt s.heap k' c) (q : Q false s) : wpAny (model P w) A (searchCouldBeSeen (.ref b) ys) Q E s := by
  unfold searchCouldBeSeen
  refine wpAny_bind (wpAny_forIn_list _ (fun left acc z => acc.1 = none ∧ z = s ∧ ∀ y ∈ left, ∃ k' c, y = Value.ref c ∧ KAt s.heap k' c) _ (fun v left acc z ⟨e1, e2, al⟩ => ?_) (fun ⟨x1, x2⟩ z ⟨e1, e2, _⟩ => ?_) _ _ ⟨rfl, rfl, hy⟩)
  · subst e2
    obtain ⟨k', c, rfl, hc⟩ := al v List.mem_cons_self
    have al' := fun y (h : y ∈ left) => al y (List.mem_cons_of_mem _ h)
    dsimp only
    rcases Bool.eq_false_or_eq_true (b == c || (carriedByValue (.ref b) && carriedByValue (.ref c))) with hv | hv
    · exact wp_if_pos hv (wpAny_pure ⟨rfl, rfl, al'⟩)
    · refine wp_if_neg (by rw [hv]; decide) ?_
      refine wpAny_bind (quiet_key k _ 8 _ hk.1 hk.2 _ _ _ ?_)
      simp only [Bool.not_true, Bool.false_eq_true, if_false]
      refine wpAny_bind (quiet_key k' _ 8 _ hc.1 hc.2 _ _ _ ?_)
      simp only [Bool.not_true, Bool.false_eq_true, if_false]
      refine wpAny_bind (ofA_key k _ 8 hk.1 hk.2 _ _ _ ?_)
      simp only [Bool.false_eq_true, if_false]
      refine wpAny_bind (ofA_key k' _ 8 hc.1 hc.2 _ _ _ ?_)
      simp only [Bool.false_eq_true, if_false]
      exact wpAny_pure ⟨rfl, rfl, al'⟩
  · dsimp only at e1
    subst e1
    subst e2
    exact wpAny_pure q
/-! ### the table -/
def hOf (w : World) (L : List (Addr × NestedKey)) : List Int := L.map fun p => p.2.hash w
def cells (w : World) (L : List (Addr × NestedKey)) : Array (Int × Value) := (L.map fun p => (p.2.hash w, Value.ref p.1)).toArray
theorem cells_size (L : List (Addr × NestedKey)) : (cells w L).size = L.length := by simp [cells]
theorem hOf_len (L : List (Addr × NestedKey)) : (hOf w L).length = L.length := by simp [hOf]
theorem hOf_at {L : List (Addr × NestedKey)} {i : Nat} {p : Addr × NestedKey} (e : L[i]? = some p) : (hOf w L)[i]? = some (p.2.hash w) := by
  rw [hOf, List.getElem?_map, e]; rfl
theorem cells_at {L : List (Addr × NestedKey)} {i : Nat} {p : Addr × NestedKey} (e : L[i]? = some p) : (cells w L)[i]? = some (p.2.hash w, Value.ref p.1) := by
  rw [cells, List.getElem?_toArray, List.getElem?_map, e]; rfl
theorem hOf_cells (L : List (Addr × NestedKey)) : (cells w L).map (·.1) = (hOf w L).toArray := by simp [cells, hOf]
/-- the c-th step of the way of a hash -/
abbrev stp (m : Nat) (h : Int) (c : Nat) : SetTable.Probe := nth m (runAt m (SetTable.bits h % (m + 1)) (SetTable.bits h)) c
theorem stp_plain (m : Nat) (h : Int) (c : Nat) : (stp m h c).dummy = none := by
  have g : ∀ (n : Nat) (p : SetTable.Probe), p.dummy = none → (nth m p n).dummy = none := fun n => by
    induction n with
    | zero => exact fun _ e => e
    | succ n ih =>
      refine fun p e => ih (adv m p) ?_
      unfold adv
      split <;> exact e
  exact g c _ rfl
theorem stp_more (m : Nat) (h : Int) (c q : Nat) : nth m (stp m h c) q = stp m h (c + q) := (nth_add m c _ q).symm
structure Tab (w : World) (t : SetTable) (L : List (Addr × NestedKey)) : Prop where
  ok : TabOk t (hOf w L)
  one : (L.map (·.2)).Nodup
  led : w.params.followText "set-order" = true ∨ t.led = true
  room : L.length * 5 < t.mask * 3
  few : L.length < 64
variable {L : List (Addr × NestedKey)} {t : SetTable}
theorem Tab.fits (T : Tab w t L) : t.fits (cells w L).size = true := by
  have e1 := T.ok.sz
  have e2 := T.room
  rw [hOf_len] at e1
  unfold SetTable.fits SetTable.fill
  rw [T.ok.dm, cells_size, Bool.and_eq_true, beq_iff_eq, decide_eq_true_eq]
  show t.place.size = L.length ∧ t.place.size + 0 ≤ t.mask
  omega
theorem Tab.kept (T : Tab w t L) : ¬ t.gaveWay = true := by
  unfold SetTable.gaveWay
  rw [mask_odd T.ok.mok]
  decide
/-- what a probe answers from the c-th step on, the K-th being the first empty one -/
theorem probe_from (T : Tab w t L) {h : Int} {K c : Nat} (ck : c ≤ K) (kf : K < 10 * SetTable.turns t.mask) (e0 : way t.mask h K ∉ t.place.toList) (e1 : ∀ q, q < K → way t.mask h q ∈ t.place.toList) :
    (∃ (q i : Nat) (p : Addr × NestedKey), c ≤ q ∧ q < K ∧ t.place.toList[i]? = some (way t.mask h q) ∧ L[i]? = some p ∧ p.2.hash w = h ∧
      (∀ (q' i' : Nat) (p' : Addr × NestedKey), c ≤ q' → q' < q → t.place.toList[i']? = some (way t.mask h q') → L[i']? = some p' → p'.2.hash w ≠ h) ∧
      t.probe (fun i => ((cells w L)[i]?.map (·.1)).getD 0) h (stp t.mask h c) = some (.candidate (way t.mask h q) i (stp t.mask h (q + 1)))) ∨
    ((∀ (q' i' : Nat) (p' : Addr × NestedKey), c ≤ q' → q' < K → t.place.toList[i']? = some (way t.mask h q') → L[i']? = some p' → p'.2.hash w ≠ h) ∧
      t.probe (fun i => ((cells w L)[i]?.map (·.1)).getD 0) h (stp t.mask h c) = some (.empty (way t.mask h K) none)) := by
  have w0 : ∀ q, (nth t.mask (stp t.mask h c) q).j = way t.mask h (c + q) := fun q => by rw [stp_more]
  have hh : ∀ {i : Nat} {p : Addr × NestedKey}, L[i]? = some p → (fun i => ((cells w L)[i]?.map (·.1)).getD 0) i = p.2.hash w := fun {i p} e => by
    dsimp only
    rw [cells_at e]
    rfl
  have back : ∀ {q' : Nat}, c ≤ q' → c + (q' - c) = q' := fun h => by omega
  rcases go_spec t T.ok.ris T.ok.dm (fun i => ((cells w L)[i]?.map (·.1)).getD 0) h (10 * SetTable.turns t.mask) (K - c) (stp t.mask h c) (stp_plain _ _ _) (by omega) (fun q hq => by rw [w0]; exact e1 _ (by omega))
    (by rw [w0, back ck]; exact e0) with ⟨q, i, h1, h2, h3, h4, h5⟩ | ⟨h4, h5⟩
  · rw [w0] at h2
    obtain ⟨p, hp⟩ : ∃ p, L[i]? = some p := by
      have l1 := (List.getElem?_eq_some_iff.mp h2).1
      have l2 := T.ok.sz
      rw [hOf_len] at l2
      rw [Array.length_toList, l2] at l1
      exact ⟨_, List.getElem?_eq_getElem l1⟩
    refine .inl ⟨c + q, i, p, by omega, by omega, h2, hp, (hh hp).symm.trans h3, fun q' i' p' g1 g2 g3 g4 g5 => ?_, ?_⟩
    · refine h4 (q' - c) i' (by omega) ?_ ((hh g4).trans g5)
      rw [w0, back g1]
      exact g3
    · rw [w0, stp_more] at h5
      exact h5
  · refine .inr ⟨fun q' i' p' g1 g2 g3 g4 g5 => ?_, ?_⟩
    · refine h4 (q' - c) i' (by omega) ?_ ((hh g4).trans g5)
      rw [w0, back g1]
      exact g3
    · rw [w0, back ck] at h5
      exact h5
/-- the set at a: the rows L in the table's order -/
def KSet (w : World) (h : Heap) (a : Addr) (L : List (Addr × NestedKey)) : Prop := ∃ (o : Obj) (ep : Nat) (t : SetTable), h.get? a = some o ∧ o.ExactSet ∧ o.data = .set (cells w L) ep t ∧ Tab w t L
variable {a : Addr} {o : Obj} {ep : Nat}
/-- the search for k, from the c-th step on -/
theorem find_from (ho : s.heap.get? a = some o) (hd : o.data = .set (cells w L) ep t) (T : Tab w t L) (tup : ∀ p ∈ L, KAt s.heap p.2 p.1) {x : Addr} {k : NestedKey} (hx : KAt s.heap k x) (hu : A.units + 9 < cLine) {K : Nat}
    (kf : K < 10 * SetTable.turns t.mask) (e0 : way t.mask (k.hash w) K ∉ t.place.toList) (e1 : ∀ q, q < K → way t.mask (k.hash w) q ∈ t.place.toList) {Q : SetFound → Shared → Prop}
    (yes : k ∈ L.map (·.2) → Q (.there none) s) (no : k ∉ L.map (·.2) → Q (.free (way t.mask (k.hash w) K) false) s) : ∀ (f c : Nat) (stand : Option SetTable.Probe), stand.getD (t.probeStart (k.hash w)) = stp t.mask (k.hash w) c →
      c ≤ K → K - c < f → (∀ (i : Nat) (p : Addr × NestedKey), L[i]? = some p → p.2 = k → ∃ d, c ≤ d ∧ d < K ∧ t.place.toList[i]? = some (way t.mask (k.hash w) d)) → wpAny (model P w) A (setSearchFrom a (.ref x) (k.hash w) true f stand) Q E s := by
  intro f
  induction f with
  | zero => exact fun c _ _ _ z => absurd z (Nat.not_lt_zero _)
  | succ f ih =>
    intro c stand es ck cf re
    rw [setSearchFrom_succ]
    refine wpAny_bind (wpAny_setState_of ho hd T.fits ?_)
    dsimp only
    refine wp_if_neg T.kept ?_
    try refine wpAny_bind (wpAny_pure ?_)
    rw [es]
    rcases probe_from T ck kf e0 e1 with ⟨q, i, p, q1, q2, q3, q4, q5, q6, q7⟩ | ⟨q6, q7⟩
    · rw [q7]
      dsimp only
      have pm : p ∈ L := List.mem_of_getElem? q4
      have body : wpAny (model P w) A (searchRest a (.ref x) (k.hash w) true f (cells w L) t (way t.mask (k.hash w) q) i (stp t.mask (k.hash w) (q + 1))) Q E s := by
        unfold searchRest
        rw [cells_at q4]
        dsimp only
        refine wpAny_bind (wpAny_holding (eqAt_key p.2 k A s _ _ (tup p pm).1 hx.1 (by have := hx.2; omega) _ _ _ _ ?_))
        refine wpAny_bind (wpAny_setState_of ho hd T.fits ?_)
        dsimp only
        rw [← NestedKey.decide_eq]
        by_cases ek : p.2 = k
        · refine wp_if_pos (by rw [decide_eq_true ek]; rfl) (wpAny_pure (yes (List.mem_map.mpr ⟨p, pm, ek⟩)))
        · refine wp_if_neg (by rw [decide_eq_false ek]; decide) ?_
          try refine wpAny_bind (wpAny_pure ?_)
          rw [sameMem]
          dsimp only
          have sl : t.slot (way t.mask (k.hash w) q) = .live i := slot_live T.ok.ris q3
          simp only [if_true, sl, cells_at q4]
          refine wpAny_bind (wpAny_isSame_ref_self (wpAny_bind (wpAny_pure ?_)))
          simp only [if_true]
          refine wp_if_neg (by rw [decide_eq_false ek]; decide) ?_
          refine ih (q + 1) _ rfl q2 (by omega) fun i0 p0 h0 k0 => ?_
          obtain ⟨d, d1, d2, d3⟩ := re i0 p0 h0 k0
          refine ⟨d, ?_, d2, d3⟩
          rcases Nat.lt_trichotomy d q with z | z | z
          · exact absurd (congrArg (NestedKey.hash w) k0) (q6 d i0 p0 d1 z d3 h0)
          · subst z
            have y : SetTable.Slot.live i = .live i0 := sl.symm.trans (slot_live T.ok.ris d3)
            injection y with y
            subst y
            cases q4.symm.trans h0
            exact absurd k0 ek
          · exact z
      by_cases hl : t.led = true
      · refine wp_if_neg (by rw [hl]; decide) ?_
        try refine wpAny_bind (wpAny_pure ?_)
        exact body
      · refine wp_if_pos (by simp only [hl]; rfl) ?_
        refine wpAny_bind (shown_not hx (fun y hy => ?_) ?_)
        · obtain ⟨e, he, rfl⟩ := List.mem_map.mp hy
          have m1 : e ∈ (cells w L).toList := by
            have : e ∈ cells w L := (Array.mem_filter.mp (Array.mem_toList_iff.mp he)).1
            exact Array.mem_toList_iff.mpr this
          unfold cells at m1
          obtain ⟨p', hp', rfl⟩ := List.mem_map.mp (by simpa using m1 : e ∈ L.map fun p => (p.2.hash w, Value.ref p.1))
          exact ⟨p'.2, p'.1, rfl, tup p' hp'⟩
        · refine wp_if_neg (by decide) ?_
          try refine wpAny_bind (wpAny_pure ?_)
          exact body
    · rw [q7]
      dsimp only
      refine wpAny_pure (no fun z => ?_)
      obtain ⟨p0, m0, k0⟩ := List.mem_map.mp z
      obtain ⟨i0, h0⟩ := List.mem_iff_getElem?.mp m0
      obtain ⟨d, d1, d2, d3⟩ := re i0 p0 h0 k0
      exact q6 d i0 p0 d1 d2 d3 h0 (congrArg (NestedKey.hash w) k0)
theorem find_key (ho : s.heap.get? a = some o) (hd : o.data = .set (cells w L) ep t) (T : Tab w t L) (tup : ∀ p ∈ L, KAt s.heap p.2 p.1) {x : Addr} {k : NestedKey} (hx : KAt s.heap k x) (hu : A.units + 9 < cLine) {Q : SetFound → Shared → Prop}
    (yes : k ∈ L.map (·.2) → Q (.there none) s)
    (no : ∀ K, k ∉ L.map (·.2) → way t.mask (k.hash w) K ∉ t.place.toList → (∀ q, q < K → way t.mask (k.hash w) q ∈ t.place.toList) → Q (.free (way t.mask (k.hash w) K) false) s) :
    wpAny (model P w) A (setSearch a (.ref x) (k.hash w) true) Q E s := by
  obtain ⟨K, kf, e0, e1⟩ := T.ok.first (h := k.hash w) (by rw [hOf_len]; have := T.room; omega)
  have kb : K < 100000 := Nat.lt_of_lt_of_le kf (by unfold SetTable.turns; rcases T.ok.mok with e | e | e <;> omega)
  refine find_from ho hd T tup hx hu kf e0 e1 yes (fun z => no K z e0 e1) 100000 0 none rfl (Nat.zero_le _) (by omega) fun i p hp hk => ?_
  have hi := hOf_at (w := w) hp
  rw [hk] at hi
  have li : i < t.place.toList.length := by
    rw [Array.length_toList, T.ok.sz, hOf_len]
    exact (List.getElem?_eq_some_iff.mp hp).1
  obtain ⟨d, d1, d2⟩ := T.ok.before e0 hi (List.getElem?_eq_getElem li)
  exact ⟨d, Nat.zero_le _, d1, by rw [List.getElem?_eq_getElem li, d2]⟩
/-! ### laid anew -/
theorem pick_rows (L : List (Addr × NestedKey)) : ∀ {is : List Nat}, (∀ i ∈ is, i < L.length) →
    (is.filterMap fun i => (cells w L)[i]?) = (is.filterMap fun i => L[i]?).map (fun p => (p.2.hash w, Value.ref p.1)) ∧ hOf w (is.filterMap fun i => L[i]?) = is.map fun i => ((cells w L).map (·.1)).getD i 0
  | [], _ => ⟨rfl, rfl⟩
  | i :: is, h => by
    obtain ⟨g1, g2⟩ := pick_rows L fun j hj => h j (List.mem_cons_of_mem _ hj)
    have e := List.getElem?_eq_getElem (h i List.mem_cons_self)
    rw [List.filterMap_cons_some (cells_at e), List.filterMap_cons_some e, g1]
    refine ⟨rfl, ?_⟩
    have y : ((cells w L).map (·.1)).getD i 0 = (L[i]'(h i List.mem_cons_self)).2.hash w := by
      rw [Array.getD_eq_getD_getElem?, Array.getElem?_map, cells_at e]
      rfl
    rw [List.map_cons, y, ← g2]
    rfl
theorem pick_all {α : Type} (L : List α) : (List.range L.length).filterMap (fun i => L[i]?) = L := by
  induction L with
  | nil => rfl
  | cons x L ih =>
    rw [List.length_cons, List.range_succ_eq_map, List.filterMap_cons_some (by rfl : (x :: L)[0]? = some x), List.filterMap_map]
    congr 1
theorem relay_rows {wanted M : Nat} (ho : s.heap.get? a = some o) (ox : o.ExactSet) (hd : o.data = .set (cells w L) ep t) (ok : TabOk t (hOf w L)) (one : (L.map (·.2)).Nodup) (led : w.params.followText "set-order" = true ∨ t.led = true)
    (full : L.length ≤ t.mask) (few : L.length < 64) (em : SetTable.sizeAbove wanted - 1 = M) (mok : MaskOk M) (sm : SetTable.sizeAbove wanted ≤ 128) (rm : L.length * 5 < M * 3) {Q : Unit → Shared → Prop}
    (q : ∀ h' L', Heap.SameBut a s.heap h' → KSet w h' a L' → L'.Perm L → Q () { s with heap := h' }) : wpAny (model P w) A (setRelay a wanted) Q E s := by
  have ft : t.fits (cells w L).size = true := by
    have e1 := ok.sz
    rw [hOf_len] at e1
    unfold SetTable.fits SetTable.fill
    rw [ok.dm, cells_size, Bool.and_eq_true, beq_iff_eq, decide_eq_true_eq]
    show t.place.size = L.length ∧ t.place.size + 0 ≤ t.mask
    omega
  obtain ⟨t', ord, e, pm, T, m', l', _, _⟩ := relaid_ok t (hs := (cells w L).map (·.1)) em mok (by rw [Array.size_map, cells_size]; omega)
  rw [Array.size_map, cells_size] at pm
  obtain ⟨g1, g2⟩ := pick_rows (w := w) L (is := ord.toList) fun i hi => List.mem_range.mp (pm.mem_iff.mp hi)
  have pL : (ord.toList.filterMap fun i => L[i]?).Perm L := by
    have := pm.filterMap fun i => L[i]?
    rwa [pick_all] at this
  generalize ord.toList.filterMap (fun i => L[i]?) = L' at g1 g2 pL
  rw [← g2] at T
  have ec : ord.filterMap ((cells w L)[·]?) = cells w L' := by
    refine Array.toList_inj.mp ?_
    rw [Array.toList_filterMap]
    exact g1
  rw [setRelay_eq]
  refine wpAny_bind (wpAny_setState_of ho hd ft ?_)
  dsimp only
  refine wp_if_neg (by rw [sizeLine_eq]; omega) ?_
  try refine wpAny_bind (wpAny_pure ?_)
  rw [e]
  dsimp only
  rw [ec]
  refine wpAny_bind (wp_if_neg (by rw [cells_size, cells_size, pL.length_eq]; simp) ?_)
  try refine wpAny_bind (wpAny_pure ?_)
  refine wpAny_pure ?_
  dsimp only
  refine wpAny_storeSet_of ho hd ?_ (by rw [cells_size, pL.length_eq, sizeLine_eq]; omega)
  refine q _ L' (Heap.SameBut.update ..) ⟨_, ep + 1, t', store_at ho hd, ⟨ox.1, ox.2.1, ox.2.2⟩, rfl, T, (pL.map (·.2)).nodup_iff.mpr one, by rw [l']; exact led, by rw [pL.length_eq, m']; exact rm, by rw [pL.length_eq]; exact few⟩ pL
/-! ### a key put in -/
theorem cells_put (L : List (Addr × NestedKey)) (n : Nat) (x : Addr) (k : NestedKey) : SetTable.insertAt (cells w L) n (k.hash w, Value.ref x) = cells w (L.take n ++ (x, k) :: L.drop n) := by
  refine Array.toList_inj.mp ?_
  rw [SetTable.toList_insertAt]
  simp [cells, List.map_append, List.map_take, List.map_drop]
theorem put_row (S : KSet w s.heap a L) (tup : ∀ p ∈ L, KAt s.heap p.2 p.1) {x : Addr} {k : NestedKey} (hx : KAt s.heap k x) (hu : A.units + 9 < cLine) (few : L.length + 1 < 64) {Q : Bool → Shared → Prop}
    (q : ∀ b h' L', Heap.SameBut a s.heap h' → KSet w h' a L' → (k ∈ L.map (·.2) → L' = L) → (k ∉ L.map (·.2) → L'.Perm ((x, k) :: L)) → Q b { s with heap := h' }) :
    wpAny (model P w) A (setAddHashed a (.ref x) (k.hash w)) Q E s := by
  obtain ⟨o, ep, t, ho, ox, hd, T⟩ := S
  unfold setAddHashed
  refine wpAny_holding ?_
  rw [show (100000 : Nat) = 99999 + 1 from rfl, setAddHashedIn_succ]
  refine wpAny_bind (wpAny_setState_of ho hd T.fits ?_)
  dsimp only
  refine wp_if_neg (by simp [byScan, Value.scannable]) ?_
  try refine wpAny_bind (wpAny_pure ?_)
  refine wpAny_bind (find_key ho hd T tup hx hu (fun z => ?_) fun K z e0 e1 => ?_)
  · dsimp only
    exact wpAny_pure (q false s.heap L (Heap.SameBut.refl a s.heap) ⟨o, ep, t, ho, ox, hd, T⟩ (fun _ => rfl) fun y => absurd z y)
  dsimp only
  refine wpAny_bind (wpAny_setState_of ho hd T.fits ?_)
  dsimp only
  obtain ⟨u1, u2, u3, u4, u5, u6, u7, u8, u9⟩ := T.ok.put e0 e1
  generalize t.put (way t.mask (k.hash w) K) = tp at u1 u3 u4 u5 u6 u7 u8 u9 ⊢
  obtain ⟨t1, n⟩ := tp
  dsimp only at u1 u3 u4 u5 u6 u7 u8 u9 ⊢
  subst u1
  generalize SetTable.below t.place (way t.mask (k.hash w) K) = n at u2 u3 ⊢
  rw [cells_put]
  have pm : (L.take n ++ (x, k) :: L.drop n).Perm ((x, k) :: L) := by
    have := List.perm_middle (a := (x, k)) (l₁ := L.take n) (l₂ := L.drop n)
    rwa [List.take_append_drop] at this
  have eh : (hOf w L).take n ++ k.hash w :: (hOf w L).drop n = hOf w (L.take n ++ (x, k) :: L.drop n) := by simp [hOf, List.map_append, List.map_take, List.map_drop]
  rw [eh] at u3
  generalize L.take n ++ (x, k) :: L.drop n = L1 at pm u3 ⊢
  have len : L1.length = L.length + 1 := pm.length_eq
  have one : (L1.map (·.2)).Nodup := (pm.map (·.2)).nodup_iff.mpr (by rw [List.map_cons]; exact List.nodup_cons.mpr ⟨z, T.one⟩)
  rw [hOf_len] at u9
  have key : ∀ t2 : SetTable, TabOk t2 (hOf w L1) → t2.mask = t.mask → t2.led = t.led → t2.fill = L.length + 1 →
      wpAny (model P w) A (do storeSet a (cells w L1) t2; if (!false && t2.tooFull) = true then (do setRelay a (SetTable.grown ((cells w L).size + 1)); pure true) else pure true) Q E s := fun t2 ok2 m2 l2 f2 => by
    have led2 : w.params.followText "set-order" = true ∨ t2.led = true := by rw [l2]; exact T.led
    have room := T.room
    refine wpAny_bind (wpAny_storeSet_of ho hd ?_ (by rw [cells_size, len, sizeLine_eq]; omega))
    have sb : Heap.SameBut a s.heap (s.heap.update a (Obj.putSet (cells w L1) t2)) := Heap.SameBut.update ..
    have o1 := store_at (es' := cells w L1) (t' := t2) ho hd
    generalize s.heap.update a (Obj.putSet (cells w L1) t2) = h1 at sb o1 ⊢
    have full : t2.tooFull = true ↔ t.mask * 3 ≤ (L.length + 1) * 5 := by
      unfold SetTable.tooFull
      rw [decide_eq_true_eq, f2, m2]
    by_cases hf : t2.tooFull = true
    · refine wp_if_pos (by rw [hf]; rfl) (wpAny_bind ?_)
      have hb := full.mp hf
      rw [cells_size]
      have two : (t.mask = 7 ∧ L.length = 4) ∨ (t.mask = 31 ∧ L.length = 18) := by
        rcases T.ok.mok with e | e | e <;> rw [e] at hb room
        · exact .inl ⟨e, by omega⟩
        · exact .inr ⟨e, by omega⟩
        · omega
      have go : ∀ M, SetTable.sizeAbove (SetTable.grown (L.length + 1)) = M + 1 → MaskOk M → M ≤ 127 → (L.length + 1) * 5 < M * 3 →
          wpAny (model P w) A (setRelay a (SetTable.grown (L.length + 1))) (fun _ z => wpAny (model P w) A (pure true) Q E z) E { s with heap := h1 } := fun M g1 g2 g3 g4 =>
        relay_rows (s := { s with heap := h1 }) o1 ⟨ox.1, ox.2.1, ox.2.2⟩ rfl ok2 one led2 (by rw [len, m2]; rcases two with ⟨e, y⟩ | ⟨e, y⟩ <;> omega) (by rw [len]; exact few) (by rw [g1]; rfl) g2 (by omega) (by rw [len]; exact g4)
          fun h2 L2 sb2 S2 pm2 => wpAny_pure (q true h2 L2 (sb.trans sb2) S2 (fun y => absurd y z) fun _ => pm2.trans pm)
      rcases two with ⟨_, y⟩ | ⟨_, y⟩ <;> rw [y]
      · have := go 31 (by rw [y, size_20]) (.inr (.inl rfl)) (by decide) (by omega)
        rwa [y] at this
      · have := go 127 (by rw [y, size_76]) (.inr (.inr rfl)) (by decide) (by omega)
        rwa [y] at this
    · refine wp_if_neg (by rw [Bool.eq_false_iff.mpr hf]; decide) (wpAny_pure (q true h1 L1 sb ⟨_, ep + 1, t2, o1, ⟨ox.1, ox.2.1, ox.2.2⟩, rfl, ok2, one, led2, ?_, by rw [len]; exact few⟩ (fun y => absurd y z) fun _ => pm))
      have := mt full.mpr hf
      rw [len, m2]
      omega
  have key2 : ∀ b : Bool, wpAny (model P w) A (do
      storeSet a (cells w L1) (if b = true then t1 else { t1 with plain := false })
      if (!false && (if b = true then t1 else { t1 with plain := false }).tooFull) = true then (do setRelay a (SetTable.grown ((cells w L).size + 1)); pure true) else pure true) Q E s := fun b => by
    cases b
    · exact key { t1 with plain := false } ⟨u3.ris, u3.dm, u3.sz, u3.mok, u3.bd, u3.reach⟩ u4 u5 u9
    · exact key t1 u3 u4 u5 u9
  by_cases hp : t1.plain = true
  · exact wp_if_pos hp (wpAny_bind (byV_key k _ 8 hx.1 hx.2 _ _ _ key2))
  · exact wp_if_neg hp (wpAny_bind (wpAny_pure (key2 true)))
/-! ### filled from a list -/
/-- what a set of the rows ks holds: some of them, of each key one -/
def Holds (ks L : List (Addr × NestedKey)) : Prop := (∀ p ∈ L, p ∈ ks) ∧ (∀ p ∈ ks, p.2 ∈ L.map (·.2)) ∧ L.length ≤ ks.length
theorem Holds.snoc {ks L L' : List (Addr × NestedKey)} {p : Addr × NestedKey} (h : Holds ks L) (g1 : p.2 ∈ L.map (·.2) → L' = L) (g2 : p.2 ∉ L.map (·.2) → L'.Perm (p :: L)) : Holds (ks ++ [p]) L' := by
  obtain ⟨h1, h2, h3⟩ := h
  by_cases e : p.2 ∈ L.map (·.2)
  · rw [g1 e]
    refine ⟨fun r hr => List.mem_append_left _ (h1 r hr), fun r hr => ?_, by rw [List.length_append]; omega⟩
    rcases List.mem_append.mp hr with hr | hr
    · exact h2 r hr
    · rw [List.mem_singleton.mp hr]; exact e
  · have pm := g2 e
    refine ⟨fun r hr => ?_, fun r hr => (pm.map (·.2)).mem_iff.mpr ?_, by rw [pm.length_eq, List.length_append, List.length_cons]; simpa using h3⟩
    · rcases List.mem_cons.mp (pm.mem_iff.mp hr) with z | z
      · rw [z]; exact List.mem_append_right _ List.mem_cons_self
      · exact List.mem_append_left _ (h1 r z)
    · rw [List.map_cons]
      rcases List.mem_append.mp hr with hr | hr
      · exact List.mem_cons_of_mem _ (h2 r hr)
      · rw [List.mem_singleton.mp hr]; exact List.mem_cons_self
theorem keysFill (h0 : Heap) (ks : List (Addr × NestedKey)) (hk : ∀ p ∈ ks, KAt h0 p.2 p.1) (few : ks.length < 64) :
    Fill P w h0.objs.size (fun b => b < h0.objs.size) (cLine - 9) ks.length (fun i v => ∃ p, ks[i]? = some p ∧ v = .ref p.1) (fun i h => (∀ b o, h0.get? b = some o → h.get? b = some o) ∧ ∃ L, KSet w h h0.objs.size L ∧ Holds (ks.take i) L) where
  keep := fun i h h' ⟨x, L, ⟨o, ep, t, e, r⟩, g⟩ k => ⟨fun b o e => k b o (.inr (Heap.lt_size e)) (x b o e), L, ⟨o, ep, t, k _ o (.inl rfl) e, r⟩, g⟩
  put := fun A E i v s Q hu lt ⟨p, hp, e⟩ ⟨x, L, S, g⟩ q => by
    subst e
    have pk : ∀ r ∈ ks, KAt s.heap r.2 r.1 := fun r hr => (hk r hr).keep x
    have pm : p ∈ ks := List.mem_of_getElem? hp
    have e2 : ks.take (i + 1) = ks.take i ++ [p] := by rw [List.take_add_one, hp]; rfl
    have l1 : L.length ≤ i := Nat.le_trans g.2.2 (by rw [List.length_take]; omega)
    unfold setAdd
    refine wpAny_holding (wpAny_bind (pyHash_key p.2 _ _ _ _ (pk p pm).1 (by have := (pk p pm).2; have : A.units < cLine - 9 := hu; omega) ?_))
    refine put_row (s := { s with toks := s.toks + p.2.draws }) S (fun r hr => pk r (List.mem_of_mem_take (g.1 r hr))) (pk p pm) (by omega) (by omega) fun b h' L' sb S' g1 g2 => ?_
    refine q b h' _ sb ⟨fun c o e => (sb.2 c fun z => ?_).trans (x c o e), L', S', ?_⟩ (Nat.le_add_right _ _)
    · subst z
      exact absurd (Heap.lt_size e) (Nat.lt_irrefl _)
    · rw [e2]
      exact g.snoc g1 g2
theorem kset_new {h : Heap} {a : Addr} (e : h.get? a = some (newS w)) : KSet w h a [] :=
  ⟨_, 0, _, e, ⟨rfl, rfl, rfl⟩, rfl, ⟨List.Pairwise.nil, rfl, rfl, .inl rfl, fun x hx => (by cases hx), fun i h j hi => (by simp [hOf] at hi)⟩, List.nodup_nil, by
    show _ ∨ (!w.params.followText "set-order") = true
    cases w.params.followText "set-order"
    · exact .inr rfl
    · exact .inl rfl, by show 0 * 5 < 7 * 3; decide, by show 0 < 64; decide⟩
set_option maxHeartbeats 8000000 in
/-- `set(t)` of a tuple -/
theorem call_set_tp {l : Addr} {its : Array Value} {n : Nat} {Pv : Nat → Value → Prop} {SP : Nat → Heap → Prop} {Q : Value → Shared → Prop} {U : Nat} (hU : A.units + 3 < U) (hn : A.handled = none) (ol : s.heap.IsTuple l its) (zn : its.size = n)
    (pv : ∀ i v, its[i]? = some v → Pv i v) (L : Fill P w s.heap.objs.size (fun b => b < s.heap.objs.size) U n Pv SP) (sp0 : ∀ h : Heap, h.get? s.heap.objs.size = some (newS w) → (∀ b o, s.heap.get? b = some o → h.get? b = some o) → SP 0 h)
    (q : ∀ (h' : Heap) (tk : Nat), SP n h' → (∀ b o, s.heap.get? b = some o → h'.get? b = some o) → Q (.ref s.heap.objs.size) { s with heap := h', toks := tk }) :
    wpAny (model P w) A (call (.type "set") [.ref l]) Q E s := by
  subst zn
  obtain ⟨c0, t0, m0⟩ := F.called_set.mro
  have m1 := F.called_set.made
  have m2 := F.called_set.sub
  refine wpAny_call (codeAny_of_tree ?_)
  show wpAny _ _ (callAny (.type "set") _) _ _ _
  refine wpAny_pure ⟨Code.quiet_builtin _ (by decide +kernel), codeAny_builtin F.entry_type_call ?_⟩
  rw [Around.under_plain (weight_type_call_type "set" [.ref l] []) rfl]
  have m3 := F.called_set.notType
  have m4 := F.called_set.canCreate
  have m5 := F.typeCall_set_1 (.ref l)
  repeat (any_goals (first | assumption | wp_step))
  refine codeAny_mono (set_new1 (.ref l) (E := E) (Z := fun obj z => obj = .ref s.heap.objs.size ∧ z = { s with heap := s.heap.push (newS w) }) ⟨rfl, rfl⟩) fun r z hr => ?_
  cases r with
  | error e => exact hr
  | ok fl =>
    cases fl with
    | ret obj =>
      obtain ⟨rfl, rfl⟩ := hr
      have oT : Shared.TypeIs { s with heap := s.heap.push (newS w) } (.ref s.heap.objs.size) "set" := ⟨_, newS_at, rfl⟩
      have b1 := F.called_set.init.lookup
      have b2 := F.called_set.init.bind (.ref s.heap.objs.size)
      repeat (any_goals (first | assumption | wp_step))
      refine codeAny_mono (codeAny_call_builtin (R := wants (fun r z2 => r = .none ∧ ∃ h' tk, z2 = { s with heap := h', toks := tk } ∧ SP its.size h' ∧ (∀ b o, s.heap.get? b = some o → h'.get? b = some o)) E)
        F.called_set.init.plain F.entry_set_init (check_set_init_1 oT ?_)) fun r2 z2 hr2 => ?_
      · obtain ⟨o, ho, hc, nl, hd⟩ := ol
        obtain ⟨oc, od, odt, osl⟩ := o
        simp only at hc hd
        subst hc; subst hd
        have ho1 : (s.heap.push (newS w)).get? l = some { cls := .type "tuple", dict := od, data := .seq its nl, slots := osl } := Heap.get?_push_of_some _ ho
        have y1 := F.sub_tuple_set
        have y2 := F.sub_tuple_frozenset
        have y3 : (Value.type "tuple" == Value.type "dict") = false := by decide
        have ol1 : (s.heap.push (newS w)).IsTuple l its := ⟨_, ho1, rfl, nl, rfl⟩
        unfold Builtin.«set.__init__» noKeywords Builtin.Frozenset.updateFrom
        generalize hPI : pyIter = PI
        wp_walk
        subst hPI
        refine wpAny_pyIter_tuple ol1 ?_
        refine wpAny_bind (wpAny_runValue ?_)
        have lS : l < s.heap.objs.size := Heap.lt_size ho
        have n3 : A.in1.in1.in1.handled = none := by simp [hn]
        have neI : l ≠ (s.heap.push (newS w)).objs.size := by
          have e1 : l < s.heap.objs.size + 1 := Nat.lt_succ_of_lt lS
          rw [Heap.size_push]
          exact Nat.ne_of_lt e1
        have nS : s.heap.objs.size ∉ [(s.heap.push (newS w)).objs.size, l] := by
          rw [Heap.size_push]
          simp only [List.mem_cons, List.not_mem_nil, or_false, not_or]
          exact ⟨Nat.ne_of_lt (Nat.lt_succ_self _), fun z => absurd lS (by rw [z]; exact Nat.lt_irrefl _)⟩
        refine set_fill (Z := _) (U := U) hU ((Walks.tuple n3 _ l neI its).toS) nS (fun b lb z => Nat.ne_of_lt (Nat.lt_succ_of_lt lb) ((List.mem_singleton.mp z).trans (Heap.size_push s.heap (newS w)))) ⟨L.keep, fun A' E' i v s' Q' hU' lt pq => L.put A' E' i v s' Q' hU' lt (pv i v pq)⟩ (its.size - 0) 0 _ (by omega) (Nat.zero_le _)
          ⟨⟨_, Heap.get?_push_size _ rfl, rfl, rfl⟩, ol1.push _⟩ (sp0 _ (Heap.get?_push_of_some _ newS_at) fun b o e => Heap.get?_push_of_some _ (Heap.get?_push_of_some _ e)) fun s' mv sp => ?_
        obtain ⟨h', g', d', tk', os'⟩ := s'
        have eg : g' = s.gens := mv.gens
        have ed : d' = s.drawn := mv.drawn
        have eo : os' = s.os := mv.os
        subst eg; subst ed; subst eo
        show wpAny _ _ _ _ _ _
        refine wpAny_pure ?_
        show wpAny _ _ (ret Value.none) _ _ _
        refine wpAny_pure ⟨rfl, h', tk', rfl, sp, fun b o e => ?_⟩
        have b0 : b < s.heap.objs.size := Heap.lt_size e
        refine mv.heap b o ?_ (Heap.get?_push_of_some _ (Heap.get?_push_of_some _ e))
        rw [Heap.size_push]
        simp only [List.mem_cons, List.not_mem_nil, or_false, not_or]
        have b1 : b < s.heap.objs.size + 1 := Nat.lt_succ_of_lt b0
        exact ⟨Nat.ne_of_lt b0, Nat.ne_of_lt b1⟩
      · cases r2 with
        | error e => exact hr2
        | ok fl2 =>
          cases fl2 with
          | ret r =>
            obtain ⟨rfl, h', tk, rfl, sp, hk⟩ := hr2
            repeat (any_goals (first | assumption | wp_step))
            exact q _ _ sp hk
          | _ => exact hr2.elim
    | _ => exact hr.elim
theorem set_of_keys {l : Addr} {its : Array Value} {ks : List (Addr × NestedKey)} {Q : Value → Shared → Prop} (hu : A.units + 13 < cLine) (hn : A.handled = none) (ol : s.heap.IsList l its) (zn : its.size = ks.length)
    (hv : ∀ (i : Nat) (v : Value), its[i]? = some v → ∃ p, ks[i]? = some p ∧ v = .ref p.1) (hk : ∀ p ∈ ks, KAt s.heap p.2 p.1) (few : ks.length < 64)
    (q : ∀ (h' : Heap) (tk : Nat) L, KSet w h' s.heap.objs.size L → Holds ks L → (∀ b o, s.heap.get? b = some o → h'.get? b = some o) → Q (.ref s.heap.objs.size) { s with heap := h', toks := tk }) :
    wpAny (model P w) A (call (.type "set") [.ref l]) Q E s :=
  call_set_lst (U := cLine - 9) (by omega) hn ol zn hv (keysFill s.heap ks hk few) (fun h e x => ⟨x, [], kset_new e, fun p hp => (by cases hp), fun p hp => (by simp at hp), Nat.zero_le _⟩) fun h' tk ⟨x, L, S, g⟩ k =>
    q h' tk L S (by rwa [List.take_length] at g) k
end
end PL


/-! PL25: sorted of a set of nested tuples, and how many it has -/
namespace PL
open PySem PySem.Spec PyProof.Rows L2
theorem perm_back {α β : Type} {f : α → β} : ∀ {vs : List β} {xs : List β}, vs.Perm xs → ∀ {T : List α}, xs = T.map f → ∃ T' : List α, T'.Perm T ∧ vs = T'.map f := by
  intro vs xs pm
  induction pm with
  | nil => intro T e; exact ⟨[], by cases T <;> first | exact .refl _ | (cases e; done), rfl⟩
  | cons x _ ih =>
    intro T e
    cases T with
    | nil => cases e
    | cons t T =>
      injection e with e1 e2
      obtain ⟨T', p, q⟩ := ih e2
      exact ⟨t :: T', p.cons t, by rw [List.map_cons, ← e1, q]⟩
  | swap x y l =>
    intro T e
    match T, e with
    | t :: u :: T, e =>
      injection e with e1 e2
      injection e2 with e2 e3
      exact ⟨u :: t :: T, .swap t u T, by rw [List.map_cons, List.map_cons, ← e1, ← e2, e3]⟩
  | trans _ _ ih1 ih2 =>
    intro T e
    obtain ⟨T1, p1, q1⟩ := ih2 e
    obtain ⟨T2, p2, q2⟩ := ih1 q1
    exact ⟨T2, p2.trans p1, q2⟩
/-- the key of a datum -/
def kOf (d : PyData) : NestedKey := (nkOf d).getD .none
abbrev rowK (t : Addr × PyData) : Addr × NestedKey := (t.1, kOf t.2)
abbrev refV (t : Addr × PyData) : Value := .ref t.1
section
open PySem.Calls PySem.W
variable {P : Program} {w : World} {A : Around} {E : Value → Shared → Prop} {s : Shared}
theorem sort_kset {a : Addr} {T : List (Addr × PyData)} {Q : Value → Shared → Prop} (S : KSet w s.heap a (T.map rowK)) (hh : A.handled = none) (hr : ∀ t ∈ T, ∃ as, Reads s.heap (.ref t.1) t.2 as) (hal : AllAlike (T.map (·.2))) (hk : Sortable (T.map (·.2)))
    (hu : ∀ t ∈ T, A.units + 2 + t.2.depth < cLine)
    (q : ∀ s' p (T' : List (Addr × PyData)) (c : Nat), (∀ b o, s.heap.get? b = some o → s'.heap.get? b = some o) → s'.gens = s.gens → s'.os = s.os → s.heap.objs.size ≤ p →
      s'.heap.get? p = some (seqObj "list" (T'.map refV).toArray c) → T'.Perm T → (T'.map (·.2)).Pairwise (fun x y => dataLt y x = false) → Q (.ref p) s') : wpAny (model P w) A (call (.builtin "sorted") [.ref a]) Q E s := by
  obtain ⟨o, ep, t, ho, ox, hd, Tb⟩ := S
  have few : T.length < 64 := by have := Tb.few; rwa [List.length_map] at this
  refine call_function_entry kind_sorted plain_sorted entry_sorted (args_sorted1 _) ?_
  unfold Builtin.«sorted»
  refine wpAny_bind (m := checkCount "sorted" 1 1 _) (wpAny_pure ?_)
  refine wpAny_bind (collect_set (A := A.in1) hh ⟨o, ho, ox.1, hd⟩ Tb.fits (by rw [cells_size, List.length_map]; unfold scanBound; omega) Tb.ok.ris Tb.led fun s1 vs k1 z1 g1 o1 pm => ?_)
  have ev : (cells w (T.map rowK)).toList.map (·.2) = T.map refV := by simp [cells, refV, rowK, Function.comp_def]
  rw [ev] at pm
  obtain ⟨T1, p1, rfl⟩ := perm_back pm rfl
  have l1 : (T1.map refV).length < 64 := by rw [List.length_map, p1.length_eq]; exact few
  have mem : ∀ {b : Addr × PyData}, b ∈ T1 → b ∈ T := fun h => p1.mem_iff.mp h
  refine wpAny_bind (wpAny_newList ?_ (by rw [sizeLine_eq]; omega))
  have hoL : (s1.heap.push (seqObj "list" (T1.map refV).toArray 0)).get? s1.heap.objs.size = some (seqObj "list" (T1.map refV).toArray 0) := Heap.get?_push_size _ rfl
  have old : ∀ {b : Addr} {u : Obj}, s1.heap.get? b = some u → (sortingHeap (s1.heap.push (seqObj "list" (T1.map refV).toArray 0)) s1.heap.objs.size (T1.map refV)).get? b = some u :=
    fun {b u} e => sortingHeap_old (Nat.ne_of_lt (Heap.lt_size e)) (Heap.get?_push_of_some _ e)
  have ee : EachIs (fun v (b : Addr × PyData) => v = refV b) (T1.map refV) T1 := by
    clear pm l1 mem hoL old p1
    induction T1 with
    | nil => exact .nil
    | cons t T1 ih => exact .cons rfl ih
  have er : EachIs (fun v (b : Addr × PyData) => ∃ as, Reads (sortingHeap (s1.heap.push (seqObj "list" (T1.map refV).toArray 0)) s1.heap.objs.size (T1.map refV)) v b.2 as) (T1.map refV) T1 :=
    (each_mem ee).mono fun v b ⟨e, hb⟩ => by
      subst e
      obtain ⟨as, r⟩ := hr b (mem hb)
      exact ⟨as, PyProof.Rows.Reads.keeps (fun _ _ e => old (k1 _ _ e)) r⟩
  have al1 : AllAlike (T1.map (·.2)) := fun x hx y hy => hal x ((p1.map (·.2)).mem_iff.mp hx) y ((p1.map (·.2)).mem_iff.mp hy)
  have so1 : Sortable (T1.map (·.2)) := by
    rcases hk with h | h
    · exact .inl fun x hx => h x ((p1.map (·.2)).mem_iff.mp hx)
    · exact .inr fun x hx => h x ((p1.map (·.2)).mem_iff.mp hx)
  have q' : ∀ out : List Value, out.length = T1.length → EachIs (fun v (b : Addr × PyData) => v = refV b) out (T1.mergeSort (dataLe false (·.2))) →
      Q (.ref s1.heap.objs.size) { s1 with heap := sortedHeap (s1.heap.push (seqObj "list" (T1.map refV).toArray 0)) s1.heap.objs.size (T1.map refV) out.toArray } := fun out ol eo => by
    have eo' : out = (T1.mergeSort (dataLe false (·.2))).map refV := by
      generalize T1.mergeSort (dataLe false (·.2)) = T2 at eo
      clear q ol
      induction eo with
      | nil => rfl
      | cons h _ ih => rw [List.map_cons, ← ih, h]
    subst eo'
    obtain ⟨c, hc⟩ := sortedHeap_at (vs := T1.map refV) (out := ((T1.mergeSort (dataLe false (·.2))).map refV).toArray) hoL
    refine q _ _ _ c (fun b u e => ?_) g1 o1 z1 hc ((List.mergeSort_perm _ _).trans p1) ?_
    · have y := k1 b u e
      have lt := Heap.lt_size y
      show (sortedHeap _ _ _ _).get? b = some u
      rw [sortedHeap_old (Nat.ne_of_lt lt) (by rw [size_push']; exact Nat.lt_succ_of_lt lt)]
      exact Heap.get?_push_of_some _ y
    · refine List.pairwise_map.mpr ?_
      have Tt := PySem.W.sortLe_total (listOrd itemOrd) false (fun d : Addr × PyData => PySem.W.keyToks d.2)
      exact (List.pairwise_mergeSort (le := dataLe false fun d : Addr × PyData => d.2) Tt.trans (fun a b => by rcases Tt.total a b with h | h <;> (show (_ || _) = true; rw [Bool.or_eq_true]); exact .inl h; exact .inr h) T1).imp fun {x y} h => by
        have h' : (!dataLt y.2 x.2) = true := h
        simpa using h'
  refine wpAny_bind (wpAny_holding (wpAny_call_entry slot_list_sort ⟨_, hoL, rfl⟩ entry_list_sort ?_ (args_list_sort _)))
  refine wpAny_mono (list_sort_vals (P := fun f s' => f = .done (.ret .none) ∧ Q (.ref s1.heap.objs.size) s') (s := { s1 with heap := s1.heap.push (seqObj "list" (T1.map refV).toArray 0) }) hoL
    (SortsAt.data (s := { s1 with heap := sortingHeap (s1.heap.push (seqObj "list" (T1.map refV).toArray 0)) s1.heap.objs.size (T1.map refV) }) (each_map (R := fun v d => ∃ as, Reads (sortingHeap (s1.heap.push (seqObj "list" (T1.map refV).toArray 0)) s1.heap.objs.size (T1.map refV)) v d as) (·.2) er) al1 so1
      (bound_map fun b hb => hu b (mem hb))) (by rw [sizeLine_eq]; omega) ⟨rfl, q' _ (by rw [sortVals_length false rfl, List.length_map]) (sortVals_data false ee er al1)⟩) (fun f s' hf => by obtain ⟨rfl, hq⟩ := hf; exact ⟨_, rfl, wpAny_pure ⟨_, rfl, hq⟩⟩) fun _ _ e => e
theorem keys_of_set {l : Addr} {its : Array Value} {ks : List (Addr × NestedKey)} {Q : Value → Shared → Prop} (hu : A.units + 13 < cLine) (hn : A.handled = none) (ol : s.heap.IsTuple l its) (zn : its.size = ks.length)
    (hv : ∀ (i : Nat) (v : Value), its[i]? = some v → ∃ p, ks[i]? = some p ∧ v = .ref p.1) (hk : ∀ p ∈ ks, KAt s.heap p.2 p.1) (few : ks.length < 64)
    (q : ∀ (h' : Heap) (tk : Nat) L, KSet w h' s.heap.objs.size L → Holds ks L → (∀ b o, s.heap.get? b = some o → h'.get? b = some o) → Q (.ref s.heap.objs.size) { s with heap := h', toks := tk }) :
    wpAny (model P w) A (call (.type "set") [.ref l]) Q E s :=
  call_set_tp (U := cLine - 9) (by omega) hn ol zn hv (keysFill s.heap ks hk few) (fun h e x => ⟨x, [], kset_new e, fun p hp => (by cases hp), fun p hp => (by simp at hp), Nat.zero_le _⟩) fun h' tk ⟨x, L, S, g⟩ k =>
    q h' tk L S (by rwa [List.take_length] at g) k
end
/-! ### in the walk -/
abbrev vref (t : Addr × PyData) : V := .ref t.1
def isTup : PyData → Bool
  | .tuple _ => true
  | _ => false
theorem refs_tup {K : PySem.W.Frag} {H : Hp} : ∀ {ds : List PyData} {ys : List V}, RA K H ds ys → ds.all isTup = true → ∃ T : List (Addr × PyData), ds = T.map (·.2) ∧ ys = T.map vref
  | [], _, t, _ => ⟨[], rfl, t.inv0⟩
  | d :: ds, _, t, h => by
    rw [List.all_cons, Bool.and_eq_true] at h
    obtain ⟨x, r, rfl, h1, h2⟩ := t.inv
    obtain ⟨T, e1, e2⟩ := refs_tup h2 h.2
    cases d with
    | tuple es =>
      obtain ⟨z, a, ws, rfl, _⟩ := h1.tupV
      exact ⟨(a, .tuple es) :: T, by rw [List.map_cons, ← e1], by rw [List.map_cons, ← e2]⟩
    | _ => exact absurd h.1 (by simp [isTup])
theorem ra_mem {K : PySem.W.Frag} {H : Hp} : ∀ {T : List (Addr × PyData)}, RA K H (T.map (·.2)) (T.map vref) → ∀ t ∈ T, R K H t.2 (.ref t.1)
  | [], _, t, ht => by cases ht
  | u :: T, r, t, ht => by
    obtain ⟨x, xs, e, h1, h2⟩ := r.inv
    injection e with e1 e2
    subst e1
    subst e2
    cases ht with
    | head => exact h1
    | tail _ ht => exact ra_mem h2 t ht
theorem ra_of {K : PySem.W.Frag} {H : Hp} : ∀ {T : List (Addr × PyData)}, (∀ t ∈ T, R K H t.2 (.ref t.1)) → RA K H (T.map (·.2)) (T.map vref)
  | [], _ => .nil
  | u :: T, h => .cons (h u List.mem_cons_self) (ra_of fun t ht => h t (List.mem_cons_of_mem _ ht))
theorem refs_val : ∀ {T : List (Addr × PyData)} {us : List Value}, Vals (T.map vref) us → us = T.map refV
  | [], _, .nil => rfl
  | t :: T, _, .cons r rr => by
    cases r
    rw [refs_val rr]
    rfl
theorem vals_ref : ∀ (T : List (Addr × PyData)), Vals (T.map vref) (T.map refV)
  | [] => .nil
  | t :: T => .cons rfl (vals_ref T)
/-- the set at a, of the rows T -/
def KSetO (w : World) (a : Addr) (L : List (Addr × NestedKey)) : HO := .ext fun h => KSet w h a L
theorem kset_ok {P : Program} {w : World} {H : Hp} {h : Heap} {a : Addr} {L : List (Addr × NestedKey)} (S : KSet w h a L) : ObjOk P w H h a (KSetO w a L) :=
  ⟨S, (let ⟨o, _, _, ho, _⟩ := S; ⟨o, ho⟩), fun h1 h2 ⟨o, ep, t, ho, r⟩ k => ⟨o, ep, t, k o ho, r⟩⟩
/-- set(xs), xs a list or a tuple of ints or of nested tuples -/
def rSetA (w : World) (K : PySem.W.Frag) : List V → Hp → VK → Prop := fun xs H Q => ∃ l, xs = [V.ref l] ∧
  ((∃ ns : List Int, (SqL K H l (ns.map V.int) ∨ SqT K H l (ns.map V.int)) ∧ ns.length + 1 < scanBound ∧ ∀ p c, H p = none → c ≤ ns.length → Q (.ref p) (upd H p (SetO w p (fun j => decide (j ∈ ns)) c))) ∨
   (∃ T : List (Addr × PyData), (SqL K H l (T.map vref) ∨ SqT K H l (T.map vref)) ∧ (∀ t ∈ T, R K H t.2 (.ref t.1) ∧ (nkOf t.2).isSome = true ∧ (kOf t.2).depth ≤ 8) ∧ T.length < 64 ∧
    ∀ p L, H p = none → Holds (T.map rowK) L → (L.map (·.2)).Nodup → Q (.ref p) (upd H p (KSetO w p L))))
section
variable {X : Cx}
theorem cr_setA (hc : X.calm = true) (hu : X.A.units + 64 < cLine) : CallR X (.type "set") (rSetA X.w X.K) := by
  intro pins s σ H xs us Q I r ⟨l, e, h⟩
  subst e
  rw [Vals.ref1 r]
  have hf := I.hok.fresh (Nat.le_refl s.heap.objs.size)
  rcases h with ⟨ns, hl, hb, q⟩ | ⟨T, hl, hk, few, q⟩
  · have fin : ∀ (h' : Heap) (tk : Nat), (∃ c, c ≤ ns.length ∧ SetR X.w h' s.heap.objs.size (fun j => decide (j ∈ ns.take ns.length)) c) → (∀ b o, s.heap.get? b = some o → h'.get? b = some o) →
        ∃ v' H', Inv X pins σ H' { s with heap := h', toks := tk } ∧ RelV v' (.ref s.heap.objs.size) ∧ Q v' H' := fun h' tk ⟨c, hc', hS⟩ k => by
      rw [List.take_length] at hS
      exact ⟨.ref _, upd H s.heap.objs.size (SetO X.w s.heap.objs.size (fun j => decide (j ∈ ns)) c), I.laid (t' := tk) k (Nat.le_refl _) (setO_new hS), rfl, q _ c hf hc'⟩
    rcases hl with hl | hl
    · obtain ⟨its, rv, pl, hz⟩ := I.list hl
      have ia := intsAre_of rv
      refine call_set_lst (U := X.A.units + 4) (Nat.lt_succ_self _) (n := ns.length) (I.ok.hd hc) pl.isList (by rw [List.size_toArray, ← rv.length, List.length_map]) (fun i v hv => ?_) (intsFill X.prog X.w _ _ _ ns hb) (fun h e _ => ⟨0, Nat.le_refl 0, setR_new_at e⟩) fin
      obtain ⟨n, t, e1, e2⟩ := PyProof.Rows.IntsAre.at ia i v (by simpa using hv)
      exact ⟨n, t, e2, e1⟩
    · obtain ⟨its, rv, pl, hz⟩ := I.tuple hl
      have ia := intsAre_of rv
      refine call_set_tp (U := X.A.units + 4) (Nat.lt_succ_self _) (n := ns.length) (I.ok.hd hc) pl (by rw [List.size_toArray, ← rv.length, List.length_map]) (fun i v hv => ?_) (intsFill X.prog X.w _ _ _ ns hb) (fun h e _ => ⟨0, Nat.le_refl 0, setR_new_at e⟩) fin
      obtain ⟨n, t, e1, e2⟩ := PyProof.Rows.IntsAre.at ia i v (by simpa using hv)
      exact ⟨n, t, e2, e1⟩
  · have hk' : ∀ p ∈ T.map rowK, KAt s.heap p.2 p.1 := fun p hp => by
      obtain ⟨t, ht, rfl⟩ := List.mem_map.mp hp
      obtain ⟨g1, g2, g3⟩ := hk t ht
      obtain ⟨k, ek⟩ := Option.isSome_iff_exists.mp g2
      have e2 : kOf t.2 = k := by unfold kOf; rw [ek]; rfl
      exact ⟨by show NestedIs s.heap (kOf t.2) (.ref t.1); rw [e2]; exact nested_of I t.2 _ _ k g1 rfl ek, g3⟩
    have at' : ∀ {its : List Value}, Vals (T.map vref) its → ∀ (i : Nat) (v : Value), its.toArray[i]? = some v → ∃ p, (T.map rowK)[i]? = some p ∧ v = .ref p.1 := fun {its} rv i v hv => by
      rw [refs_val rv] at hv
      rw [List.getElem?_toArray, List.getElem?_map] at hv
      obtain ⟨t, e1, e2⟩ := Option.map_eq_some_iff.mp hv
      exact ⟨rowK t, by rw [List.getElem?_map, e1]; rfl, e2.symm⟩
    rcases hl with hl | hl
    · obtain ⟨its, rv, pl, hz⟩ := I.list hl
      exact set_of_keys (by omega) (I.ok.hd hc) pl.isList (by rw [List.size_toArray, ← rv.length, List.length_map, List.length_map]) (at' rv) hk' (by rw [List.length_map]; exact few) fun h' tk L S g k =>
        ⟨.ref _, upd H s.heap.objs.size (KSetO X.w s.heap.objs.size L), I.laid (t' := tk) k (Nat.le_refl _) (kset_ok S), rfl, q _ L hf g (let ⟨_, _, _, _, _, _, Tb⟩ := S; Tb.one)⟩
    · obtain ⟨its, rv, pl, hz⟩ := I.tuple hl
      exact keys_of_set (by omega) (I.ok.hd hc) pl (by rw [List.size_toArray, ← rv.length, List.length_map, List.length_map]) (at' rv) hk' (by rw [List.length_map]; exact few) fun h' tk L S g k =>
        ⟨.ref _, upd H s.heap.objs.size (KSetO X.w s.heap.objs.size L), I.laid (t' := tk) k (Nat.le_refl _) (kset_ok S), rfl, q _ L hf g (let ⟨_, _, _, _, _, _, Tb⟩ := S; Tb.one)⟩
end
end PL


/-! PL26: sorted(set(x)) of ints and of nested tuples, as data -/
namespace PL
open PySem PySem.Spec PyProof.Rows L2
section
variable {X : Cx}
/-- sorted(set) -/
def rSortA (w : World) (K : PySem.W.Frag) : List V → Hp → VK → Prop := fun vs H Q => rSortedSet w vs H Q ∨
  ∃ (a : Addr) (T : List (Addr × PyData)), vs = [V.ref a] ∧ H a = some (KSetO w a (T.map rowK)) ∧ (∀ t ∈ T, R K H t.2 (.ref t.1) ∧ t.2.depth ≤ 60 ∧ nod t.2 = true) ∧ PySem.W.AllAlike (T.map (·.2)) ∧ PySem.W.Sortable (T.map (·.2)) ∧
    ∀ (T' : List (Addr × PyData)) (p : Addr), T'.Perm T → (T'.map (·.2)).Pairwise (fun x y => PySem.W.dataLt y x = false) → H p = none → T'.length < 64 → Q (.ref p) (upd H p (.lst (T'.map vref)))
theorem cr_sortA (hc : X.calm = true) (hu : X.A.units + 64 < cLine) : CallR X (.builtin "sorted") (rSortA X.w X.K) := by
  intro pins s σ H vs us Q I r h
  rcases h with h | ⟨a, T, e, ha, hk, hal, hso, q⟩
  · exact cr_sortedSet hc pins s σ H vs us Q I r h
  subst e
  rw [Vals.ref1 r]
  have S : KSet X.w s.heap a (T.map rowK) := (I.hok a _ ha).1
  have few : T.length < 64 := by
    obtain ⟨_, _, _, _, _, _, Tb⟩ := S
    have := Tb.few
    rwa [List.length_map] at this
  refine sort_kset S (I.ok.hd hc) (fun t ht => ?_) hal hso (fun t ht => by have := (hk t ht).2.1; omega) fun s' p T' c k g o hp hg pm hs => ?_
  · obtain ⟨g1, g2, g3⟩ := hk t ht
    exact Dp.reads I t.2 _ _ (g1.dp g3) rfl
  · have hn : H p = none := I.hok.fresh hp
    have l' : T'.length < 64 := by rw [pm.length_eq]; exact few
    have hlen : (T'.map vref).length ≤ sizeLine := by rw [List.length_map, sizeLine_eq]; omega
    have new : ObjOk X.prog X.w (upd H p (.lst (T'.map vref))) s'.heap p (.lst (T'.map vref)) := ⟨hlen, T'.map refV, c, vals_ref T', hg⟩
    exact ⟨.ref p, _, I.call' (ch := []) o (Un.laid k hp hn) (I.hok.laid k hp new) (by rw [g]; exact I.bare) (fun _ z => nomatch z), rfl, q T' p pm hs hn l'⟩
end
/-! ### the data -/
open PySem.W (dataLt)
theorem dl_irr (a : PyData) : dataLt a a = false := (listOrd itemOrd).irrefl _
theorem dl_tr {a b c : PyData} : dataLt a b = true → dataLt b c = true → dataLt a c = true := (listOrd itemOrd).trans _ _ _
def insD (x : PyData) : List PyData → List PyData
  | [] => [x]
  | y :: ys => if dataLt x y = true then x :: y :: ys else if dataLt y x = true then y :: insD x ys else y :: ys
/-- the different ones, ascending -/
def setD (ds : List PyData) : List PyData := ds.foldr insD []
def AscD (ds : List PyData) : Prop := ds.Pairwise fun a b => dataLt a b = true
/-- different ones are of different keys, and one of them is the lesser -/
def Apart (ds : List PyData) : Prop := ∀ d ∈ ds, ∀ e ∈ ds, d = e ∨ ((dataLt d e = true ∨ dataLt e d = true) ∧ nkOf d ≠ nkOf e)
theorem insD_mem {x z : PyData} : ∀ {ys : List PyData}, (∀ y ∈ ys, x = y ∨ dataLt x y = true ∨ dataLt y x = true) → (z ∈ insD x ys ↔ z = x ∨ z ∈ ys)
  | [], _ => by simp [insD]
  | y :: ys, h => by
    unfold insD
    split
    · simp
    · rename_i h1
      split
      · simp only [List.mem_cons, insD_mem fun y' hy => h y' (List.mem_cons_of_mem _ hy)]
        constructor
        · rintro (e | e | e)
          · exact .inr (.inl e)
          · exact .inl e
          · exact .inr (.inr e)
        · rintro (e | e | e)
          · exact .inr (.inl e)
          · exact .inl e
          · exact .inr (.inr e)
      · rename_i h2
        rcases h y List.mem_cons_self with e | e | e
        · subst e; simp
        · exact absurd e h1
        · exact absurd e h2
theorem insD_asc {x : PyData} : ∀ {ys : List PyData}, (∀ y ∈ ys, x = y ∨ dataLt x y = true ∨ dataLt y x = true) → AscD ys → AscD (insD x ys)
  | [], _, _ => by simp [insD, AscD]
  | y :: ys, h, a => by
    obtain ⟨a1, a2⟩ := List.pairwise_cons.mp a
    have h' := fun y' (hy : y' ∈ ys) => h y' (List.mem_cons_of_mem _ hy)
    unfold insD
    split
    · rename_i lt
      exact List.pairwise_cons.mpr ⟨fun z hz => by
        rcases List.mem_cons.mp hz with e | hz
        · rw [e]; exact lt
        · exact dl_tr lt (a1 z hz), a⟩
    · split
      · rename_i gt
        exact List.pairwise_cons.mpr ⟨fun z hz => by
          rcases (insD_mem h').mp hz with e | hz
          · rw [e]; exact gt
          · exact a1 z hz, insD_asc h' a2⟩
      · exact a
theorem setD_ok : ∀ {ds : List PyData}, Apart ds → (∀ z, z ∈ setD ds ↔ z ∈ ds) ∧ AscD (setD ds)
  | [], _ => ⟨fun z => Iff.rfl, List.Pairwise.nil⟩
  | d :: ds, h => by
    obtain ⟨h1, h2⟩ := setD_ok (ds := ds) fun x hx y hy => h x (List.mem_cons_of_mem _ hx) y (List.mem_cons_of_mem _ hy)
    have cmp : ∀ y ∈ setD ds, d = y ∨ dataLt d y = true ∨ dataLt y d = true := fun y hy => (h d List.mem_cons_self y (List.mem_cons_of_mem _ ((h1 y).mp hy))).imp id And.left
    refine ⟨fun z => ?_, insD_asc cmp h2⟩
    show z ∈ insD d (setD ds) ↔ _
    rw [insD_mem cmp, h1, List.mem_cons]
theorem asc_nodup {as : List PyData} (h : AscD as) : as.Nodup := h.imp fun {a b} lt e => by
  subst e
  rw [dl_irr] at lt
  exact nomatch lt
theorem asc_same {as bs : List PyData} (h1 : AscD as) (h2 : AscD bs) (h : ∀ z, z ∈ as ↔ z ∈ bs) : as = bs :=
  List.Perm.eq_of_pairwise (le := fun a b => dataLt a b = true) (fun a b _ _ x y => by
    have := dl_tr x y
    rw [dl_irr] at this
    exact nomatch this) h1 h2 ((List.perm_ext_iff_of_nodup (asc_nodup h1) (asc_nodup h2)).mpr h)
theorem setD_asc {ds : List PyData} (h : AscD ds) : setD ds = ds := by
  induction ds with
  | nil => rfl
  | cons d ds ih =>
    obtain ⟨a1, a2⟩ := List.pairwise_cons.mp h
    show insD d (setD ds) = _
    rw [ih a2]
    cases ds with
    | nil => rfl
    | cons e es => exact if_pos (a1 e List.mem_cons_self)
def keyed (d : PyData) : Bool := isTup d && (nkOf d).isSome && decide ((kOf d).depth ≤ 8)
/-! the same datum, as a test -/
mutual
def sameD : PyData → PyData → Bool
  | .none, .none => true
  | .bool a, .bool b => decide (a = b)
  | .int a, .int b => decide (a = b)
  | .str a, .str b => decide (a = b)
  | .tuple a, .tuple b => sameDs a b
  | _, _ => false
def sameDs : List PyData → List PyData → Bool
  | [], [] => true
  | a :: as, b :: bs => sameD a b && sameDs as bs
  | _, _ => false
end
mutual
theorem sameD_eq : ∀ (a b : PyData), sameD a b = true → a = b
  | .none, b, h => by cases b <;> first | rfl | (simp [sameD] at h; done)
  | .bool x, b, h => by cases b <;> simp [sameD] at h <;> rw [h]
  | .int x, b, h => by cases b <;> simp [sameD] at h <;> rw [h]
  | .str x, b, h => by cases b <;> simp [sameD] at h <;> rw [h]
  | .tuple x, b, h => by
    cases b <;> simp [sameD] at h
    rw [sameDs_eq x _ h]
  | .list x, b, h => by cases b <;> simp [sameD] at h
  | .dict x, b, h => by cases b <;> simp [sameD] at h
theorem sameDs_eq : ∀ (a b : List PyData), sameDs a b = true → a = b
  | [], b, h => by cases b <;> first | rfl | (simp [sameDs] at h; done)
  | x :: a, b, h => by
    cases b with
    | nil => simp [sameDs] at h
    | cons y b =>
      rw [sameDs, Bool.and_eq_true] at h
      rw [sameD_eq x y h.1, sameDs_eq a b h.2]
end
mutual
theorem sameD_self : ∀ (a : PyData), (nkOf a).isSome = true → sameD a a = true
  | .none, _ => rfl
  | .bool x, _ => by simp [sameD]
  | .int x, _ => by simp [sameD]
  | .str x, _ => by simp [sameD]
  | .tuple x, h => by
    rw [sameD]
    refine sameDs_self x ?_
    rw [nkOf, Option.isSome_map] at h
    exact h
  | .list x, h => by simp [nkOf] at h
  | .dict x, h => by simp [nkOf] at h
theorem sameDs_self : ∀ (a : List PyData), (nkAll a).isSome = true → sameDs a a = true
  | [], _ => rfl
  | x :: a, h => by
    obtain ⟨k, e⟩ := Option.isSome_iff_exists.mp h
    rw [nkAll] at e
    obtain ⟨k1, e1, e⟩ := Option.bind_eq_some_iff.mp e
    obtain ⟨k2, e2, e⟩ := Option.map_eq_some_iff.mp e
    rw [sameDs, sameD_self x (by rw [e1]; rfl), sameDs_self a (by rw [e2]; rfl)]
    rfl
end
def apartB (ds : List PyData) : Bool := ds.all fun d => ds.all fun e => sameD d e || ((dataLt d e || dataLt e d) && !decide (nkOf d = nkOf e))
theorem apartB_is {ds : List PyData} (h : apartB ds = true) : Apart ds := fun d hd e he => by
  unfold apartB at h
  have := List.all_eq_true.mp (List.all_eq_true.mp h d hd) e he
  simp only [Bool.or_eq_true, Bool.and_eq_true, Bool.not_eq_true', decide_eq_false_iff_not] at this
  exact this.imp (sameD_eq d e) id
theorem apartB_of {ds : List PyData} (h : Apart ds) (k : ∀ d ∈ ds, (nkOf d).isSome = true) : apartB ds = true :=
  List.all_eq_true.mpr fun d hd => List.all_eq_true.mpr fun e he => by
    simp only [Bool.or_eq_true, Bool.and_eq_true, Bool.not_eq_true', decide_eq_false_iff_not]
    exact (h d hd e he).imp (fun z => by rw [← z]; exact sameD_self d (k d hd)) id
/-- sorted(set(x)) of a list or tuple, of ints or of nested tuples -/
def setAN : List PyData → Rs (List PyData)
  | [d] => (seqOf d).bnd fun ds => match intsOf? ds with
    | some ns => if ns.length < 64 then .ok ((setU ns).map .int) else .no
    | none => if (ds.all keyed && sortOk ds && apartB ds) = true ∧ ds.length < 64 then .ok (setD ds) else .no
  | _ => .no
theorem kOf_some {d : PyData} (h : (nkOf d).isSome = true) : nkOf d = some (kOf d) := by
  obtain ⟨k, e⟩ := Option.isSome_iff_exists.mp h
  rw [e, kOf, e]
  rfl
theorem keyed_is {d : PyData} (h : keyed d = true) : isTup d = true ∧ (nkOf d).isSome = true ∧ (kOf d).depth ≤ 8 := by
  unfold keyed at h
  simp only [Bool.and_eq_true, decide_eq_true_eq] at h
  exact ⟨h.1.1, h.1.2, h.2⟩
theorem rows_of {T : List (Addr × PyData)} : ∀ {L : List (Addr × NestedKey)}, (∀ p ∈ L, p ∈ T.map rowK) → ∃ T0 : List (Addr × PyData), L = T0.map rowK ∧ ∀ t ∈ T0, t ∈ T
  | [], _ => ⟨[], rfl, fun t h => (by cases h)⟩
  | p :: L, h => by
    obtain ⟨t, ht, e⟩ := List.mem_map.mp (h p List.mem_cons_self)
    obtain ⟨T0, e0, h0⟩ := rows_of (L := L) fun q hq => h q (List.mem_cons_of_mem _ hq)
    refine ⟨t :: T0, by rw [List.map_cons, ← e0, e], fun u hu => ?_⟩
    rcases List.mem_cons.mp hu with e | hu
    · rw [e]; exact ht
    · exact h0 u hu
/-- what comes out of the sort is setD -/
theorem set_out {T T0 T' : List (Addr × PyData)} (ap : Apart (T.map (·.2))) (ky : ∀ t ∈ T, (nkOf t.2).isSome = true) (g : Holds (T.map rowK) (T0.map rowK)) (s0 : ∀ t ∈ T0, t ∈ T) (one : ((T0.map rowK).map (·.2)).Nodup) (pm : T'.Perm T0)
    (hs : (T'.map (·.2)).Pairwise (fun x y => dataLt y x = false)) : T'.map (·.2) = setD (T.map (·.2)) := by
  obtain ⟨d1, d2⟩ := setD_ok ap
  have sub : ∀ t ∈ T', t ∈ T := fun t ht => s0 t (pm.mem_iff.mp ht)
  have one' : (T'.map fun t : Addr × PyData => kOf t.2).Nodup := by
    rw [List.map_map] at one
    exact (pm.map (fun t : Addr × PyData => kOf t.2)).nodup_iff.mpr one
  refine asc_same (List.pairwise_map.mpr ?_) d2 fun z => ?_
  · refine List.Pairwise.imp_of_mem (R := fun x y : Addr × PyData => dataLt y.2 x.2 = false ∧ kOf x.2 ≠ kOf y.2) (fun {x y} hx hy ⟨h1, h2⟩ => ?_) ((List.pairwise_map.mp hs).and (List.pairwise_map.mp one'))
    rcases ap _ (List.mem_map.mpr ⟨x, sub x hx, rfl⟩) _ (List.mem_map.mpr ⟨y, sub y hy, rfl⟩) with e | ⟨e | e, _⟩
    · exact absurd (congrArg kOf e) h2
    · exact e
    · rw [h1] at e; exact nomatch e
  · rw [d1]
    constructor
    · intro hz
      obtain ⟨t, ht, e⟩ := List.mem_map.mp hz
      exact List.mem_map.mpr ⟨t, sub t ht, e⟩
    · intro hz
      obtain ⟨t, ht, e⟩ := List.mem_map.mp hz
      obtain ⟨p, hp, ep⟩ := List.mem_map.mp (g.2.1 (rowK t) (List.mem_map.mpr ⟨t, ht, rfl⟩))
      obtain ⟨u, hu, eu⟩ := List.mem_map.mp hp
      have ek : kOf u.2 = kOf t.2 := by rw [← eu] at ep; exact ep
      have en : nkOf u.2 = nkOf t.2 := by rw [kOf_some (ky u (s0 u hu)), kOf_some (ky t ht), ek]
      refine List.mem_map.mpr ⟨u, pm.mem_iff.mpr hu, ?_⟩
      rcases ap _ (List.mem_map.mpr ⟨u, s0 u hu, rfl⟩) _ (List.mem_map.mpr ⟨t, ht, rfl⟩) with h | ⟨_, h⟩
      · rw [← e]; exact h
      · exact absurd en h
section
variable {X : Cx} {F : FC}
theorem n_setA {a : Expr} {g : Ev → Rs (List PyData)} {p p2 q pos : Pos} (hc : X.calm = true) (hu : X.A.units + 64 < cLine) (hg : Gl X "sorted") (hm : X.mg "sorted" = none) (hg2 : Gl X "set") (hm2 : X.mg "set" = none) (ha : AP' X F [a] g)
    (he : starEach [a] X.env = (false, eval a X.env) :: starEach [] X.env := by rfl) (he2 : starEach [.Call (.Name "set" p2) [a] [] q] X.env = (false, eval (.Call (.Name "set" p2) [a] [] q) X.env) :: starEach [] X.env := by rfl) :
    NP' X F (.Call (.Name "sorted" p) [.Call (.Name "set" p2) [a] [] q] [] pos) (apN setAN g) :=
  wkE (pe_callB (cr_sortA hc hu) hg hm (by decide +kernel) (pa_cons (pe_callTy (cr_setA hc hu) hg2 hm2 (by decide +kernel) ha (by decide) (by decide) he rfl) pa_nil he2) (by decide) (by decide) he2 rfl) fun σ H Q ⟨O, ρ, es, r, e, qq⟩ => by
    obtain ⟨ds, ed, e⟩ := Rs.bnd_eq e
    refine ⟨O, ρ, ds, r, ed, fun vs H1 s1 ra => ?_⟩
    unfold setAN at e
    split at e <;> first | (cases e; done) | skip
    rename_i d
    obtain ⟨dl, e0, e⟩ := Rs.bnd_eq e
    obtain ⟨x, rfl, r1⟩ := ra.inv1
    obtain ⟨a, ys, rfl, hl, t1⟩ : ∃ a ys, x = .ref a ∧ (SqL X.K H1 a ys ∨ SqT X.K H1 a ys) ∧ RA X.K (hide (NN F O) H1) dl ys := by
      unfold seqOf at e0
      split at e0 <;> first | (cases e0; done) | skip
      · cases e0
        obtain ⟨z1, a, ys, rfl, h1, t1⟩ := r1.listV
        exact ⟨a, ys, rfl, .inl (sqL_le h1), t1⟩
      · cases e0
        obtain ⟨z1, a, ys, rfl, h1, t1⟩ := r1.tupV
        exact ⟨a, ys, rfl, .inr (sqT_le h1), t1⟩
    split at e
    · rename_i ns hns
      split at e <;> first | (cases e; done) | skip
      rename_i h64
      cases e
      have hd := intsOf?_eq hns
      subst hd
      have ey : ys = ns.map V.int := t1.intsV
      subst ey
      refine ⟨a, rfl, .inl ⟨ns, hl, by unfold scanBound; omega, fun p' c hp hcl => .inl ?_⟩⟩
      refine ⟨p', _, c, rfl, upd_same, by omega, fun ns' p'' hs hmem hlen hp'' => ?_⟩
      have en : ns' = setU ns := asc_uniq hs setU_asc fun k => by
        rw [hmem k, setU_mem]
        simp
      subst en
      have hne : p'' ≠ p' := fun z => by
        subst z
        rw [upd_same] at hp''
        exact nomatch hp''
      have hp1 : H1 p'' = none := by rwa [upd_ne hne] at hp''
      have s3 : Same H (upd (upd H1 p' (SetO X.w p' (fun j => decide (j ∈ ns)) c)) p'' (.lst ((setU ns).map V.int))) := (s1.trans (same_upd hp)).trans (same_upd hp'')
      exact qq p'' _ _ s3 (s1.free hp1) upd_same (by rw [List.length_map]; have := setU_len ns; rw [sizeLine_eq]; omega) RA.ints
    · split at e <;> first | (cases e; done) | skip
      rename_i hk
      cases e
      obtain ⟨k1, k2⟩ := hk
      rw [Bool.and_eq_true, Bool.and_eq_true, List.all_eq_true] at k1
      obtain ⟨⟨ky, so⟩, ap⟩ := k1
      have ap := apartB_is ap
      obtain ⟨T, rfl, rfl⟩ := refs_tup t1 (List.all_eq_true.mpr fun d hd => (keyed_is (ky d hd)).1)
      rw [List.length_map] at k2
      have ky' : ∀ t ∈ T, (nkOf t.2).isSome = true ∧ (kOf t.2).depth ≤ 8 := fun t ht => (keyed_is (ky _ (List.mem_map.mpr ⟨t, ht, rfl⟩))).2
      unfold sortOk at so
      simp only [Bool.and_eq_true, Bool.or_eq_true, List.all_eq_true, decide_eq_true_eq] at so
      obtain ⟨⟨hal, hso⟩, hdp⟩ := so
      refine ⟨a, rfl, .inr ⟨T, hl, fun t ht => ⟨(ra_mem t1 t ht).mono hide_le, ky' t ht⟩, k2, fun p' L hp hL one => .inr ?_⟩⟩
      obtain ⟨T0, rfl, s0⟩ := rows_of hL.1
      have in0 : ∀ t ∈ T0, t.2 ∈ T.map (·.2) := fun t ht => List.mem_map.mpr ⟨t, s0 t ht, rfl⟩
      refine ⟨p', T0, rfl, upd_same, fun t ht => ⟨((ra_mem t1 t (s0 t ht)).mono hide_le).mono (same_upd hp), hdp _ (in0 t ht)⟩, fun x hx y hy => ?_, ?_, fun T' p'' pm hs hp'' hl' => ?_⟩
      · obtain ⟨t, ht, rfl⟩ := List.mem_map.mp hx
        obtain ⟨u, hu', rfl⟩ := List.mem_map.mp hy
        unfold allAlike at hal
        simp only [List.all_eq_true] at hal
        exact hal _ (in0 t ht) _ (in0 u hu')
      · rcases hso with h | h
        · refine .inl fun x hx => ?_
          obtain ⟨t, ht, rfl⟩ := List.mem_map.mp hx
          have := h _ (in0 t ht)
          unfold isTup1 at this
          split at this
          · rename_i e; exact ⟨_, _, e⟩
          · exact nomatch this
        · refine .inr fun x hx => ?_
          obtain ⟨t, ht, rfl⟩ := List.mem_map.mp hx
          have := h _ (in0 t ht)
          unfold isFlat at this
          split at this <;> first | (cases this; done) | skip
          rename_i k1 k2
          exact ⟨k1, k2⟩
      · have eo := set_out ap (fun t ht => (ky' t ht).1) hL s0 one pm hs
        have hne : p'' ≠ p' := fun z => by
          subst z
          rw [upd_same] at hp''
          exact nomatch hp''
        have hp1 : H1 p'' = none := by rwa [upd_ne hne] at hp''
        have s2 : Same H1 (upd H1 p' (KSetO X.w p' (T0.map rowK))) := same_upd hp
        have s3 := (s1.trans s2).trans (same_upd (o := .lst (T'.map vref)) hp'')
        refine qq p'' _ _ s3 (s1.free hp1) upd_same ?_ ?_
        · rw [← eo, List.length_map, sizeLine_eq]; omega
        · rw [← eo]
          exact newP hp'' ((ra_of fun t ht => ra_mem t1 t (s0 t (pm.mem_iff.mp ht))).mono (hide_same s2))
end
end PL


/-! PL27: x | y, and sum, max, min of one list of ints -/
namespace PL
open PySem PySem.Spec PyProof.Rows L2
section
variable {X : Cx}
def orD : PyData → PyData → Rs PyData
  | .int i, .int j => .ok (.int (Builtin.bitOr i j))
  | _, _ => .no
theorem o_or : OpR X (binaryOp .BitOr) (rP2 X.K orD) := opII op_or fun N H Q d1 d2 d x y n r1 r2 e q => by
  unfold orD at e
  split at e <;> first | (cases e; done) | skip
  cases e
  exact ⟨_, _, r1.intV, r2.intV, q _ H (Same.refl H) .int⟩
def sumD : List PyData → Rs PyData
  | [.list ds] => match PL.intsOf? ds with
    | some ns => .ok (.int ns.sum)
    | none => .no
  | _ => .no
theorem sumD_l (ns : List Int) : sumD [.list (ns.map .int)] = .ok (.int ns.sum) := by
  show (match PL.intsOf? (ns.map .int) with | some ns => Rs.ok (PyData.int ns.sum) | none => .no) = _
  rw [PL.intsOf?_map]
theorem c_sum (hc : X.calm = true) : CallR X (.builtin "sum") (rPC X.K sumD) := by
  intro pins s σ H xs us Q I r ⟨N, ds, d, n, t, e, q⟩
  unfold sumD at e
  split at e <;> first | (cases e; done) | skip
  split at e <;> first | (cases e; done) | skip
  rename_i ns hns
  cases e
  have hd := PL.intsOf?_eq hns
  subst hd
  obtain ⟨x, rfl, r1⟩ := t.inv1
  obtain ⟨z1, a, ys, rfl, h1, t1⟩ := r1.listV
  have ey : ys = ns.map V.int := t1.intsV
  subst ey
  exact cr_sum hc pins s σ H _ us Q I r ⟨a, ns, rfl, sqL_le h1, q _ H (Same.refl H) .int⟩
/-- max(xs), min(xs) of a list of ints -/
def mostD : List PyData → Rs PyData
  | [.list ds] => match PL.intsOf? ds with
    | some (n :: ns) => .ok (.int (ns.foldl max n))
    | _ => .no
  | _ => .no
def leastD : List PyData → Rs PyData
  | [.list ds] => match PL.intsOf? ds with
    | some (n :: ns) => .ok (.int (ns.foldl min n))
    | _ => .no
  | _ => .no
theorem fold_max : ∀ (ns : List Int) (n : Int), (ns.foldl max n ∈ n :: ns) ∧ ∀ y ∈ n :: ns, y ≤ ns.foldl max n
  | [], n => ⟨List.mem_cons_self, fun y hy => by rw [List.mem_singleton.mp hy]; exact Int.le_refl _⟩
  | m :: ns, n => by
    obtain ⟨h1, h2⟩ := fold_max ns (max n m)
    have e := h2 (max n m) List.mem_cons_self
    refine ⟨?_, fun y hy => ?_⟩
    · rcases List.mem_cons.mp h1 with z | z
      · show ns.foldl max (max n m) ∈ _
        rw [z]
        rcases Int.le_total n m with q | q
        · rw [Int.max_eq_right q]; simp
        · rw [Int.max_eq_left q]; simp
      · exact List.mem_cons_of_mem _ (List.mem_cons_of_mem _ z)
    · show y ≤ ns.foldl max (max n m)
      rcases List.mem_cons.mp hy with z | z
      · rw [z]; exact Int.le_trans (Int.le_max_left n m) e
      · rcases List.mem_cons.mp z with z | z
        · rw [z]; exact Int.le_trans (Int.le_max_right n m) e
        · exact h2 y (List.mem_cons_of_mem _ z)
theorem fold_min : ∀ (ns : List Int) (n : Int), (ns.foldl min n ∈ n :: ns) ∧ ∀ y ∈ n :: ns, ns.foldl min n ≤ y
  | [], n => ⟨List.mem_cons_self, fun y hy => by rw [List.mem_singleton.mp hy]; exact Int.le_refl _⟩
  | m :: ns, n => by
    obtain ⟨h1, h2⟩ := fold_min ns (min n m)
    have e := h2 (min n m) List.mem_cons_self
    refine ⟨?_, fun y hy => ?_⟩
    · rcases List.mem_cons.mp h1 with z | z
      · show ns.foldl min (min n m) ∈ _
        rw [z]
        rcases Int.le_total n m with q | q
        · rw [Int.min_eq_left q]; simp
        · rw [Int.min_eq_right q]; simp
      · exact List.mem_cons_of_mem _ (List.mem_cons_of_mem _ z)
    · show ns.foldl min (min n m) ≤ y
      rcases List.mem_cons.mp hy with z | z
      · rw [z]; exact Int.le_trans e (Int.min_le_left n m)
      · rcases List.mem_cons.mp z with z | z
        · rw [z]; exact Int.le_trans e (Int.min_le_right n m)
        · exact h2 y (List.mem_cons_of_mem _ z)
theorem c_most (hc : X.calm = true) : CallR X (.builtin "max") (rPC X.K mostD) := by
  intro pins s σ H xs us Q I r ⟨N, ds, d, n, t, e, q⟩
  unfold mostD at e
  split at e <;> first | (cases e; done) | skip
  split at e <;> first | (cases e; done) | skip
  rename_i m ns hns
  cases e
  have hd := PL.intsOf?_eq hns
  subst hd
  obtain ⟨x, rfl, r1⟩ := t.inv1
  obtain ⟨z1, a, ys, rfl, h1, t1⟩ := r1.listV
  have ey : ys = (m :: ns).map V.int := t1.intsV
  subst ey
  refine cr_max hc pins s σ H _ us Q I r ⟨a, m :: ns, rfl, sqL_le h1, Nat.succ_pos _, fun k hk hle => ?_⟩
  obtain ⟨g1, g2⟩ := fold_max ns m
  rw [Int.le_antisymm (g2 k hk) (hle _ g1)]
  exact q _ H (Same.refl H) .int
theorem c_least (hc : X.calm = true) : CallR X (.builtin "min") (rPC X.K leastD) := by
  intro pins s σ H xs us Q I r ⟨N, ds, d, n, t, e, q⟩
  unfold leastD at e
  split at e <;> first | (cases e; done) | skip
  split at e <;> first | (cases e; done) | skip
  rename_i m ns hns
  cases e
  have hd := PL.intsOf?_eq hns
  subst hd
  obtain ⟨x, rfl, r1⟩ := t.inv1
  obtain ⟨z1, a, ys, rfl, h1, t1⟩ := r1.listV
  have ey : ys = (m :: ns).map V.int := t1.intsV
  subst ey
  refine cr_min hc pins s σ H _ us Q I r ⟨a, m :: ns, rfl, sqL_le h1, Nat.succ_pos _, fun k hk hle => ?_⟩
  obtain ⟨g1, g2⟩ := fold_min ns m
  rw [Int.le_antisymm (hle _ g1) (g2 k hk)]
  exact q _ H (Same.refl H) .int
end
end PL


/-! PL28: comprehensions whose elements change things; x.pop(k) as a value -/
namespace PL
open PySem PySem.Spec PyProof.Rows L2
/-- plain or empty: what the slots of a comprehension's own names may hold outside of it -/
def vsOk (ρ : Ev) (vs : List Nat) : Bool := vs.all fun i => match ρ[i]? with
  | some (some (.pub _)) => true
  | some none => true
  | none => true
  | _ => false
def compLS (t : Tg) (vs : List Nat) (elt : Ev → Rs (PyData × Ev)) (ρ : Ev) : List PyData → Rs (List PyData × Ev)
  | [] => .ok ([], ρ)
  | d :: r => (tgt t d ρ).bnd fun ρ1 => (elt ρ1).bnd fun p => (compLS t vs elt (wipeE p.2 vs) r).bnd fun q => .ok (p.1 :: q.1, q.2)
def backE (ρ ρ' : Ev) : List Nat → Ev
  | [] => ρ'
  | v :: vs => (backE ρ ρ' vs).set v (ρ.getD v none)
/-- [elt for t in it], elt changing things of one's own -/
def compS (it : Ev → Rs (List PyData)) (t : Tg) (vs : List Nat) (elt : Ev → Rs (PyData × Ev)) : Ev → Rs (PyData × Ev) := fun ρ => (it ρ).bnd fun ds => if vsOk ρ vs = true then (compLS t vs elt (wipeE ρ vs) ds).bnd fun q => .ok (.list q.1, backE ρ q.2 vs) else .no
theorem compLS_len {t : Tg} {vs : List Nat} {elt : Ev → Rs (PyData × Ev)} : ∀ {ds : List PyData} {ρ : Ev} {q : List PyData × Ev}, compLS t vs elt ρ ds = .ok q → q.1.length = ds.length
  | [], _, _, e => by cases e; rfl
  | d :: ds, ρ, q, e => by
    unfold compLS at e
    obtain ⟨ρ1, e1, e⟩ := Rs.bnd_eq e
    obtain ⟨p, e2, e⟩ := Rs.bnd_eq e
    obtain ⟨q', e3, e⟩ := Rs.bnd_eq e
    cases e
    rw [List.length_cons, List.length_cons, compLS_len e3]
theorem back_len (ρ ρ' : Ev) : ∀ vs : List Nat, (backE ρ ρ' vs).length = ρ'.length
  | [] => rfl
  | v :: vs => by unfold backE; rw [List.length_set, back_len ρ ρ' vs]
theorem back_get (ρ ρ' : Ev) (hl : ρ'.length = ρ.length) (i : Nat) : ∀ vs : List Nat, (backE ρ ρ' vs)[i]? = if i ∈ vs then ρ[i]? else ρ'[i]?
  | [] => by simp [backE]
  | v :: vs => by
    unfold backE
    by_cases e : v = i
    · subst e
      rw [if_pos (by simp)]
      by_cases h : v < ρ.length
      · rw [List.getElem?_set_self (by rw [back_len, hl]; exact h), List.getD_eq_getElem?_getD, List.getElem?_eq_getElem h]; rfl
      · rw [List.getElem?_eq_none (by rw [List.length_set, back_len, hl]; omega), List.getElem?_eq_none (by omega)]
    · rw [List.getElem?_set_ne e, back_get ρ ρ' hl i vs]
      have : (i ∈ v :: vs) ↔ i ∈ vs := by simp [Ne.symm e]
      simp only [this]
theorem wipeE_get (ρ : Ev) (i : Nat) : ∀ vs : List Nat, i ∈ vs → ∀ c, (wipeE ρ vs)[i]? ≠ some (some c)
  | [], h, _ => nomatch h
  | v :: vs, h, c => fun e => by
    unfold wipeE at e
    rcases set_get e with ⟨_, e, _⟩ | ⟨hj, e⟩
    · exact nomatch e
    · exact wipeE_get ρ i vs ((List.mem_cons.mp h).resolve_left hj) c e
theorem wipeE_out (ρ : Ev) (i : Nat) : ∀ vs : List Nat, i ∉ vs → (wipeE ρ vs)[i]? = ρ[i]?
  | [], _ => rfl
  | v :: vs, h => by
    unfold wipeE
    rw [List.getElem?_set_ne (fun z => h (by rw [z]; simp)), wipeE_out ρ i vs fun z => h (by simp [z])]
theorem wipeE_len (ρ : Ev) : ∀ vs : List Nat, (wipeE ρ vs).length = ρ.length
  | [] => rfl
  | v :: vs => by unfold wipeE; rw [List.length_set, wipeE_len ρ vs]
/-- the context of the elements -/
noncomputable def fcW (F : FC) (H : Hp) (D : Addr) : FC where
  hid := fun a => F.hid a ∨ a = D
  H0 := fun a => open Classical in if a = D then H D else F.H0 a
  ht := F.ht
  fix := F.fix
theorem nn_W {F : FC} {O : Own} {H : Hp} {D : Addr} (a : Addr) : NN (fcW F H D) O a ↔ nP (NN F O) D a := by
  constructor
  · rintro ((h | h) | h)
    · exact .inl (.inl h)
    · exact .inr h
    · exact .inl (.inr h)
  · rintro ((h | h) | h)
    · exact .inl (.inl h)
    · exact .inr h
    · exact .inl (.inr h)
theorem nnW_eq {F : FC} {O : Own} {H : Hp} {D : Addr} : NN (fcW F H D) O = nP (NN F O) D := funext fun a => propext (nn_W a)
section
variable {K : KB} {F : FC} {O : Own} {ρ : Ev} {σ : St} {H H1 : Hp} {D : Addr} {vs : List Nat} {acc : List V}
/-- into the block -/
theorem rel_in (r : Rel K F O ρ σ H1) (hD : H1 D = none) : Rel K (fcW F (upd H1 D (.lst [])) D) O (wipeE ρ vs) (L2.wipe σ vs) (upd H1 D (.lst [])) := by
  have s : Same H1 (upd H1 D (.lst [])) := same_upd hD
  have r' := (r.mono s).wipe vs
  have oD : ∀ i, O i ≠ some D := fun i h => r.live i D h hD
  have mv : Same (hide (NN F O) H1) (hide (NN (fcW F (upd H1 D (.lst [])) D) O) (upd H1 D (.lst []))) := fun a o e => by
    obtain ⟨e1, e2⟩ := hide_some e
    exact hide_of (fun z => ((nn_W a).mp z).elim e1 fun z => by rw [z, hD] at e2; exact nomatch e2) (s _ _ e2)
  refine ⟨r'.len, r.inj, fun i a h => same_ne s (r.live i a h), fun a h => ?_, fun a x h => ?_, fun i c q => ?_, r'.obs⟩
  · show (open Classical in if a = D then _ else F.H0 a) ≠ none
    by_cases e : a = D
    · rw [if_pos e, upd_same]; simp
    · rw [if_neg e]
      exact r.hidl a (h.resolve_right e)
  · have h' : (open Classical in if a = D then upd H1 D (.lst []) D else F.H0 a) = some x := h
    by_cases e : a = D
    · rw [if_pos e] at h'
      exact ⟨by rw [e]; exact h', fun i => by rw [e]; exact oD i⟩
    · rw [if_neg e] at h'
      exact ⟨s _ _ (r.base a x h').1, (r.base a x h').2⟩
  · have base : SlotOk K F.ht (NN F O) O H1 i (L2.wipe σ vs) c := (r.wipe vs).slots i c q
    exact base.move mv (fun _ _ => rfl) rfl fun _ a x _ _ q => s a x q
/-- an element more -/
theorem rel_next (r : Rel K (fcW F H D) O ρ σ H1) (keep : H1 D = H D) (nD : ∀ i, O i ≠ some D) (fD : F.H0 D = none) {ys : List V} : Rel K (fcW F (upd H1 D (.lst ys)) D) O ρ σ (upd H1 D (.lst ys)) ∧
    Same (hide (NN (fcW F H D) O) H1) (hide (NN (fcW F (upd H1 D (.lst ys)) D) O) (upd H1 D (.lst ys))) := by
  have mv : Same (hide (NN (fcW F H D) O) H1) (hide (NN (fcW F (upd H1 D (.lst ys)) D) O) (upd H1 D (.lst ys))) := fun a o e => by
    obtain ⟨e1, e2⟩ := hide_some e
    rw [nnW_eq] at e1
    rw [nnW_eq]
    exact hide_of e1 (by rw [upd_ne (fun z => e1 (.inr z))]; exact e2)
  refine ⟨⟨r.len, r.inj, fun i a h => ?_, fun a h => ?_, fun a x h => ?_, fun i c q => (r.slots i c q).move mv (fun _ _ => rfl) rfl fun j a x _ h q => by rw [upd_ne (fun z => nD j (by rw [← z]; exact h))]; exact q, r.obs⟩, mv⟩
  · rw [upd_ne (fun z => nD i (by rw [← z]; exact h))]; exact r.live i a h
  · show (open Classical in if a = D then _ else F.H0 a) ≠ none
    by_cases e : a = D
    · rw [if_pos e, upd_same]; simp
    · rw [if_neg e]
      have := r.hidl a h
      have this' : (open Classical in if a = D then H D else F.H0 a) ≠ none := this
      rwa [if_neg e] at this'
  · have h' : (open Classical in if a = D then upd H1 D (.lst ys) D else F.H0 a) = some x := h
    by_cases e : a = D
    · rw [if_pos e] at h'
      exact ⟨by rw [e]; exact h', fun i => by rw [e]; exact nD i⟩
    · rw [if_neg e] at h'
      have b := r.base a x (by show (open Classical in if a = D then H D else F.H0 a) = some x; rw [if_neg e]; exact h')
      exact ⟨by rw [upd_ne e]; exact b.1, b.2⟩
/-- out of the block -/
theorem rel_out {O1 : Own} {ρ1 : Ev} (r : Rel K F O ρ σ H1) (hD : H1 D = none) (ok : vsOk ρ vs = true) (r1 : Rel K (fcW F H D) O1 ρ1 (L2.wipe σ vs) H) (w1 : ∀ i ∈ vs, ∀ c, ρ1[i]? ≠ some (some c)) (vis : Same (hide (NN F O) H1) (hide (NN (fcW F H D) O1) H)) :
    Rel K F O1 (backE ρ ρ1 vs) σ H ∧ (∀ i, O1 i ≠ some D) ∧ ¬ F.hid D := by
  have len : ρ1.length = ρ.length := by rw [← r1.len, wipe_length]; exact r.len
  have fD : F.H0 D = none := by
    cases e : F.H0 D with
    | none => rfl
    | some x => have := (r.base D x e).1; rw [hD] at this; exact nomatch this
  have lD : H D ≠ none := by
    have := r1.hidl D (.inr rfl)
    have this' : (open Classical in if D = D then H D else F.H0 D) ≠ none := this
    rwa [if_pos rfl] at this'
  have nD : ∀ i, O1 i ≠ some D := fun i => by
    cases e : H D with
    | none => exact absurd e lD
    | some x => exact (r1.base D x (by show (open Classical in if D = D then H D else F.H0 D) = some x; rw [if_pos rfl]; exact e)).2 i
  have anti : ∀ a, NN F O1 a → NN (fcW F H D) O1 a := fun a z => (nn_W a).mpr (.inl z)
  have at' : ∀ {i : Nat} {c : Cell}, (backE ρ ρ1 vs)[i]? = some (some c) → (i ∈ vs ∧ ρ[i]? = some (some c) ∧ ∃ d, c = .pub d) ∨ (i ∉ vs ∧ ρ1[i]? = some (some c)) := fun {i c} q => by
    rw [back_get ρ ρ1 len] at q
    split at q
    · rename_i hi
      refine .inl ⟨hi, q, ?_⟩
      have := List.all_eq_true.mp ok i hi
      rw [q] at this
      cases c <;> first | exact ⟨_, rfl⟩ | (exact absurd this (by simp))
    · exact .inr ⟨by assumption, q⟩
  have so : ∀ {i : Nat}, i ∉ vs → (L2.wipe σ vs)[i]? = σ[i]? := fun {i} h => by rw [wipe_get, if_neg h]
  refine ⟨⟨by rw [back_len, len]; exact r.len, r1.inj, r1.live, r.hidl, fun a x h => ?_, fun i c q => ?_, ⟨by rw [back_len, len]; exact r.obs.sz, fun i a c e1 e2 => ?_, fun i j k c e1 e2 => ?_⟩⟩, nD, fun z => r.hidl D z fD⟩
  · have hne : a ≠ D := fun z => by rw [z, fD] at h; exact nomatch h
    exact r1.base a x (by show (open Classical in if a = D then H D else F.H0 a) = some x; rw [if_neg hne]; exact h)
  · rcases at' q with ⟨hi, q, d, rfl⟩ | ⟨hi, q⟩
    · obtain ⟨v, h1, h2⟩ := r.slots i _ q
      exact ⟨v, h1, h2.mono (vis.trans (hide_anti anti))⟩
    · exact (r1.slots i c q).move (hide_anti anti) (fun _ _ => rfl) (so hi).symm fun _ _ _ _ _ z => z
  · rcases at' e2 with ⟨_, _, d, e⟩ | ⟨_, e⟩
    · exact nomatch e
    · exact r1.obs.fx i a c e1 e
  · rcases at' e1 with ⟨_, _, d, e⟩ | ⟨hi, e1⟩
    · exact nomatch e
    · rcases at' e2 with ⟨_, _, d, e⟩ | ⟨_, e2⟩
      · exact nomatch e
      · obtain ⟨a, g1, g2⟩ := r1.obs.als i j k c e1 e2
        exact ⟨a, g1, (so hi) ▸ g2⟩
end
def tPSE (K : KB) (f : Ev → Rs (PyData × Ev)) : TE := fun σ H Q => ∃ F, tPS K F f σ H Q
theorem all_ps {X : Cx} {e : Expr} {f : Ev → Rs (PyData × Ev)} (h : ∀ F, SE' X F e f) : PE X e (tPSE X.kb f) := ⟨fun pins s σ H Q I ⟨F, q⟩ => (h F).run pins s σ H Q I q⟩
section
variable {X : Cx} {F : FC}
theorem lcS_read {it : Ev → Rs (List PyData)} {t : Tg} {vs : List Nat} {elt : Ev → Rs (PyData × Ev)} (hsl : ∀ i ∈ t.slots, i ∈ vs) (σ : St) (H : Hp) (Q : VK) (h : tPS X.kb F (compS it t vs elt) σ H Q) :
    tLc (tI X.kb F t it) (gE X.kb t) (tTE X.kb noIf) (tPSE X.kb elt) vs σ H Q := by
  obtain ⟨O, ρ, p, r, e, q⟩ := h
  obtain ⟨ds, ed, e⟩ := Rs.bnd_eq e
  split at e <;> first | (cases e; done) | skip
  rename_i ok
  obtain ⟨ys, ey, e⟩ := Rs.bnd_eq e
  cases e
  refine ⟨O, ρ, ds, r, ed, fun J H1 s1 w D hD => ?_⟩
  have r1 := r.mono s1
  have fD : F.H0 D = none := by
    cases e : F.H0 D with
    | none => rfl
    | some x => have := (r1.base D x e).1; rw [hD] at this; exact nomatch this
  -- the state of a turn
  let P : Nat → Hp → Prop := fun i H => ∃ acc yd O2 ρ2 q2, H D = some (.lst acc) ∧ Rel X.kb (fcW F H D) O2 ρ2 (L2.wipe σ vs) H ∧ (∀ i ∈ vs, ∀ c, ρ2[i]? ≠ some (some c)) ∧ Same (hide (NN F O) H1) (hide (NN (fcW F H D) O2) H) ∧ RA X.K (hide (NN (fcW F H D) O2) H) yd acc ∧
    compLS t vs elt ρ2 (ds.drop i) = .ok q2 ∧ ys.1 = yd ++ q2.1 ∧ ys.2 = q2.2 ∧ acc.length = i ∧ i ≤ ds.length
  have seen0 : Same (hide (NN F O) H1) (hide (NN (fcW F (upd H1 D (.lst [])) D) O) (upd H1 D (.lst []))) := fun a o e => by
    obtain ⟨e1, e2⟩ := hide_some e
    exact hide_of (fun z => ((nn_W a).mp z).elim e1 fun z => by rw [z, hD] at e2; exact nomatch e2) (same_upd hD _ _ e2)
  refine ⟨fun i m H => m = ds.length - i ∧ P i H, ⟨_, rfl, [], [], O, wipeE ρ vs, ys, upd_same, rel_in r1 hD, fun i hi c => wipeE_get ρ i vs hi c, seen0, .nil, by rw [List.drop_zero]; exact ey, rfl, rfl, rfl, Nat.zero_le _⟩, ?_⟩
  rintro i m H2 ⟨rfl, acc, yd, O2, ρ2, q2, hl, rel2, wp, vis, ra, ec, ey1, ey2, ha, hi⟩
  have nD : ∀ i, O2 i ≠ some D := (rel_out r1 hD ok rel2 wp vis).2.1
  have base2 : Same (hide (NN F O) H1) H2 := vis.trans hide_le
  by_cases hlt : i < ds.length
  · refine .inr ⟨w.go H2 i base2 hlt, P (i + 1), fun H' p => ⟨ds.length - (i + 1), by omega, rfl, p⟩, fun x H3 y => ?_⟩
    obtain ⟨s3, d, edd, rd⟩ := w.yld H2 i x H3 base2 hlt y
    have hl3 := s3 _ _ hl
    have eH0 : fcW F H3 D = fcW F H2 D := by
      unfold fcW
      congr 1
      funext a
      by_cases e : a = D
      · rw [if_pos e, if_pos e, hl3, hl]
      · rw [if_neg e, if_neg e]
    have rel3 : Rel X.kb (fcW F H2 D) O2 ρ2 (L2.wipe σ vs) H3 := rel2.mono s3
    have edrop : ds.drop i = d :: ds.drop (i + 1) := by
      rw [List.drop_eq_getElem_cons hlt]
      rw [List.getElem?_eq_getElem hlt] at edd
      rw [Option.some.inj edd]
    rw [edrop] at ec
    unfold compLS at ec
    obtain ⟨ρ3, e1, ec⟩ := Rs.bnd_eq ec
    obtain ⟨p3, e2, ec⟩ := Rs.bnd_eq ec
    obtain ⟨q3, e3, ec⟩ := Rs.bnd_eq ec
    cases ec
    refine ⟨fcW F H2 D, O2, ρ2, d, ρ3, rel3, rd _ (fun a z => rel2.nlive z) vis, e1, fun O3 σ3 g => ?_⟩
    have wσ : L2.wipe σ3 vs = L2.wipe σ vs := by rw [wipe_eq (σ := L2.wipe σ vs) (fun j hj => g.out j fun z => hj (hsl j z)) g.len, wipe_wipe]
    refine ⟨wσ, fcW F H2 D, O3, ρ3, true, g.rel, rfl, fun H4 s4 => ?_⟩
    simp only [if_true]
    refine ⟨fcW F H2 D, O3, ρ3, p3, g.rel.mono s4, e2, fun O5 v H5 r5 s5 rv => ?_⟩
    have b5 := r5.base D (.lst acc) (by show (open Classical in if D = D then H2 D else F.H0 D) = _; rw [if_pos rfl]; exact hl)
    refine ⟨acc, b5.1, by rw [ha]; exact Nat.lt_of_lt_of_le hlt w.sz, ?_⟩
    have r6 : Rel X.kb (fcW F H2 D) O5 (wipeE p3.2 vs) (L2.wipe σ vs) H5 := by have := r5.wipe vs; rwa [wσ] at this
    obtain ⟨r7, v7⟩ := rel_next (ys := acc ++ [v]) r6 (by rw [b5.1, hl]) b5.2 fD
    have v25 : Same (hide (NN (fcW F H2 D) O2) H2) (hide (NN (fcW F H2 D) O5) H5) := (((hide_same s3).trans g.vis).trans (hide_same s4)).trans s5
    refine ⟨acc ++ [v], yd ++ [p3.1], O5, wipeE p3.2 vs, q3, upd_same, r7, fun i hi c => wipeE_get p3.2 i vs hi c, ?_, ?_, e3, ?_, ey2, by rw [List.length_append, List.length_singleton, ha], hlt⟩
    · have e : NN (fcW F H2 D) O2 = NN (fcW F H2 D) O2 := rfl
      exact (vis.trans v25).trans v7
    · exact ((ra.mono v25).append (.cons rv .nil)).mono v7
    · rw [ey1, List.append_assoc]; rfl
  · have ei : i = ds.length := by omega
    subst ei
    refine .inl ⟨w.stop H2 base2, ?_⟩
    rw [List.drop_length] at ec
    cases ec
    rw [List.append_nil] at ey1
    obtain ⟨g1, g2, g3⟩ := rel_out r1 hD ok rel2 wp vis
    have anti : ∀ a, NN F O2 a → NN (fcW F H2 D) O2 a := fun a z => (nn_W a).mpr (.inl z)
    have g1' : Rel X.kb F O2 (backE ρ ys.2 vs) σ H2 := by rw [ey2]; exact g1
    refine q O2 _ H2 g1' ((hide_same s1).trans (vis.trans (hide_anti anti))) (.list (by rw [ey1, ← ra.len, ha]; exact w.sz) (.of (hide_of (fun z => z.elim g3 fun ⟨i, z⟩ => g2 i z) hl)) ?_)
    rw [ey1]
    exact ra.mono (hide_anti anti)
theorem n_compS {el tg iter : Expr} {scope : Scope} {own : List (Str × Nat)} {pos : Pos} {it : Ev → Rs (List PyData)} {t : Tg} {elt : Ev → Rs (PyData × Ev)} (hc : X.calm = true) (hN : X.N.Nodup) (hi : PI X tg iter (tI X.kb F t it)) (ok : BlkOk X.N X.env.scope scope own) (hsl : ∀ i ∈ t.slots, i ∈ own.map (·.2))
    (hg : ∀ (F : FC) (s : Shared) (H : Hp) (C : Addr) (cl : List (Str × Addr)) (fp : List Addr), PG (X.blk s H scope (compEnvC scope cl C X.env) fp) tg (gP X.kb F t))
    (he : ∀ (F : FC) (s : Shared) (H : Hp) (C : Addr) (cl : List (Str × Addr)) (fp : List Addr), PE (X.blk s H scope (compEnvC scope cl C X.env) fp) el (tPS X.kb F elt)) (hs : ∀ x, foldedSetIterable iter X.env x = pure x := by intro _; rfl) :
    SE' X F (.ListComp el [⟨tg, iter, [], 0⟩] scope pos) (compS it t (own.map (·.2)) elt) :=
  wkE (pe_lc hc hN hi ok (fun s H C cl fp => all_g fun F => hg F s H C cl fp) (fun _ _ _ _ _ => pts_no) (fun s H C cl fp => all_ps fun F => he F s H C cl fp) hs) fun σ H Q h => lcS_read hsl σ H Q h
end
/-! x.pop(k) as a value; a name set to what changes things -/
def popS (i : Nat) (f : Ev → Rs PyData) : Ev → Rs (PyData × Ev) := fun ρ => match getC ρ i with
  | some (.own ds) => (f ρ).bnd fun k => (asI k).bnd fun k => (popAt ds k).bnd fun p => .ok (p.1, ρ.set i (some (.own p.2)))
  | _ => .no
section
variable {X : Cx} {F : FC}
theorem se_pop {e : Expr} {i : Nat} {f : Ev → Rs PyData} (h : PE X e (tBM X.K "list" rPopAt (tVar i) (tCons (tP X.kb F f) tNil))) : SE' X F e (popS i f) := wkE h fun σ H Q ⟨O, ρ, o, r, e, p⟩ => by
  unfold popS at e
  split at e <;> first | (cases e; done) | skip
  rename_i ds hc
  obtain ⟨k, ek, e⟩ := Rs.bnd_eq e
  obtain ⟨kk, ekk, e⟩ := Rs.bnd_eq e
  obtain ⟨q, eq, e⟩ := Rs.bnd_eq e
  cases e
  obtain ⟨hz, a, xs, h1, h2, h3, h4⟩ := own_at r hc
  refine ⟨_, h2, .inl ⟨rfl, xs, .of h3⟩, O, ρ, k, r, ek, fun w H1 s r1 => ?_⟩
  have ek' : w = .int kk := by
    cases k with
    | int q => cases ekk; exact r1.intV
    | _ => exact nomatch ekk
  obtain ⟨k1, k2, m, y, q1, q2, q3, q4, q5⟩ := popAt_ok (h4.mono (hide_same s)) eq
  refine ⟨a, xs, kk, m, y, rfl, by rw [ek'], s _ _ h3, k1, k2, q1, q2, ?_⟩
  obtain ⟨m1, m2⟩ := (r.mono s).mut (i := i) (xs := xs.eraseIdx m) (es := q.2) (getC_iff.mp hc) h1 (by omega) q4
  exact p O y _ m1 ((hide_same s).trans m2) (q3.mono m2)
def sSetS (j : Nat) (f : Ev → Rs (PyData × Ev)) : Ev → Rs Out := fun ρ => (f ρ).bnd fun p => .ok (.nx (p.2.set j (some (.pub p.1))))
theorem s_setS {st : Stmt} {i : Nat} {f : Ev → Rs (PyData × Ev)} (h : PS X st (tAsg (tPS X.kb F f) (gName i))) : SP' X F st (sSetS i f) := wkS h fun D σ H ⟨O, ρ, o, r, e, p⟩ => by
  obtain ⟨d, ed, e⟩ := Rs.bnd_eq e
  cases e
  refine ⟨O, ρ, d, r, ed, fun O' v H' r' s' rv => ?_⟩
  have g := got_one (i := i) r' rv
  exact p _ _ H' g.rel (s'.trans g.vis)
/-- such a comprehension given to a name -/
theorem s_compS {st : Stmt} {i : Nat} {it : Ev → Rs (List PyData)} {t : Tg} {vs : List Nat} {elt : Ev → Rs (PyData × Ev)} (hsl : ∀ i ∈ t.slots, i ∈ vs) (h : PS X st (tAsg (tLc (tI X.kb F t it) (gE X.kb t) (tTE X.kb noIf) (tPSE X.kb elt) vs) (gName i))) :
    SP' X F st (sSetS i (compS it t vs elt)) := s_setS (wkS h fun D σ H q => lcS_read hsl σ H _ q)
end
end PL


/-! PL46: exceptions with a field: a making of their own, which asks super() -/
namespace PL
open PySem PySem.Spec PyProof.Rows L2 NdefX
section
variable {CX : CXT} {P : Program} {w : World} {K : PySem.W.Frag} {mg : Str → Option Value} {base : Heap} {N ps fr : List Str} {F : NF} {f : Addr} {k : Nat} {sp : Sp} {doc pm ctv oc : Value} {od : Option Addr} {osl : Array (Option Value)} {ws : List (Option V)}
/-- a def of the written part that reads cells of the written part, by what its body does where it is known to run -/
theorem fnS_of (lk : K.lookup f = some ⟨oc, od, .func (F.fd doc pm ctv), osl⟩) (hcd : PySem.W.codeIn K (.ref F.c) F.qual = true) (S : NScope N ps fr F.scope) (hw : ws.length = fr.length)
    (hcl : ∀ y c, F.cl.lookup y = some c → ∃ oc od v osl, K.lookup c = some ⟨oc, od, .cell v, osl⟩) (hin : ∀ x y c, F.cl.lookup x = some c → F.cl.lookup y = some c → x = y) (hfr : ∀ (i : Nat) (y : Str), fr[i]? = some y → ∃ c, F.cl.lookup y = some c ∧ ∀ v, ws[i]? ≠ some (some v))
    (len : ∀ vs H Q E, sp vs H Q E → vs.length = ps.length)
    (hbody : ∀ (A : Around) (outer : List Env) (s : Shared) (H : Hp) (vs : List V) (Q : VK) (E : XK) (s1 : Shared), Room k (A.deeper (envF F f s.heap.objs.size)) → sp vs H Q E → Inv (ncx CX P w K mg base N F f A outer s H E) [] (startF N vs ws) H s1 →
      PySem.wpAt (model P w) (A.deeper (envF F f s.heap.objs.size)) (.func F.body (envF F f s.heap.objs.size)) (execs F.body (envF F f s.heap.objs.size)) (fun fl s' => fl = .next ∧ ∃ σ' H', Inv (ncx CX P w K mg base N F f A outer s H E) [] σ' H' s' ∧ Q .non H') (ncx CX P w K mg base N F f A outer s H E).xe s1) :
    FnOk P w K mg base CX (k + 1) f (F.fd doc pm ctv) ps sp := by
  refine ⟨len, fun A outer s H args us vs Q E hr e0 hb r hsp => ?_⟩
  have KX : K.In s.heap := e0.mod.kin.keeps fun b o e => (e0.bs b o e).1
  have hl := len _ _ _ _ hsp
  have lim : s.heap.NoLimit := e0.mod.nolimit.keeps fun b o e => (e0.bs b o e).1
  have C : NdefX.CellsAt F.cl fr ws s.heap H := by
    refine ⟨hw, fun y c hc => ?_, hin, fun i y hy => ?_⟩
    · obtain ⟨oc, od, v, osl, h1⟩ := hcl y c hc
      have hb := e0.mod.kin c _ h1
      exact ⟨(e0.bs c _ hb).2, v, _, (e0.bs c _ hb).1, rfl⟩
    · obtain ⟨c, h1, h2⟩ := hfr i y hy
      exact ⟨c, h1, fun v hv => absurd hv (h2 v)⟩
  refine ks_codeAny_call_defAt (fd := F.fd doc pm ctv) (body := F.body) (binds := ps.zip us) hr.depth (KX _ _ lk) rfl lim (PySem.W.codeRec_of KX hcd) rfl hb S.nocell (fun ⟨n, _⟩ hy => S.par n (List.of_mem_zip hy).1) (fun h1 hns hk => ?_) S.co S.gen S.kind
  have I := inv_startN (CX := CX) (N := N) (f := f) (E := E) (tk := s.toks + (ps.zip us).length) S hr.hd e0 hl r C hns hk
  refine ks_wpAt_mono (hbody A outer s H vs Q E _ (hr.deeper _) hsp I) (fun fl s' hq => ?_) fun e s' hs => hs
  obtain ⟨rfl, σ', H', J, q⟩ := hq
  exact ⟨V.non, H', J.os, J.bare, J.base, J.hok, rfl, q⟩
end
end PL
namespace PL
open PySem PySem.Spec PyProof.Rows L2 NdefX
/-- what the written part says of a class of exceptions with a making of its own -/
structure SupC (K : PySem.W.Frag) (C cc cda fI : Addr) (fd : FuncData) (file : Str) : Prop where
  T : OexC K C
  cell : ∃ oc od osl, K.lookup cc = some ⟨oc, od, .cell (some (.ref C)), osl⟩
  along : PySem.W.ks_superIn K C C "__init__" = some (some (.builtin "ValueError.__init__"))
  opq : PySem.W.nsIn K PySem.cStatics "thirdparty.any" = some none
  fn : ∃ oc od osl, K.lookup fI = some ⟨oc, od, .func fd, osl⟩
  code : ∃ ccl cdd vs ccs tf, K.lookup cda = some ⟨ccl, cdd, .fields vs, ccs⟩ ∧ vs[2]? = some (.str file tf)
section
variable {X : Cx} {pins : List (Addr × Obj)} {σ : L2.St} {H : Hp} {s : Shared} {C cc cda f L a : Addr} {fd : FuncData} {file q : Str} {scope : Scope} {ar : Arg} {body : List Stmt} {e : Expr} {p0 p1 p2 pos : Pos} {ta : TA} {pl : Sem Bool} {Q : Hp → Prop}
theorem super_init (S : SupC X.K C cc cda f fd file) (hE : X.env = PySem.W.ksEnv q scope L f (.ref cda) cc) (hc : X.calm = true) (hp : (fd.params.posonlyargs ++ fd.params.args).head? = some ar) (hfile : ((X.prog.main.file : Str) == file) = true) (htop : (X.prog.main.scope.names.lookup ("super" : Str)).isSome = false)
    (hks : scope.names.lookup ("super" : Str) = some .globalImplicit) (hkc : scope.names.lookup ("__class__" : Str) = some .free) (hka : scope.names.lookup ar.arg = some .local) (hm : X.mg "super" = none) (hboot : bootBuiltins "super" = some (.type "super"))
    (I : Inv X pins σ H s) (hN : X.N[0]? = some ar.arg) (hσ : σ[0]? = some (some (.ref a))) (hH : H a = some (exo a C none)) (ha : PA X [e] ta) (hta : ta σ H fun vs H1 => vs.length ≤ 1000 ∧ H1 a = some (exo a C none) ∧ Q H1)
    (he : eval (.Call (.Attribute (.Call (.Name "super" p0) [] [] p1) "__init__" p2) [e] [] pos) X.env = (do
      let ov ← attributeBase (.Call (.Name "super" p0) [] [] p1) "__init__" X.env (eval (.Call (.Name "super" p0) [] [] p1) X.env)
      standAt p2.atName
      let (f, first) ← holding [ov] (getMethod ov "__init__" pl)
      callWith pos f first (backTo pos (starEach [e] X.env)) []))
    (hst : starEach [e] X.env = (false, eval e X.env) :: starEach [] X.env) :
    PySem.wpAt (model X.prog X.w) X.A (.func body X.env) (eval (.Call (.Attribute (.Call (.Name "super" p0) [] [] p1) "__init__" p2) [e] [] pos) X.env) (fun v s' => ∃ H1, Inv X pins σ H1 s' ∧ Q H1) X.xe s := by
  obtain ⟨oc1, od1, osl1, hcell⟩ := S.cell
  obtain ⟨oc2, od2, osl2, hfn⟩ := S.fn
  obtain ⟨ccl, cdd, vs, ccs, tf, hcode, hvs⟩ := S.code
  obtain ⟨nm, qn, N', bs, bm, sn, sub, ab, col, dd, k0, k1, k2, k3, k5, hC, hbm⟩ := S.T.cls
  have hcl : PySem.W.clsIn X.K C = some { name := nm, bases := bs, mro := .ref C :: bm, ns := N', qualname := qn, hasDict := true, slotNames := sn, subclasses := sub, abstract := ab, collection := col, hasDel := false } := by unfold PySem.W.clsIn; rw [hC] <;> rfl
  have KX : X.K.In s.heap := I.kIn
  obtain ⟨t1, ho⟩ := exo_at I.hok hH
  obtain ⟨m, hns, look⟩ := I.loc
  have kind : X.env.scope.kind = .function := I.ok.kind
  have ekc : X.env.kindOf "__class__" = some .free := by rw [hE]; exact hkc
  have eks : X.env.kindOf "super" = some .globalImplicit := by rw [hE]; exact hks
  have eka : X.env.kindOf ar.arg = some .local := by rw [hE]; exact hka
  have mself : m ar.arg = some (.ref a) := by
    obtain ⟨u, r, l⟩ := look 0 ar.arg _ hN hσ (.inl eka)
    obtain rfl : u = Value.ref a := r
    rcases l with ⟨_, l⟩ | ⟨l, _⟩
    · exact l
    · rw [eka] at l; rcases l with l | l <;> exact nomatch l
  have hmro : PySem.W.mroIn X.K C (.ref C) = some true := by
    unfold PySem.W.mroIn
    rw [hcl]
    show (if (Value.ref C :: bm).isEmpty then none else some ((Value.ref C :: bm).contains (.ref C))) = some true
    simp
  refine ks_wpAt_MethodCall ?_ he
  refine ks_wpAt_super_base (env := X.env) eks ekc (by decide +kernel) (by rw [hE]) (KX _ _ hfn) rfl hp (by rw [hE]) (KX _ _ hcode) rfl hvs hfile htop ?_
  obtain ⟨mb, b1, b2⟩ := I.mod.blt
  refine PySem.W.ks_loadName_global kind eks (Calls.loadGlobal_builtin (by rw [I.ok.glob]; exact I.mod.glob.keeps I.bk) hm (by rw [I.ok.blt]; exact b1.keeps I.bk) ((b2 "super" (by decide)).trans hboot) ⟨rfl, ?_⟩)
  refine wpAny_loadName_free kind ekc (by rw [hE]; rfl) ⟨_, KX _ _ hcell, rfl⟩ ?_
  refine wpAny_loadName_local kind eka hns mself ?_
  refine ks_wpAny_isType_cls (KX _ _ hC) rfl ⟨rfl, ?_⟩
  obtain ⟨hp0, g, d, tk, os⟩ := s
  refine ks_wpAny_call_super (KX _ _ hC) rfl ho rfl (fun c e => nomatch e) (PySem.W.looks_mroIn KX hmro) (fun h' e1 k1 => ?_)
  have KX1 : X.K.In h' := KX.keeps k1
  have ne : a ≠ C := fun z => by
    have := KX _ _ hC
    rw [← z, ho] at this
    exact nomatch this
  have hI : PySem.W.Looks (model X.prog X.w) h' (isInstance (.ref a) (.type "ValueError")) true := by
    have J : PySem.W.InstAt h' a { cls := .ref C, dict := none, data := .fields #[.ref t1, .none, .none, .none, .bool false, .none] } C none := ⟨k1 _ _ ho, rfl, rfl, trivial⟩
    refine J.type.andThen (PySem.W.looks_mroIn KX1 ?_)
    unfold PySem.W.mroIn
    rw [hcl]
    show (if (Value.ref C :: bm).isEmpty then none else some ((Value.ref C :: bm).contains (.type "ValueError"))) = some true
    rw [if_neg (by simp)]
    exact congrArg some ((PySem.HandSPX.refsVE_contains "ValueError" _ hbm).trans (by decide +kernel))
  have hal : PySem.W.alongIn X.K "__init__" (((Value.ref C :: bm).dropWhile (· != .ref C)).drop 1) = some (some (.builtin "ValueError.__init__")) := by
    have := S.along
    unfold PySem.W.ks_superIn at this
    rw [hcl] at this
    exact this
  refine PySem.W.kxs_getMethod PySem.W.kxs_ValueError (so := hp0.objs.size) (D := C) (x := a) (C := C) (l₀ := .ref C :: bm) e1 (PySem.W.looks_opaque KX1 S.opq) (fun A Q E s k q => wpAny_bind ((PySem.W.looks_clsIn KX1 hcl) A _ E s k (wpAny_pure q))) rfl KX1 hal hI ne (by decide +kernel) ?_
  have I1 : Inv X ((h'.objs.size, PySem.W.kxs_mw "ValueError.__init__" a) :: pins) σ H ⟨h'.push (PySem.W.kxs_mw "ValueError.__init__" a), g, d, tk + 1, os⟩ :=
    ClX.pin_new (s := ⟨h', g, d, tk, os⟩) (t' := tk + 1) (I.kept (t' := tk) k1) (fun b u q => Heap.get?_push_of_some _ q) (Nat.le_refl _) (Heap.get?_push_size _ rfl) (fun v z => nomatch z)
  rw [hst]
  refine PySem.W.kxs_callWith (i := "ValueError.__init__") (x := a) (by show (false || (backTo pos (starEach [] X.env)).any (·.1)) = false; rfl) (Calls.evalArgs_plain ?_)
  have run := ha.run pos _ _ σ H _ I1 hta
  rw [hst] at run
  refine thn run fun us s2 ⟨vs2, H2, I2, r2, hz, e2, q⟩ => ?_
  have hu := ClX.pin_at I2
  refine ⟨hu, ?_⟩
  have hlen : us.length ≤ sizeLine := by
    rw [← Paired.length r2, sizeLine_eq]
    omega
  obtain ⟨t2, ho2⟩ := exo_at I2.hok e2
  have I3 := ClX.unpin I2
  obtain ⟨hp2, g2, d2, tk2, os2⟩ := s2
  refine wpAny_call (codeAny_of_tree ?_)
  show wpAny _ X.A.in1 (callAny (.ref h'.objs.size) ⟨us, []⟩) _ _ _
  simp only [callAny]
  refine wpAny_bind (wpAny_load hu ?_)
  simp only [PySem.W.kxs_mw, show (Value.type "method-wrapper" == Value.type "method" || Value.type "method-wrapper" == Value.type "builtin_function_or_method" || Value.type "method-wrapper" == Value.type "method-wrapper") = true by decide, if_true]
  refine PySem.W.KFB.if_so (by decide) ?_
  have FB := PySem.F.excBase_ValueError
  refine wpAny_bind (PySem.W.check_bound_init FB.toExcCallFacts (I3.kIn _ _ hC) ho2 rfl ?_)
  refine wpAny_bind (wpAny_pure (wpAny_pure ?_))
  refine ⟨plainId_quiet FB.init.plain _, codeAny_builtin FB.initEntry ?_⟩
  refine PySem.W.exc_init_tree (cls := .ref C) (t0 := t2) (dv := none) (c2 := .none) (c3 := .none) (b4 := .bool false) ho2 hlen fun h3 k3 hx3 ht3 => ?_
  have J := I3.write (t' := tk2) (x := a) (e := a) (o := exo a C none) (by rw [e2]; exact True.intro) (.inl rfl) k3 ⟨_, hx3⟩ (exo_ok hx3)
  have eu : upd H2 a (exo a C none) = H2 := by
    funext b
    by_cases hb : b = a
    · rw [hb, upd_same, e2]
    · rw [upd_ne hb]
  rw [eu] at J
  exact ⟨H2, J, q⟩
end
end PL
namespace PL
open PySem PySem.Spec PyProof.Rows L2 NdefX
/-- C.__init__(self, x): the field f is set -/
def spI (C : Addr) (fld : Str) : Sp := fun vs H Q _ => ∃ (a : Addr) (i : Int), vs = [.ref a, .int i] ∧ i.natAbs.log2 < 1920 ∧ H a = some (exo a C none) ∧ ∀ dx, H dx = none → dx ≠ a → Q .non (upd (upd H dx (exd dx [(fld, .int i)])) a (exo a C (some dx)))
theorem str_app_len (a b : Str) : (a ++ b).length = a.length + b.length := by
  show (a.cps ++ b.cps).size = _
  rw [Array.size_append]; rfl
section
variable {P : Program} {w : World} {K : PySem.W.Frag} {mg : Str → Option Value} {base : Heap} {F : NF} {fI C cc : Addr} {k : Nat} {doc pm ctv oc : Value} {od : Option Addr} {osl : Array (Option Value)} {x fld file m1 : Str} {p0 p1 p2 p3 p4 p5 p6 p7 p8 p9 q1 q2 q3 q4 : Pos} {j1 : Nat} {ar : Arg}
theorem init_fn (lk : K.lookup fI = some ⟨oc, od, .func (F.fd doc pm ctv), osl⟩) (hcd : PySem.W.codeIn K (.ref F.c) F.qual = true) (hF : F.cl = [(("__class__" : Str), cc)]) (S : NScope ["self", x, "__class__"] ["self", x] ["__class__"] F.scope) (hC : SupC K C cc F.c fI (F.fd doc pm ctv) file)
    (hbody : F.body = [.Expr (.Call (.Attribute (.Call (.Name "super" p0) [] [] p1) "__init__" p2) [.JoinedStr [.Constant (.str m1) j1 p3, .FormattedValue (.Name x p4) (-1) none p5] p6] [] p7) p8, .Assign [.Attribute (.Name "self" q1) fld q2] (.Name x q3) q4])
    (hm1 : m1.length ≤ 1000) (hp : ((F.fd doc pm ctv).params.posonlyargs ++ (F.fd doc pm ctv).params.args).head? = some ar) (har : ar.arg = "self") (hfile : ((P.main.file : Str) == file) = true) (htop : (P.main.scope.names.lookup ("super" : Str)).isSome = false) (hks : F.scope.names.lookup ("super" : Str) = some .globalImplicit)
    (hm : mg "super" = none) (hboot : bootBuiltins "super" = some (.type "super")) (hno : PySem.W.findIn K (.ref C) fld = some none) (hx1 : (x == ("__debug__" : Str)) = false) (hx2 : (x == ("__classdict__" : Str)) = false) {pl : Env → Sem Bool}
    (he : ∀ env : Env, eval (.Call (.Attribute (.Call (.Name "super" p0) [] [] p1) "__init__" p2) [.JoinedStr [.Constant (.str m1) j1 p3, .FormattedValue (.Name x p4) (-1) none p5] p6] [] p7) env = (do
      let ov ← attributeBase (.Call (.Name "super" p0) [] [] p1) "__init__" env (eval (.Call (.Name "super" p0) [] [] p1) env)
      standAt p2.atName
      let (f, first) ← holding [ov] (getMethod ov "__init__" (pl env))
      callWith p7 f first (backTo p7 (starEach [.JoinedStr [.Constant (.str m1) j1 p3, .FormattedValue (.Name x p4) (-1) none p5] p6] env)) []))
    (hs1 : ∀ env : Env, swapsWith (.Call (.Attribute (.Call (.Name "super" p0) [] [] p1) "__init__" p2) [.JoinedStr [.Constant (.str m1) j1 p3, .FormattedValue (.Name x p4) (-1) none p5] p6] [] p7) none p8.line env = pure false)
    (hs2 : ∀ env : Env, swapsWith (.Name x q3) (some (.Attribute (.Name "self" q1) fld q2)) q4.line env = pure false) :
    FnOk P w K mg base CX0 (k + 1) fI (F.fd doc pm ctv) ["self", x] (spI C fld) := by
  have ls : F.scope.names.lookup ("self" : Str) = some .local := S.par _ (by simp)
  have lx : F.scope.names.lookup x = some .local := S.par _ (by simp)
  have lc : F.scope.names.lookup ("__class__" : Str) = some .free := S.frk _ (by simp)
  have key : ∀ (y : Str) (c : Addr), F.cl.lookup y = some c → y = "__class__" ∧ c = cc := fun y c h => by
    rw [hF, List.lookup_cons] at h
    cases q : (y == ("__class__" : Str)) with
    | true =>
      rw [q] at h
      exact ⟨eq_of_beq q, (Option.some.inj h).symm⟩
    | false =>
      rw [q] at h
      exact nomatch h
  refine fnS_of (ws := [none]) lk hcd S rfl (fun y c h => ?_) (fun y z c h1 h2 => (key y c h1).1.trans (key z c h2).1.symm) (fun i y h => ?_) (fun vs H Q E h => ?_) (fun A outer s H vs Q E s1 hr hsp I => ?_)
  · obtain ⟨oc, od, osl, h1⟩ := hC.cell
    rw [(key y c h).2]
    exact ⟨oc, od, _, osl, h1⟩
  · cases i with
    | zero =>
      cases h
      exact ⟨cc, by rw [hF]; simp [List.lookup_cons], fun v h => by simp at h⟩
    | succ i => simp at h
  · obtain ⟨a, i, rfl, _⟩ := h; rfl
  · obtain ⟨a, i, rfl, hi, hH, q⟩ := hsp
    let X := ncx CX0 P w K mg base ["self", x, "__class__"] F fI A outer s H E
    have hE : X.env = PySem.W.ksEnv F.qual F.scope s.heap.objs.size fI (.ref F.c) cc := by
      show PySem.W.envX F.qual F.scope s.heap.objs.size fI (.ref F.c) F.cl = _
      rw [hF]
    have vs : Vis X.env.scope "self" := .inl ls
    have vx : Vis X.env.scope x := .inl lx
    have z0 : (Str.empty ++ m1).length ≤ 1000 := by
      rw [str_app_len]
      have : (Str.empty).length = 0 := rfl
      omega
    have z1 : (Str.empty ++ m1 ++ Str.ofString (toString i)).length ≤ sizeLine := by
      rw [str_app_len, sizeLine_eq, PySem.ofString_length]
      have := int_text_length_le (k := 1920) (by decide) hi
      omega
    have ex : PE X (.Name x p4) (tVar 1) := pe_var rfl vx hx1 hx2
    have ej : PE X (.JoinedStr [.Constant (.str m1) j1 p3, .FormattedValue (.Name x p4) (-1) none p5] p6) (fun σ H Q => tJs [tC (.str m1), tFmt (tVar 1)] Str.empty σ H fun out H1 => Q (.str out) H1) := pe_joined (.cons pe_str (.cons (pe_fmt ex) .nil))
    rw [hbody]
    refine ks_wpAt_execs_cons (ks_wpAt_Expr_any ?_ (by simp [interactive, S.kind]) (hs1 _))
    refine ks_wpAt_mono (super_init (X := X) (a := a) (Q := fun H1 => H1 = H) hC hE rfl hp hfile htop hks lc (by rw [har]; exact ls) hm hboot I (by rw [har]; rfl) rfl hH (pa_cons ej pa_nil) ?_ (he _) rfl) (fun v s' h => ?_) fun _ _ z => z
    · show tJs [tC (.str m1), tFmt (tVar 1)] Str.empty _ H _
      refine ⟨m1, rfl, ?_, _, rfl, .inr ⟨i, rfl, hi, _, rfl, ?_, by show (1 : Nat) ≤ 1000; decide, hH, rfl⟩⟩
      · rw [sizeLine_eq]; omega
      · exact z1
    · obtain ⟨H1, I1, rfl⟩ := h
      refine wpAt_of_wpAny ?_
      have st2 : PSs X [.Assign [.Attribute (.Name "self" q1) fld q2] (.Name x q3) q4] _ := pss_one (ps_ost (pe_var (i := 0) (x := "self") rfl vs) (pe_var (i := 1) rfl vx hx1 hx2) (hs2 _))
      refine thn (st2.run [] _ _ _ { nx := fun σ' H' => Q .non H', rt := fun _ _ => False } I1 ?_) (fun fl s2 hq => ?_)
      · refine ⟨_, rfl, _, rfl, a, C, rfl, hC.T, hno, .inl ⟨hH, fun dx n1 n2 => q dx n1 n2⟩⟩
      · cases fl with
        | next => exact ⟨rfl, hq⟩
        | ret v => obtain ⟨_, _, _, _, _, z⟩ := hq; exact z.elim
        | brk => obtain ⟨_, _, _, z⟩ := hq; exact z.elim
        | cont => obtain ⟨_, _, _, z⟩ := hq; exact z.elim
end
end PL
namespace PL
open PySem PySem.Spec PyProof.Rows L2 NdefX
/-- raise C(n): with its field -/
def sRaiseI (c : Nat) (f : Ev → Rs PyData) : Ev → Rs Out := fun ρ => (f ρ).bnd fun d => match d with
  | .int i => if i.natAbs.log2 < 1920 then .ok (.xc ρ c [.int i]) else .no
  | _ => .no
theorem s_raiseIC {X : Cx} {F : FC} {st : Stmt} {c : Nat} {f : Ev → Rs PyData} (hF : Calm F) : SP' X F st (sRaiseI c f) := wkS ps_never fun D σ H ⟨O, ρ, o, r, e, p⟩ => by
  obtain ⟨d, ed, e⟩ := Rs.bnd_eq e
  split at e <;> first | (cases e; done) | skip
  split at e <;> first | (cases e; done) | skip
  cases e; exact calm_no hF p
section
variable {X : Cx} {F : FC}
theorem s_raiseI {x prm fld : Str} {C fI : Addr} {k : Nat} {fd : FuncData} {c : Nat} {e : Expr} {f : Ev → Rs PyData} {p pos pos2 : Pos} {xm : XM} (T : OexC X.K C) (iC : PySem.W.findIn X.K (.ref C) "__init__" = some (some (.ref fI))) (tI : PySem.W.typeIn X.K (.ref fI) = some (.type "function"))
    (F1 : FnOk X.prog X.w X.K X.mg X.base CX0 k fI fd ["self", prm] (spI C fld)) (hr : Room (k + 1) X.A) (hb : Binds X.K fd ["self", prm] []) (hc : X.calm = true) (tk : Takes X F.W) (hg : Gl X x) (hm : X.mg x = some (.ref C)) (he : EP' X F e f) (hx : F.xm = xm) (hC : xm c = some (C, some fld))
    (hdb : (x == ("__debug__" : Str)) = false := by decide) (hst : starEach [e] X.env = (false, eval e X.env) :: starEach [] X.env := by rfl) : SP' X F (.Raise (some (.Call (.Name x p) [e] [] pos)) none pos2) (sRaiseI c f) :=
  wkS (ps_raise hc tk (pmk_oex (dvs := []) (ds := []) T iC tI F1 hr hb .nil pass0 hg hm (pa_cons he pa_nil hst) hdb hst rfl)) fun D σ H ⟨O, ρ, o, r, e0, pq⟩ => by
    obtain ⟨d, ed, e0⟩ := Rs.bnd_eq e0
    split at e0 <;> first | (cases e0; done) | skip
    rename_i i
    split at e0 <;> first | (cases e0; done) | skip
    rename_i hi
    cases e0
    refine ⟨O, ρ, _, r, ed, fun v H1 s1 r1 => ?_⟩
    rw [r1.intV]
    refine ⟨by show (1 : Nat) ≤ 1000; decide, fun a ha => ⟨a, i, rfl, hi, upd_same, fun dx n1 n2 => ⟨rfl, dx, [(fld, .int i)], upd_same, by rw [upd_ne n2]; exact upd_same, by rw [upd_ne n2] at n1; exact n1, ?_⟩⟩⟩
    have n0 : H1 dx = none := by rw [upd_ne n2] at n1; exact n1
    have sm : Same H1 (upd (del (upd (upd (upd H1 a (exo a C none)) dx (exd dx [(fld, .int i)])) a (exo a C (some dx))) a) dx (.xd [(fld, .int i)])) := fun b o q => by
      have b1 : b ≠ a := fun z => by rw [z, ha] at q; exact nomatch q
      have b2 : b ≠ dx := fun z => by rw [z, n0] at q; exact nomatch q
      rw [upd_ne b2, del_ne b1, upd_ne b1, upd_ne b2, upd_ne b1]; exact q
    have rm := (r.mono s1).mono sm
    refine pq.2 O σ _ (.ref C) (some dx) rm (hide_same (s1.trans sm)) ⟨C, some fld, by rw [hx]; exact hC, rfl, dx, rfl, ⟨fun z => (r.mono s1).nlive z n0, ?_⟩, upd_same⟩
    cases q : F.H0 dx with
    | none => rfl
    | some y =>
      have := ((r.mono s1).base dx y q).1
      rw [n0] at this; exact nomatch this
end
end PL
namespace PL
open PySem PySem.Spec PyProof.Rows L2 NdefX
/-- what a law knows of a class of exceptions with a field -/
structure ExcM (P : Program) (w : World) (K : PySem.W.Frag) (mg : Str → Option Value) (C : Addr) (fld : Str) where
  prm : Str
  fI : Addr
  fd : FuncData
  T : OexC K C
  iC : PySem.W.findIn K (.ref C) "__init__" = some (some (.ref fI))
  tI : PySem.W.typeIn K (.ref fI) = some (.type "function")
  F1 : ∀ base k, FnOk P w K mg base CX0 (k + 1) fI fd ["self", prm] (spI C fld)
  hb : Binds K fd ["self", prm] []
  xf : XfC K C
  nf : PySem.W.findIn K (.ref C) fld = some none
def rowOk (f : Addr → Bool → Bool) (l : List (Nat × (Addr × Option Str) × Bool)) : Bool := l.all fun t => f t.2.1.1 t.2.2
theorem row_tab {xm : XM} {f : Addr → Bool → Bool} {g : Addr → Bool → Prop} {l : List (Nat × (Addr × Option Str) × Bool)} {t : List (Nat × Bool)} (h : rowOk f l = true) (hg : ∀ C b, f C b = true → g C b) (hx : xm = fun c => List.lookup c (l.map fun t => (t.1, t.2.1)) := by rfl) (ht : t = l.map (fun t => (t.1, t.2.2)) := by rfl) : TabX xm g t := by
  subst hx ht
  induction l with
  | nil => exact fun _ _ e => nomatch e
  | cons a r ih =>
    unfold rowOk at h
    rw [List.all_cons, Bool.and_eq_true] at h
    intro c b e
    show ∃ C fn, List.lookup c ((a.1, a.2.1) :: _) = some (C, fn) ∧ _
    have e' : List.lookup c ((a.1, a.2.2) :: r.map fun t => (t.1, t.2.2)) = some b := e
    rw [List.lookup_cons] at e' ⊢
    split at e'
    · exact ⟨a.2.1.1, a.2.1.2, rfl, hg _ _ (by rw [← Option.some.inj e']; exact h.1)⟩
    · exact ih h.2 c b e'
theorem exk_row {f : Addr → Bool → Bool} {g : Addr → Prop} (hg : ∀ C b, f C b = true → g C) : ∀ {l : List (Nat × (Addr × Option Str) × Bool)}, rowOk f l = true → ∀ c C fn, List.lookup c (l.map fun t => (t.1, t.2.1)) = some (C, fn) → g C
  | [], _, _, _, _, e => nomatch e
  | a :: r, h, c, C, fn, e => by
    unfold rowOk at h
    rw [List.all_cons, Bool.and_eq_true] at h
    rw [List.map_cons, List.lookup_cons] at e
    split at e
    · have q : a.2.1.1 = C := congrArg Prod.fst (Option.some.inj e)
      rw [← q]; exact hg _ _ h.1
    · exact exk_row hg h.2 c C fn e
def exmB (K : PySem.W.Frag) (cv : Value) (C : Addr) (b : Bool) : Bool := decide (PySem.W.exmOne K (.ref C) cv = some b)
def kitB (K : PySem.W.Frag) (cv : Value) (C : Addr) (b : Bool) : Bool := decide (PySem.W.kitOne K (.ref C) cv = some b)
theorem exmB_ok {K : PySem.W.Frag} {cv : Value} : ∀ (C : Addr) (b : Bool), exmB K cv C b = true → PySem.W.exmOne K (.ref C) cv = some b := fun _ _ h => of_decide_eq_true h
theorem kitB_ok {K : PySem.W.Frag} {cv : Value} : ∀ (C : Addr) (b : Bool), kitB K cv C b = true → PySem.W.kitOne K (.ref C) cv = some b := fun _ _ h => of_decide_eq_true h
theorem tabX_all {xm : XM} {f : Addr → Bool → Prop} {l : List (Nat × Bool)} (T : TabX xm f l) : ∀ c b, List.lookup c l = some b → ∃ C fn, xm c = some (C, fn) ∧ f C b := T
/-- isinstance of an exception in hand, of a class with or without a field -/
structure ExcK (K : PySem.W.Frag) (D : Addr) : Prop where
  hc : (PySem.W.clsIn K D).isSome = true
  hg : PySem.W.findIn K (.ref D) "__getattribute__" = some (some (.builtin "BaseException.__getattribute__"))
  hk : PySem.W.findIn K (.ref D) "__getattr__" = some none
  hs : PySem.W.subIn K (.ref D) (.type "BaseException") = some true
  ha : PySem.W.findIn K (.ref D) "__class__" = some (some (.builtin "object.__class__"))
  hn : PySem.W.specialIn K (.builtin "object.__class__") "__get__" = some (some (.builtin "getset_descriptor.__get__"))
  ht : PySem.W.takesIn K (.builtin "object.__class__") = some true
  hm : PySem.W.mroIn K D (.type "object") = some true
def exkB (K : PySem.W.Frag) (D : Addr) (_ : Bool) : Bool := (PySem.W.clsIn K D).isSome && (decide (PySem.W.findIn K (.ref D) "__getattribute__" = some (some (.builtin "BaseException.__getattribute__"))) && (decide (PySem.W.findIn K (.ref D) "__getattr__" = some none) && (decide (PySem.W.subIn K (.ref D) (.type "BaseException") = some true) && (decide (PySem.W.findIn K (.ref D) "__class__" = some (some (.builtin "object.__class__"))) && (decide (PySem.W.specialIn K (.builtin "object.__class__") "__get__" = some (some (.builtin "getset_descriptor.__get__"))) && (decide (PySem.W.takesIn K (.builtin "object.__class__") = some true) && decide (PySem.W.mroIn K D (.type "object") = some true)))))))
theorem exkB_ok {K : PySem.W.Frag} : ∀ (D : Addr) (b : Bool), exkB K D b = true → ExcK K D := fun D b h => by
  obtain ⟨h1, h⟩ := Bool.and_eq_true_iff.mp h
  obtain ⟨h2, h⟩ := Bool.and_eq_true_iff.mp h
  obtain ⟨h3, h⟩ := Bool.and_eq_true_iff.mp h
  obtain ⟨h4, h⟩ := Bool.and_eq_true_iff.mp h
  obtain ⟨h5, h⟩ := Bool.and_eq_true_iff.mp h
  obtain ⟨h6, h⟩ := Bool.and_eq_true_iff.mp h
  obtain ⟨h7, h8⟩ := Bool.and_eq_true_iff.mp h
  exact ⟨h1, of_decide_eq_true h2, of_decide_eq_true h3, of_decide_eq_true h4, of_decide_eq_true h5, of_decide_eq_true h6, of_decide_eq_true h7, of_decide_eq_true h8⟩
theorem exk_all {K : PySem.W.Frag} {xm : XM} {l : List (Nat × (Addr × Option Str) × Bool)} (h : rowOk (exkB K) l = true) (hx : xm = fun c => List.lookup c (l.map fun t => (t.1, t.2.1)) := by rfl) : ∀ c C fn, xm c = some (C, fn) → ExcK K C := by
  subst hx
  exact exk_row (f := exkB K) exkB_ok h
section
variable {X : Cx} {F : FC} {xm : XM}
/-- isinstance(e, c), e the exception that the suite holds, dd its dict -/
def rIsK (K : PySem.W.Frag) (D a : Addr) (dd : Option Addr) : List V → Hp → VK → Prop := fun xs H Q => ∃ (c : V) (cv : Value) (b : Bool), xs = [.ref a, c] ∧ (∀ u, RelV c u → u = cv) ∧ PySem.W.kitOne K (.ref D) cv = some b ∧ (∀ d, dd = some d → ∃ fs, H d = some (.xd fs)) ∧ Q (.bl b) H
theorem call_isK {a D : Addr} {oe : Obj} {dd : Option Addr} {pn : List (Addr × Obj)} (C : ExcK X.K D) (hz : Zc (.ref D) dd oe) (hf : ∃ vs, oe.data = .fields vs) : CallR (X.suite a ((a, oe) :: pn)) (.builtin "isinstance") (rIsK X.K D a dd) := by
  intro pins s σ H xs us Q I r h
  obtain ⟨c, cv, b, rfl, hcv, e, hd, q⟩ := h
  cases r with
  | cons rx rr =>
    cases rr with
    | cons rt rr =>
      cases rr
      cases rx
      have ec := hcv _ rt
      subst ec
      obtain ⟨hget, _⟩ := I.pin (a, oe) (List.mem_append.mpr (.inl List.mem_cons_self))
      obtain ⟨vs, hv⟩ := hf
      have J : ∃ od, PySem.W.InstAt s.heap a oe D od := by
        cases dd with
        | none => exact ⟨none, hget, hz.1, by unfold PySem.W.notCls; rw [hv] <;> rfl, by rw [hz.2]; trivial⟩
        | some d =>
          obtain ⟨fs, hfs⟩ := hd d rfl
          have hx : ObjOk X.prog X.w H s.heap d (.xd fs) := I.hok d _ hfs
          obtain ⟨mA, hns, _⟩ := hx
          obtain ⟨od, ho, _⟩ := lookIn_ns hns
          exact ⟨some od, hget, hz.1, by unfold PySem.W.notCls; rw [hv] <;> rfl, by rw [hz.2]; exact ho⟩
      obtain ⟨od, J⟩ := J
      exact PySem.W.kia_one (PySem.W.kitx_exc C.hc C.hg C.hk C.hs C.ha C.hn C.ht C.hm) I.kIn J e (fun z => nomatch z) fun tk => ⟨.bl b, H, I.kept (t' := tk) fun _ _ z => z, rfl, q⟩
theorem p_isK {i : Nat} {a : Addr} {oe : Obj} {cls : Value} {d : Option Addr} {pn : List (Addr × Obj)} {c : Nat} {fs : List PyData} {l : List (Nat × Bool)} {x n : Str} {p1 p2 p3 pos : Pos} {cV : V} {cv : Value} (hz : Zc cls d oe) (hf : ∃ vs, oe.data = .fields vs) (hx : ExOk xm (fun _ => True) F.H0 c fs cls d) (hht : F.ht = some a)
    (T : TabX xm (fun C b => PySem.W.kitOne X.K (.ref C) cv = some b) l) (hE : ∀ c C fn, xm c = some (C, fn) → ExcK X.K C)
    (hn : PE (X.suite a ((a, oe) :: pn)) (.Name n p1) (tVar i)) (hg : Gl X "isinstance") (hm : X.mg "isinstance" = none) (hc : PE (X.suite a ((a, oe) :: pn)) (.Name x p2) (tC cV)) (hcv : ∀ u, RelV cV u → u = cv)
    (hb : bootBuiltins "isinstance" = some (.builtin "isinstance") := by decide +kernel)
    (h1 : starEach [.Name n p1, .Name x p2] (X.suite a ((a, oe) :: pn)).env = (false, eval (.Name n p1) (X.suite a ((a, oe) :: pn)).env) :: starEach [.Name x p2] (X.suite a ((a, oe) :: pn)).env := by rfl)
    (h2 : starEach [.Name x p2] (X.suite a ((a, oe) :: pn)).env = (false, eval (.Name x p2) (X.suite a ((a, oe) :: pn)).env) :: starEach [] (X.suite a ((a, oe) :: pn)).env := by rfl)
    (hpl : (backTo pos (starEach [.Name x p2] (X.suite a ((a, oe) :: pn)).env)).any (·.1) = false := by rfl) :
    EP' (X.suite a ((a, oe) :: pn)) F (.Call (.Name "isinstance" p3) [.Name n p1, .Name x p2] [] pos) (isX i l c) := by
  refine ⟨fun pins s σ H Q I ⟨O, ρ, dd, r, e, q⟩ => ?_⟩
  unfold isX at e
  split at e <;> first | (cases e; done) | skip
  rename_i hcc
  split at e <;> first | (cases e; done) | skip
  rename_i b hl
  cases e
  obtain ⟨C, fn, e1, h4⟩ := T c b hl
  have h3 := hE c C fn e1
  obtain ⟨C', fn', e1', e2, e3⟩ := hx
  rw [e1] at e1'; cases e1'
  subst e2
  obtain ⟨a', ha', hs⟩ := r.slots i _ (getC_iff.mp hcc)
  rw [hht] at ha'; cases ha'
  have hd : ∀ d1, d = some d1 → ∃ fs, H d1 = some (.xd fs) := fun d1 h => by
    subst h
    split at e3
    · exact nomatch e3
    · obtain ⟨d2, q1, _, q3⟩ := e3
      cases q1
      exact ⟨_, (r.base _ _ q3).1⟩
    · exact e3.elim
  exact (pe_callB (call_isK h3 hz hf) hg hm hb (pa_cons hn (pa_cons hc pa_nil h2) h1) (hpl := hpl) (he := h1)).run pins s σ H Q I ⟨_, hs, cV, cv, b, rfl, hcv, h4, hd, q _ H (Same.refl H) .bool⟩
/-- e.f of an exception in hand whose class is one of l -/
def exF (i : Nat) (l : List Nat) (c : Nat) (fs : List PyData) : Ev → Rs PyData := fun ρ => match getC ρ i with
  | some .hot => if l.contains c then (match fs with | [.int k] => .ok (.int k) | _ => .no) else .no
  | _ => .no
def TabG (K : PySem.W.Frag) (xm : XM) (fld : Str) (l : List Nat) : Prop := ∀ c, c ∈ l → ∃ C, xm c = some (C, some fld) ∧ XfC K C ∧ PySem.W.findIn K (.ref C) fld = some none
theorem tg_1 {P : Program} {w : World} {K : PySem.W.Frag} {mg : Str → Option Value} {xm : XM} {fld : Str} {c : Nat} {C : Addr} (M : ExcM P w K mg C fld) (h : xm c = some (C, some fld)) : TabG K xm fld [c] := fun c' hc => by
  rw [List.mem_singleton] at hc
  subst hc
  exact ⟨C, h, M.xf, M.nf⟩
theorem p_exF {i : Nat} {a : Addr} {oe : Obj} {cls : Value} {d : Option Addr} {pn : List (Addr × Obj)} {c : Nat} {fs : List PyData} {l : List Nat} {fld n : Str} {p1 pos : Pos} (hz : Zc cls d oe) (hf : ∃ vs, oe.data = .fields vs) (hx : ExOk xm (fun _ => True) F.H0 c fs cls d) (hht : F.ht = some a)
    (T : TabG X.K xm fld l) (hn : PE (X.suite a ((a, oe) :: pn)) (.Name n p1) (tVar i)) (hb : attributeBase (.Name n p1) fld X.env (eval (.Name n p1) X.env) = eval (.Name n p1) X.env := by rfl) :
    EP' (X.suite a ((a, oe) :: pn)) F (.Attribute (.Name n p1) fld pos) (exF i l c fs) := by
  refine ⟨fun pins s σ H Q I ⟨O, ρ, dd, r, e, q⟩ => ?_⟩
  unfold exF at e
  split at e <;> first | (cases e; done) | skip
  rename_i hcc
  split at e <;> first | (cases e; done) | skip
  rename_i hl
  split at e <;> first | (cases e; done) | skip
  rename_i k _
  cases e
  obtain ⟨C, e1, h3, h4⟩ := T c (by simpa using hl)
  obtain ⟨C', fn', e1', e2, e3⟩ := hx
  rw [e1] at e1'; cases e1'
  obtain ⟨d2, q1, _, q3⟩ := e3
  obtain ⟨a', ha', hs⟩ := r.slots i _ (getC_iff.mp hcc)
  rw [hht] at ha'; cases ha'
  exact (pe_xf h3 h4 hz hf hn hb).run pins s σ H Q I ⟨_, hs, rfl, e2, d2, _, .int k, q1, (r.base _ _ q3).1, by simp [List.lookup_cons], q _ H (Same.refl H) .int⟩
end
end PL
namespace PL
open PySem PySem.Spec PyProof.Rows L2 NdefX
/-- from what the written part says -/
theorem excM_mk {P : Program} {w : World} {K : PySem.W.Frag} {mg : Str → Option Value} {h : Heap} (X : K.In h) (G : h.Ns mainGlobals mg) {C fI cc cda : Addr} {x fld file : Str} {st : Stmt} {ar : Arg} {qual : Str}
    {doc pm ctv oc : Value} {od : Option Addr} {osl : Array (Option Value)} {occ : Value} {odc : Option Addr} {slc : Array (Option Value)} {ccl : Value} {cdd : Option Addr} {vs : Array Value} {ccs : Array (Option Value)} {tf : Tok} {m1 : Str} {p0 p1 p2 p3 p4 p5 p6 p7 p8 q1 q2 q3 q4 : Pos} {j1 : Nat} {pl : Env → Sem Bool}
    {nm qn : Str} {N bs bm sn sub ab col dd k0 k1 k2 k3 k5} (hC : K.lookup C = some (excClassObj nm qn C N bs bm true sn sub ab col dd k0 k1 k2 k3 k5 "ValueError.__new__")) (hbm : PySem.HandSPX.refsVE bm = true)
    (sa : PySem.W.findIn K (.ref C) "__setattr__" = some (some (.builtin "object.__setattr__"))) (exC : PySem.W.subIn K (.ref C) (.type "BaseException") = some true) (tyC : PySem.W.typeIn K (.ref C) = some (.type "type")) (kC : PySem.W.keepIn K (.ref C) = true)
    (iC : PySem.W.findIn K (.ref C) "__init__" = some (some (.ref fI))) (tI : PySem.W.typeIn K (.ref fI) = some (.type "function"))
    (lk : K.lookup fI = some ⟨oc, od, .func (PySem.W.fnX "__init__" qual (defArgs st) (defBody st) (defScope st) [("__class__", cc)] .none .none doc pm none (.ref cda) ctv), osl⟩) (hcd : PySem.W.codeIn K (.ref cda) qual = true)
    (hcell : K.lookup cc = some ⟨occ, odc, .cell (some (.ref C)), slc⟩) (along : PySem.W.ks_superIn K C C "__init__" = some (some (.builtin "ValueError.__init__"))) (opq : PySem.W.nsIn K PySem.cStatics "thirdparty.any" = some none)
    (code : K.lookup cda = some ⟨ccl, cdd, .fields vs, ccs⟩) (vs2 : vs[2]? = some (.str file tf)) (hsup : PySem.W.nsIn K mainGlobals "super" = some none) (hno : PySem.W.findIn K (.ref C) fld = some none) (xf : xfB K C = true)
    (S : NScope ["self", x, "__class__"] ["self", x] ["__class__"] (defScope st))
    (hbody : defBody st = [.Expr (.Call (.Attribute (.Call (.Name "super" p0) [] [] p1) "__init__" p2) [.JoinedStr [.Constant (.str m1) j1 p3, .FormattedValue (.Name x p4) (-1) none p5] p6] [] p7) p8, .Assign [.Attribute (.Name "self" q1) fld q2] (.Name x q3) q4])
    (hm1 : m1.length ≤ 1000) (hp : ((defArgs st).posonlyargs ++ (defArgs st).args).head? = some ar) (har : ar.arg = "self") (hfile : ((P.main.file : Str) == file) = true) (htop : (P.main.scope.names.lookup ("super" : Str)).isSome = false) (hks : (defScope st).names.lookup ("super" : Str) = some .globalImplicit)
    (hx1 : (x == ("__debug__" : Str)) = false) (hx2 : (x == ("__classdict__" : Str)) = false)
    (he : ∀ env : Env, eval (.Call (.Attribute (.Call (.Name "super" p0) [] [] p1) "__init__" p2) [.JoinedStr [.Constant (.str m1) j1 p3, .FormattedValue (.Name x p4) (-1) none p5] p6] [] p7) env = (do
      let ov ← attributeBase (.Call (.Name "super" p0) [] [] p1) "__init__" env (eval (.Call (.Name "super" p0) [] [] p1) env)
      standAt p2.atName
      let (f, first) ← holding [ov] (getMethod ov "__init__" (pl env))
      callWith p7 f first (backTo p7 (starEach [.JoinedStr [.Constant (.str m1) j1 p3, .FormattedValue (.Name x p4) (-1) none p5] p6] env)) []))
    (hs1 : ∀ env : Env, swapsWith (.Call (.Attribute (.Call (.Name "super" p0) [] [] p1) "__init__" p2) [.JoinedStr [.Constant (.str m1) j1 p3, .FormattedValue (.Name x p4) (-1) none p5] p6] [] p7) none p8.line env = pure false)
    (hs2 : ∀ env : Env, swapsWith (.Name x q3) (some (.Attribute (.Name "self" q1) fld q2)) q4.line env = pure false)
    (hb : ∀ us : List Value, us.length = (["self", x] : List Str).length → bindArgs (PySem.W.fnX "__init__" qual (defArgs st) (defBody st) (defScope st) [("__class__", cc)] .none .none doc pm none (.ref cda) ctv) ⟨us, []⟩ = pure ((["self", x] : List Str).zip us)) :
    Nonempty (ExcM P w K mg C fld) :=
  have T : OexC K C := ⟨⟨_, _, _, _, _, _, _, _, _, _, _, _, _, _, _, hC, hbm⟩, sa, exC, tyC, kC⟩
  ⟨⟨x, fI, _, T, iC, tI, fun base k => init_fn (F := ⟨"__init__", qual, defArgs st, defBody st, defScope st, [("__class__", cc)], cda⟩) lk hcd rfl S ⟨T, ⟨_, _, _, hcell⟩, along, opq, ⟨_, _, _, lk⟩, ⟨_, _, _, _, _, code, vs2⟩⟩ hbody hm1 hp har hfile htop hks (PySem.W.mg_none_of X G hsup) (by decide +kernel) hno hx1 hx2 he hs1 hs2, .all hb, xfB_ok xf, hno⟩⟩
end PL


/-! PLM: reckoning with the functions of plain data -/
namespace PL
open PySem
theorem atI_nat {α : Type} (xs : List α) (k : Nat) : L2.atI xs (k : Int) = xs[k]? := by
  unfold L2.atI L2.ixN
  by_cases h : k < xs.length
  · simp [h]
  · simp [h, List.getElem?_eq_none (Nat.le_of_not_lt h)]
theorem atI_of {α : Type} {xs : List α} {i : Int} (h0 : 0 ≤ i) : L2.atI xs i = xs[i.toNat]? := by
  obtain ⟨k, rfl⟩ := Int.eq_ofNat_of_zero_le h0
  exact atI_nat xs k
theorem atI_zero {α : Type} (xs : List α) : L2.atI xs 0 = xs[0]? := atI_nat xs 0
theorem tgt_one (i : Nat) (d : PyData) (ρ : Ev) : tgt (.one i) d ρ = .ok (ρ.set i (some (.pub d))) := rfl
/-- a walk that always goes on -/
theorem forL_inv {t : Tg} {f : Ev → Rs Out} (I : Nat → Ev → Prop) : ∀ (ds : List PyData) (k : Nat) (ρ : Ev), (∀ i d ρ, ds[i]? = some d → I (k + i) ρ → ∃ ρ1 ρ2, tgt t d ρ = .ok ρ1 ∧ (f ρ1 = .ok (.nx ρ2) ∨ f ρ1 = .ok (.ct ρ2)) ∧ I (k + i + 1) ρ2) → I k ρ → ∃ ρ', forL t f ds ρ = .ok (.nx ρ') ∧ I (k + ds.length) ρ'
  | [], k, ρ, _, h => ⟨ρ, rfl, h⟩
  | d :: r, k, ρ, step, h => by
    obtain ⟨ρ1, ρ2, e1, e2, h2⟩ := step 0 d ρ rfl h
    obtain ⟨ρ', e3, h3⟩ := forL_inv I r (k + 1) ρ2 (fun i d' ρ e h => by
      have := step (i + 1) d' ρ (by simpa using e) (by rw [show k + (i + 1) = k + 1 + i by omega]; exact h)
      rw [show k + (i + 1) + 1 = k + 1 + i + 1 by omega] at this
      exact this) h2
    refine ⟨ρ', ?_, by rw [List.length_cons, show k + (r.length + 1) = k + 1 + r.length by omega]; exact h3⟩
    show (tgt t d ρ).bnd _ = _
    rw [e1]
    rcases e2 with e2 | e2
    · show (f ρ1).bnd _ = _; rw [e2]; exact e3
    · show (f ρ1).bnd _ = _; rw [e2]; exact e3
theorem forL_one {j : Nat} {f : Ev → Rs Out} (I : Nat → Ev → Prop) (ds : List PyData) (ρ : Ev) (h : ∀ i d ρ, ds[i]? = some d → I i ρ → ∃ ρ2, f (ρ.set j (some (.pub d))) = .ok (.nx ρ2) ∧ I (i + 1) ρ2) (h0 : I 0 ρ) : ∃ ρ', forL (.one j) f ds ρ = .ok (.nx ρ') ∧ I ds.length ρ' := by
  have := forL_inv (t := .one j) (f := f) I ds 0 ρ (fun i d ρ e h1 => by
    rw [Nat.zero_add] at h1 ⊢
    obtain ⟨ρ2, e1, e2⟩ := h i d ρ e h1
    exact ⟨_, ρ2, rfl, .inl e1, e2⟩) h0
  rw [Nat.zero_add] at this
  exact this
theorem forL_range {j n : Nat} {f : Ev → Rs Out} (I : Nat → Ev → Prop) (ρ : Ev) (h : ∀ i ρ, i < n → I i ρ → ∃ ρ2, f (ρ.set j (some (.pub (.int i)))) = .ok (.nx ρ2) ∧ I (i + 1) ρ2) (h0 : I 0 ρ) : ∃ ρ', forL (.one j) f (rangeL 0 n) ρ = .ok (.nx ρ') ∧ I n ρ' := by
  have := forL_one (j := j) (f := f) I (rangeL 0 n) ρ (fun i d ρ e h1 => by
    have hi : i < n := by
      have := (List.getElem?_eq_some_iff.mp e).1
      simpa [rangeL] using this
    have ed : d = .int i := by simpa [rangeL, hi] using e.symm
    subst ed
    exact h i ρ hi h1) h0
  rw [show (rangeL 0 n).length = n by simp [rangeL]] at this
  exact this
/-- a walk that goes on, or gives a value -/
theorem forL_ret {t : Tg} {f : Ev → Rs Out} (I : Nat → Ev → Prop) (R : PyData → Prop) : ∀ (ds : List PyData) (k : Nat) (ρ : Ev), (∀ i d ρ, ds[i]? = some d → I (k + i) ρ → ∃ ρ1, tgt t d ρ = .ok ρ1 ∧ ((∃ ρ2, (f ρ1 = .ok (.nx ρ2) ∨ f ρ1 = .ok (.ct ρ2)) ∧ I (k + i + 1) ρ2) ∨ ∃ v, f ρ1 = .ok (.rt v) ∧ R v)) → I k ρ → (∃ ρ', forL t f ds ρ = .ok (.nx ρ') ∧ I (k + ds.length) ρ') ∨ ∃ v, forL t f ds ρ = .ok (.rt v) ∧ R v
  | [], k, ρ, _, h => .inl ⟨ρ, rfl, h⟩
  | d :: r, k, ρ, step, h => by
    obtain ⟨ρ1, e1, h2⟩ := step 0 d ρ rfl h
    have e0 : forL t f (d :: r) ρ = (f ρ1).bnd fun o => match o with
      | .nx ρ2 => forL t f r ρ2
      | .ct ρ2 => forL t f r ρ2
      | .bk ρ2 => .ok (.nx ρ2)
      | .rt d => .ok (.rt d)
      | .xc ρ c fs => .ok (.xc ρ c fs)
      | .rn ds => .ok (.rn ds)
      | .ro ρ d => .ok (.ro ρ d) := by
      show (tgt t d ρ).bnd _ = _
      rw [e1]; rfl
    rw [e0]
    rcases h2 with ⟨ρ2, e2, h2⟩ | ⟨v, e2, hv⟩
    · have go := forL_ret I R r (k + 1) ρ2 (fun i d' ρ e h => by
        have := step (i + 1) d' ρ (by simpa using e) (by rw [show k + (i + 1) = k + 1 + i by omega]; exact h)
        rw [show k + (i + 1) + 1 = k + 1 + i + 1 by omega] at this
        exact this) h2
      rw [List.length_cons, show k + (r.length + 1) = k + 1 + r.length by omega]
      rcases e2 with e2 | e2 <;> rw [e2] <;> exact go
    · exact .inr ⟨v, by rw [e2]; rfl, hv⟩
/-- a comprehension over typed things -/
theorem compL_map {α : Type} {t : Tg} {elt : Ev → Rs PyData} {ρ : Ev} {enc out : α → PyData} {to : α → Ev} : ∀ (l : List α), (∀ a ∈ l, tgt t (enc a) ρ = .ok (to a) ∧ elt (to a) = .ok (out a)) → compL t noIf elt ρ (l.map enc) = .ok (l.map out)
  | [], _ => rfl
  | a :: r, h => by
    obtain ⟨e1, e2⟩ := h a List.mem_cons_self
    have ih := compL_map r fun b hb => h b (List.mem_cons_of_mem _ hb)
    show (tgt t (enc a) ρ).bnd _ = _
    rw [e1]
    show (elt (to a)).bnd _ = _
    rw [e2]
    show (compL t noIf elt ρ (r.map enc)).bnd _ = _
    rw [ih]; rfl
theorem compL_filter {α : Type} {t : Tg} {cond : Ev → Rs Bool} {elt : Ev → Rs PyData} {ρ : Ev} {enc out : α → PyData} {to : α → Ev} {p : α → Bool} : ∀ (l : List α), (∀ a ∈ l, tgt t (enc a) ρ = .ok (to a) ∧ cond (to a) = .ok (p a) ∧ (p a = true → elt (to a) = .ok (out a))) → compL t cond elt ρ (l.map enc) = .ok ((l.filter p).map out)
  | [], _ => rfl
  | a :: r, h => by
    obtain ⟨e1, e2, e3⟩ := h a List.mem_cons_self
    have ih := compL_filter r fun b hb => h b (List.mem_cons_of_mem _ hb)
    show (tgt t (enc a) ρ).bnd _ = _
    rw [e1]
    show (cond (to a)).bnd _ = _
    rw [e2]
    cases hp : p a with
    | true =>
      show (elt (to a)).bnd _ = _
      rw [e3 hp]
      show (compL t cond elt ρ (r.map enc)).bnd _ = _
      rw [ih, List.filter_cons, if_pos hp]; rfl
    | false =>
      show compL t cond elt ρ (r.map enc) = _
      rw [ih, List.filter_cons, if_neg (by simp [hp])]
theorem compL_ex {t : Tg} {cond : Ev → Rs Bool} {elt : Ev → Rs PyData} {ρ : Ev} (P : PyData → Prop) : ∀ ds : List PyData, (∀ d ∈ ds, ∃ ρ1 b, tgt t d ρ = .ok ρ1 ∧ cond ρ1 = .ok b ∧ (b = true → ∃ y, elt ρ1 = .ok y ∧ P y)) → ∃ ys, compL t cond elt ρ ds = .ok ys ∧ (∀ y ∈ ys, P y) ∧ ys.length ≤ ds.length
  | [], _ => ⟨[], rfl, by simp, Nat.le_refl _⟩
  | d :: r, h => by
    obtain ⟨ρ1, b, e1, e2, e3⟩ := h d List.mem_cons_self
    obtain ⟨ys, i1, i2, i3⟩ := compL_ex P r fun x hx => h x (List.mem_cons_of_mem _ hx)
    have e0 : compL t cond elt ρ (d :: r) = if b = true then (elt ρ1).bnd fun y => (compL t cond elt ρ r).bnd fun ys => .ok (y :: ys) else compL t cond elt ρ r := by
      show (tgt t d ρ).bnd _ = _
      rw [e1]
      show (cond ρ1).bnd _ = _
      rw [e2]; rfl
    rw [e0]
    cases b with
    | true =>
      obtain ⟨y, e4, e5⟩ := e3 rfl
      refine ⟨y :: ys, by rw [if_pos rfl, e4, i1]; rfl, fun z hz => ?_, by simp only [List.length_cons]; omega⟩
      rcases List.mem_cons.mp hz with rfl | hz
      · exact e5
      · exact i2 z hz
    | false => exact ⟨ys, by rw [if_neg (by simp), i1], i2, by simp only [List.length_cons]; omega⟩
theorem whL_ex {g : Ev → Rs Bool} {f : Ev → Rs Out} (I : Nat → Ev → Prop) (Q : Ev → Prop) (h : ∀ m ρ, I m ρ → (g ρ = .ok false ∧ Q ρ) ∨ (g ρ = .ok true ∧ ∃ ρ2 m', f ρ = .ok (.nx ρ2) ∧ m' < m ∧ I m' ρ2)) : ∀ n m ρ, I m ρ → m < n → ∃ ρ', whL g f n ρ = .ok (.nx ρ') ∧ Q ρ'
  | 0, m, ρ, _, hm => absurd hm (Nat.not_lt_zero _)
  | n + 1, m, ρ, hI, hm => by
    rcases h m ρ hI with ⟨e, q⟩ | ⟨e, ρ2, m', e2, lt, hI2⟩
    · exact ⟨ρ, by show (g ρ).bnd _ = _; rw [e]; rfl, q⟩
    · obtain ⟨ρ', e3, q⟩ := whL_ex I Q h n m' ρ2 hI2 (by omega)
      exact ⟨ρ', by show (g ρ).bnd _ = _; rw [e]; show (f ρ).bnd _ = _; rw [e2]; exact e3, q⟩
theorem sq_nx {f g : Ev → Rs Out} {ρ ρ' : Ev} (h : f ρ = .ok (.nx ρ')) : sq f g ρ = g ρ' := by show (f ρ).bnd _ = _; rw [h]; rfl
theorem sq_rt {f g : Ev → Rs Out} {ρ : Ev} {d : PyData} (h : f ρ = .ok (.rt d)) : sq f g ρ = .ok (.rt d) := by show (f ρ).bnd _ = _; rw [h]; rfl
theorem sSet_of {i : Nat} {f : Ev → Rs PyData} {ρ : Ev} {d : PyData} (h : f ρ = .ok d) : sSet i f ρ = .ok (.nx (ρ.set i (some (.pub d)))) := by show (f ρ).bnd _ = _; rw [h]; rfl
theorem sOwn_of {i : Nat} {f : Ev → Rs (List PyData)} {ρ : Ev} {d : List PyData} (h : f ρ = .ok d) : sOwn i f ρ = .ok (.nx (ρ.set i (some (.own d)))) := by show (f ρ).bnd _ = _; rw [h]; rfl
theorem sFor_of {it : Ev → Rs (List PyData)} {t : Tg} {f : Ev → Rs Out} {ρ : Ev} {ds : List PyData} {o : Rs Out} (h : it ρ = .ok ds) (h' : forL t f ds ρ = o) : sFor it t f ρ = o := by show (it ρ).bnd _ = _; rw [h]; exact h'
theorem sRet_of {f : Ev → Rs PyData} {ρ : Ev} {d : PyData} (h : f ρ = .ok d) : sRet f ρ = .ok (.rt d) := by show (f ρ).bnd _ = _; rw [h]; rfl
theorem argX_of {G : List PyData → Rs PyData} {g : Ev → Rs (List PyData)} {ρ : Ev} {d : PyData} (h : apC G g ρ = .ok d) : argX G g ρ = .ok d := by
  obtain ⟨a, ea, e⟩ := Rs.bnd_eq h
  unfold argX; rw [ea]; exact e
theorem argX_ex {G : List PyData → Rs PyData} {g : Ev → Rs (List PyData)} {ρ : Ev} {ds : List PyData} {c : Nat} {fs : List PyData} (h : g ρ = .ok ds) (e : G ds = .ex c fs) : argX G g ρ = .ex c fs := by
  unfold argX; rw [h]; exact e
theorem sDoX_of {G : List PyData → Rs PyData} {g : Ev → Rs (List PyData)} {ρ : Ev} {d : PyData} (h : apC G g ρ = .ok d) : sDoX (argX G g) ρ = .ok (.nx ρ) := by
  unfold sDoX; rw [argX_of h]; rfl
theorem sDoX_ex {G : List PyData → Rs PyData} {g : Ev → Rs (List PyData)} {ρ : Ev} {ds : List PyData} {c : Nat} {fs : List PyData} (h : g ρ = .ok ds) (e : G ds = .ex c fs) : sDoX (argX G g) ρ = .ok (.xc ρ c fs) := by
  unfold sDoX; rw [argX_ex h e]; rfl
theorem sSetX_of {i : Nat} {G : List PyData → Rs PyData} {g : Ev → Rs (List PyData)} {ρ : Ev} {d : PyData} (h : apC G g ρ = .ok d) : sSetX i (argX G g) ρ = .ok (.nx (ρ.set i (some (.pub d)))) := by
  unfold sSetX; rw [argX_of h]; rfl
theorem sRetX_of {G : List PyData → Rs PyData} {g : Ev → Rs (List PyData)} {ρ : Ev} {d : PyData} (h : apC G g ρ = .ok d) : sRetX (argX G g) ρ = .ok (.rt d) := by
  unfold sRetX; rw [argX_of h]; rfl
theorem sSetX_ex {i : Nat} {G : List PyData → Rs PyData} {g : Ev → Rs (List PyData)} {ρ : Ev} {ds : List PyData} {c : Nat} {fs : List PyData} (h : g ρ = .ok ds) (e : G ds = .ex c fs) : sSetX i (argX G g) ρ = .ok (.xc ρ c fs) := by
  unfold sSetX; rw [argX_ex h e]; rfl
theorem sRetX_ex {G : List PyData → Rs PyData} {g : Ev → Rs (List PyData)} {ρ : Ev} {ds : List PyData} {c : Nat} {fs : List PyData} (h : g ρ = .ok ds) (e : G ds = .ex c fs) : sRetX (argX G g) ρ = .ok (.xc ρ c fs) := by
  unfold sRetX; rw [argX_ex h e]; rfl
theorem sq_xc {f g : Ev → Rs Out} {ρ ρ' : Ev} {c : Nat} {fs : List PyData} (h : f ρ = .ok (.xc ρ' c fs)) : sq f g ρ = .ok (.xc ρ' c fs) := by show (f ρ).bnd _ = _; rw [h]; rfl
theorem run_xc {n : Nat} {b : Ev → Rs Out} {ds : List PyData} {ρ : Ev} {c : Nat} {fs : List PyData} (h : b (startE n ds) = .ok (.xc ρ c fs)) : run n b ds = .ex c fs := by unfold run; rw [h]
theorem run_nx {n : Nat} {b : Ev → Rs Out} {ds : List PyData} {ρ : Ev} (h : b (startE n ds) = .ok (.nx ρ)) : run n b ds = .ok .none := by unfold run; rw [h]
theorem run_rn {n : Nat} {b : Ev → Rs Out} {ds es : List PyData} (h : b (startE n ds) = .ok (.rn es)) : run n b ds = .ok (.list es) ∧ runN n b ds = .ok es := by unfold run runN; rw [h]; exact ⟨rfl, rfl⟩
theorem run_rt {n : Nat} {b : Ev → Rs Out} {ds : List PyData} {d : PyData} (h : b (startE n ds) = .ok (.rt d)) : run n b ds = .ok d := by unfold run; rw [h]
theorem lst_of {f : Ev → Rs (List PyData)} {ρ : Ev} {ds : List PyData} (h : f ρ = .ok ds) : lst f ρ = .ok (.list ds) := by show (f ρ).bnd _ = _; rw [h]; rfl
theorem comp_of {it : Ev → Rs (List PyData)} {t : Tg} {own : List Nat} {cond : Ev → Rs Bool} {elt : Ev → Rs PyData} {ρ : Ev} {ds : List PyData} {r : Rs (List PyData)} (h : it ρ = .ok ds) (h' : compL t cond elt (wipeE ρ own) ds = r) : comp it t own cond elt ρ = r := by show (it ρ).bnd _ = _; rw [h]; exact h'
theorem addD_i (i j : Int) : addD (.int i) (.int j) = .ok (.int (i + j)) := rfl
theorem addD_t {xs ys : List PyData} (h : xs.length + ys.length ≤ sizeLine) : addD (.tuple xs) (.tuple ys) = .ok (.tuple (xs ++ ys)) := if_pos h
theorem addD_l {xs ys : List PyData} (h : xs.length + ys.length ≤ sizeLine) : addD (.list xs) (.list ys) = .ok (.list (xs ++ ys)) := if_pos h
theorem subD_i (i j : Int) : subD (.int i) (.int j) = .ok (.int (i - j)) := rfl
theorem modD_i {i j : Int} (h : 0 < j) : modD (.int i) (.int j) = .ok (.int (i % j)) := if_pos h
theorem divD_i {i j : Int} (h : 0 < j) (h' : j < 1073741824) : divD (.int i) (.int j) = .ok (.int (i / j)) := if_pos ⟨h, h'⟩
theorem mulN_i {i j : Int} (h : mulOk i j = true) : mulN (.int i) (.int j) = .ok (.int (i * j)) := if_pos h
theorem mulOk_l {a b : Int} (h : -18446744073709551616 < a) (h' : a < 18446744073709551616) : mulOk a b = true := by unfold mulOk; exact decide_eq_true (.inl ⟨by simpa using h, by simpa using h'⟩)
theorem mulOk_r {a b : Int} (h : -18446744073709551616 < b) (h' : b < 18446744073709551616) : mulOk a b = true := by unfold mulOk; exact decide_eq_true (.inr ⟨by simpa using h, by simpa using h'⟩)
theorem powD_i {i j : Int} (h : 0 ≤ j) (h1 : j ≤ 1000000) (h2 : i.natAbs < 18446744073709551616) : powD (.int i) (.int j) = .ok (.int (i ^ j.toNat)) := if_pos ⟨h, h1, by simpa using h2⟩
theorem ltD_i (i j : Int) : ltD (.int i) (.int j) = .ok (.bool (decide (i < j))) := rfl
theorem leD_i (i j : Int) : leD (.int i) (.int j) = .ok (.bool (decide (i ≤ j))) := rfl
theorem gtD_i (i j : Int) : gtD (.int i) (.int j) = .ok (.bool (decide (j < i))) := rfl
theorem geD_i (i j : Int) : geD (.int i) (.int j) = .ok (.bool (decide (j ≤ i))) := rfl
theorem ixD_l {ds : List PyData} {i : Int} {d : PyData} (h : L2.atI ds i = some d) : ixD (.list ds) (.int i) = .ok d := by show (match L2.atI ds i with | some d => Rs.ok d | none => Rs.no) = _; rw [h]
theorem ixD_t {ds : List PyData} {i : Int} {d : PyData} (h : L2.atI ds i = some d) : ixD (.tuple ds) (.int i) = .ok d := by show (match L2.atI ds i with | some d => Rs.ok d | none => Rs.no) = _; rw [h]
theorem lenD_l (ds : List PyData) : lenD [.list ds] = .ok (.int ds.length) := rfl
theorem lenD_t (ds : List PyData) : lenD [.tuple ds] = .ok (.int ds.length) := rfl
theorem intD_i (i : Int) : intD [.int i] = .ok (.int i) := rfl
theorem maxD_i (i j : Int) : maxD [.int i, .int j] = .ok (.int (if j > i then j else i)) := rfl
theorem minD_i (i j : Int) : minD [.int i, .int j] = .ok (.int (if j < i then j else i)) := rfl
theorem isB_b (b : Bool) : isB (.bool b) = .ok b := rfl
theorem truD_b (b : Bool) : truD (.bool b) = .ok b := rfl
theorem asI_i (i : Int) : asI (.int i) = .ok i := rfl
theorem seqOf_l (ds : List PyData) : seqOf (.list ds) = .ok ds := rfl
theorem seqOf_t (ds : List PyData) : seqOf (.tuple ds) = .ok ds := rfl
theorem rng1_i {j : Int} (h : j ≤ 16777216) (h' : -4611686018427387904 ≤ j) : rng1 [.int j] = .ok (rangeL 0 j.toNat) := if_pos ⟨by rw [rgMax_eq]; exact h, by simpa using h'⟩
theorem rng2_i {i j : Int} (h1 : -2305843009213693952 ≤ i) (h2 : i < 2305843009213693952) (h3 : -2305843009213693952 ≤ j) (h4 : j < 2305843009213693952) (h5 : j - i ≤ 16777216) : rng2 [.int i, .int j] = .ok (rangeL i (j - i).toNat) := if_pos ⟨by simpa using h1, by simpa using h2, by simpa using h3, by simpa using h4, by rw [rgMax_eq]; exact h5⟩
end PL


namespace M
open PySem PL

/-! law_cell_at: 0=script 1=k -/
def b_law_cell_at : Ev → Rs Out := (sq (sIf (tB' (ap2 ltD (vr 1) (apC lenD (aC (vr 0) aN)))) (sq (sRet (apC intD (aC (ap2 ixD (vr 0) (vr 1)) aN))) sNil) sNil) (sq (sIf (tB' (ap2 gtD (apC lenD (aC (vr 0) aN)) (cn (.int (0))))) (sq (sRet (ap2 addD (ap2 addD (ap2 mulN (ap2 modD (apC intD (aC (ap2 ixD (vr 0) (cn (.int (0)))) aN)) (cn (.int (1000003)))) (cn (.int (31)))) (ap2 mulN (cn (.int (7919))) (vr 1))) (cn (.int (3))))) sNil) sNil) (sq (sRet (ap2 addD (ap2 mulN (cn (.int (7919))) (vr 1)) (cn (.int (5))))) sNil)))
def G_law_cell_at : List PyData → Rs PyData := run 2 b_law_cell_at
/-! law_high: 0=k 1=line -/
def b_law_high : Ev → Rs Out := (sq (sIf (tB' (ap2 eqD (vr 0) (cn (.int (12))))) (sq (sRaise 13) sNil) sNil) (sq (sIf (tB' (ap2 eqD (vr 0) (cn (.int (13))))) (sq (sRaise 14) sNil) sNil) (sq (sIf (tB' (ap2 eqD (vr 0) (cn (.int (14))))) (sq (sRaise 15) sNil) sNil) (sq (sIf (tB' (ap2 eqD (vr 0) (cn (.int (15))))) (sq (sRaise 16) sNil) sNil) (sq (sIf (tB' (ap2 eqD (vr 0) (cn (.int (16))))) (sq (sRaise 17) sNil) sNil) (sq (sIf (tB' (ap2 eqD (vr 0) (cn (.int (17))))) (sq (sRaise 18) sNil) sNil) (sq (sIf (tB' (ap2 eqD (vr 0) (cn (.int (18))))) (sq (sRaiseI 19 (vr 1)) sNil) sNil) (sq (sIf (tB' (ap2 eqD (vr 0) (cn (.int (19))))) (sq (sRaise 20) sNil) sNil) (sq (sIf (tB' (ap2 eqD (vr 0) (cn (.int (20))))) (sq (sRaise 21) sNil) sNil) (sq (sIf (tB' (ap2 eqD (vr 0) (cn (.int (21))))) (sq (sRaise 22) sNil) sNil) (sq (sIf (tB' (ap2 eqD (vr 0) (cn (.int (22))))) (sq (sRaise 23) sNil) sNil) (sq (sRaise 24) sNil))))))))))))
def G_law_high : List PyData → Rs PyData := run 2 b_law_high
/-! law_low: 0=k 1=place -/
def b_law_low : Ev → Rs Out := (sq (sIf (tB' (ap2 eqD (vr 0) (cn (.int (0))))) (sq (sRaise 1) sNil) sNil) (sq (sIf (tB' (ap2 eqD (vr 0) (cn (.int (1))))) (sq (sRaise 2) sNil) sNil) (sq (sIf (tB' (ap2 eqD (vr 0) (cn (.int (2))))) (sq (sRaise 3) sNil) sNil) (sq (sIf (tB' (ap2 eqD (vr 0) (cn (.int (3))))) (sq (sRaise 4) sNil) sNil) (sq (sIf (tB' (ap2 eqD (vr 0) (cn (.int (4))))) (sq (sRaise 5) sNil) sNil) (sq (sIf (tB' (ap2 eqD (vr 0) (cn (.int (5))))) (sq (sRaise 6) sNil) sNil) (sq (sIf (tB' (ap2 eqD (vr 0) (cn (.int (6))))) (sq (sRaiseI 7 (vr 1)) sNil) sNil) (sq (sIf (tB' (ap2 eqD (vr 0) (cn (.int (7))))) (sq (sRaise 8) sNil) sNil) (sq (sIf (tB' (ap2 eqD (vr 0) (cn (.int (8))))) (sq (sRaise 9) sNil) sNil) (sq (sIf (tB' (ap2 eqD (vr 0) (cn (.int (9))))) (sq (sRaise 10) sNil) sNil) (sq (sIf (tB' (ap2 eqD (vr 0) (cn (.int (10))))) (sq (sRaise 11) sNil) sNil) (sq (sRaise 12) sNil))))))))))))
def G_law_low : List PyData → Rs PyData := run 2 b_law_low
/-! law_kinds: 0=k 1=place 2=line 3=kinds_here 4=e -/
def b_law_kinds : Ev → Rs Out := (sq (sSet 3 (lst aN)) (sq (sTryAs 4 (List.lookup · [(1, true), (2, true), (3, true), (4, true), (5, true), (6, true), (7, true), (8, true), (9, true), (10, true), (11, true), (12, true), (13, true), (14, true), (15, true), (16, true), (17, true), (18, true), (19, true), (20, true), (21, true), (22, true), (23, true), (24, true)]) (sq (sIf (tB' (ap2 ltD (vr 0) (cn (.int (12))))) (sq (sDoX (argX G_law_low (aC (vr 0) (aC (vr 1) aN)))) sNil) (sq (sDoX (argX G_law_high (aC (vr 0) (aC (vr 2) aN)))) sNil)) sNil) (fun xc fs => (sq (sSet 3 (lst (aC (isX 4 [(1, true), (2, false), (3, false), (4, false), (5, false), (6, false), (7, false), (8, false), (9, false), (10, false), (11, false), (12, false), (13, false), (14, false), (15, false), (16, false), (17, false), (18, false), (19, false), (20, false), (21, false), (22, false), (23, false), (24, false)] xc) (aC (isX 4 [(1, false), (2, true), (3, false), (4, false), (5, false), (6, false), (7, false), (8, false), (9, false), (10, false), (11, false), (12, false), (13, false), (14, false), (15, false), (16, false), (17, false), (18, false), (19, false), (20, false), (21, false), (22, false), (23, false), (24, false)] xc) (aC (isX 4 [(1, false), (2, false), (3, true), (4, false), (5, false), (6, false), (7, false), (8, false), (9, false), (10, false), (11, false), (12, false), (13, false), (14, false), (15, false), (16, false), (17, false), (18, false), (19, false), (20, false), (21, false), (22, false), (23, false), (24, false)] xc) (aC (isX 4 [(1, false), (2, false), (3, false), (4, true), (5, false), (6, false), (7, false), (8, false), (9, false), (10, false), (11, false), (12, false), (13, false), (14, false), (15, false), (16, false), (17, false), (18, false), (19, false), (20, false), (21, false), (22, false), (23, false), (24, false)] xc) aN)))))) (sq (sSet 3 (ap2 addD (vr 3) (lst (aC (isX 4 [(1, false), (2, false), (3, false), (4, false), (5, true), (6, false), (7, false), (8, false), (9, false), (10, false), (11, false), (12, false), (13, false), (14, false), (15, false), (16, false), (17, false), (18, false), (19, false), (20, false), (21, false), (22, false), (23, false), (24, false)] xc) (aC (isX 4 [(1, false), (2, false), (3, false), (4, false), (5, false), (6, true), (7, false), (8, false), (9, false), (10, false), (11, false), (12, false), (13, false), (14, false), (15, false), (16, false), (17, false), (18, false), (19, false), (20, false), (21, false), (22, false), (23, false), (24, false)] xc) (aC (isX 4 [(1, false), (2, false), (3, false), (4, false), (5, false), (6, false), (7, true), (8, false), (9, false), (10, false), (11, false), (12, false), (13, false), (14, false), (15, false), (16, false), (17, false), (18, false), (19, false), (20, false), (21, false), (22, false), (23, false), (24, false)] xc) aN)))))) (sq (sSet 3 (ap2 addD (vr 3) (lst (aC (isX 4 [(1, false), (2, false), (3, false), (4, false), (5, false), (6, false), (7, false), (8, true), (9, false), (10, false), (11, false), (12, false), (13, false), (14, false), (15, false), (16, false), (17, false), (18, false), (19, false), (20, false), (21, false), (22, false), (23, false), (24, false)] xc) (aC (isX 4 [(1, false), (2, false), (3, false), (4, false), (5, false), (6, false), (7, false), (8, false), (9, true), (10, false), (11, false), (12, false), (13, false), (14, false), (15, false), (16, false), (17, false), (18, false), (19, false), (20, false), (21, false), (22, false), (23, false), (24, false)] xc) (aC (isX 4 [(1, false), (2, false), (3, false), (4, false), (5, false), (6, false), (7, false), (8, false), (9, false), (10, true), (11, false), (12, false), (13, false), (14, false), (15, false), (16, false), (17, false), (18, false), (19, false), (20, false), (21, false), (22, false), (23, false), (24, false)] xc) aN)))))) (sq (sSet 3 (ap2 addD (vr 3) (lst (aC (isX 4 [(1, false), (2, false), (3, false), (4, false), (5, false), (6, false), (7, false), (8, false), (9, false), (10, false), (11, true), (12, false), (13, false), (14, false), (15, false), (16, false), (17, false), (18, false), (19, false), (20, false), (21, false), (22, false), (23, false), (24, false)] xc) (aC (isX 4 [(1, false), (2, false), (3, false), (4, false), (5, false), (6, false), (7, false), (8, false), (9, false), (10, false), (11, false), (12, true), (13, false), (14, false), (15, false), (16, false), (17, false), (18, false), (19, false), (20, false), (21, false), (22, false), (23, false), (24, false)] xc) (aC (isX 4 [(1, false), (2, false), (3, false), (4, false), (5, false), (6, false), (7, false), (8, false), (9, false), (10, false), (11, false), (12, false), (13, true), (14, false), (15, false), (16, false), (17, false), (18, false), (19, false), (20, false), (21, false), (22, false), (23, false), (24, false)] xc) aN)))))) (sq (sSet 3 (ap2 addD (vr 3) (lst (aC (isX 4 [(1, false), (2, false), (3, false), (4, false), (5, false), (6, false), (7, false), (8, false), (9, false), (10, false), (11, false), (12, false), (13, false), (14, true), (15, false), (16, false), (17, false), (18, false), (19, false), (20, false), (21, false), (22, false), (23, false), (24, false)] xc) (aC (isX 4 [(1, false), (2, false), (3, false), (4, false), (5, false), (6, false), (7, false), (8, false), (9, false), (10, false), (11, false), (12, false), (13, false), (14, false), (15, true), (16, false), (17, false), (18, false), (19, false), (20, false), (21, false), (22, false), (23, false), (24, false)] xc) (aC (isX 4 [(1, false), (2, false), (3, false), (4, false), (5, false), (6, false), (7, false), (8, false), (9, false), (10, false), (11, false), (12, false), (13, false), (14, false), (15, false), (16, true), (17, false), (18, false), (19, false), (20, false), (21, false), (22, false), (23, false), (24, false)] xc) aN)))))) (sq (sSet 3 (ap2 addD (vr 3) (lst (aC (isX 4 [(1, false), (2, false), (3, false), (4, false), (5, false), (6, false), (7, false), (8, false), (9, false), (10, false), (11, false), (12, false), (13, false), (14, false), (15, false), (16, false), (17, true), (18, false), (19, false), (20, false), (21, false), (22, false), (23, false), (24, false)] xc) (aC (isX 4 [(1, false), (2, false), (3, false), (4, false), (5, false), (6, false), (7, false), (8, false), (9, false), (10, false), (11, false), (12, false), (13, false), (14, false), (15, false), (16, false), (17, false), (18, true), (19, false), (20, false), (21, false), (22, false), (23, false), (24, false)] xc) (aC (isX 4 [(1, false), (2, false), (3, false), (4, false), (5, false), (6, false), (7, false), (8, false), (9, false), (10, false), (11, false), (12, false), (13, false), (14, false), (15, false), (16, false), (17, false), (18, false), (19, true), (20, false), (21, false), (22, false), (23, false), (24, false)] xc) aN)))))) (sq (sSet 3 (ap2 addD (vr 3) (lst (aC (isX 4 [(1, false), (2, false), (3, false), (4, false), (5, false), (6, false), (7, false), (8, false), (9, false), (10, false), (11, false), (12, false), (13, false), (14, false), (15, false), (16, false), (17, false), (18, false), (19, false), (20, true), (21, false), (22, false), (23, false), (24, false)] xc) (aC (isX 4 [(1, false), (2, false), (3, false), (4, false), (5, false), (6, false), (7, false), (8, false), (9, false), (10, false), (11, false), (12, false), (13, false), (14, false), (15, false), (16, false), (17, false), (18, false), (19, false), (20, false), (21, true), (22, false), (23, false), (24, false)] xc) (aC (isX 4 [(1, false), (2, false), (3, false), (4, false), (5, false), (6, false), (7, false), (8, false), (9, false), (10, false), (11, false), (12, false), (13, false), (14, false), (15, false), (16, false), (17, false), (18, false), (19, false), (20, false), (21, false), (22, true), (23, false), (24, false)] xc) aN)))))) (sq (sSet 3 (ap2 addD (vr 3) (lst (aC (isX 4 [(1, false), (2, false), (3, false), (4, false), (5, false), (6, false), (7, false), (8, false), (9, false), (10, false), (11, false), (12, false), (13, false), (14, false), (15, false), (16, false), (17, false), (18, false), (19, false), (20, false), (21, false), (22, false), (23, true), (24, false)] xc) (aC (isX 4 [(1, false), (2, false), (3, false), (4, false), (5, false), (6, false), (7, false), (8, false), (9, false), (10, false), (11, false), (12, false), (13, false), (14, false), (15, false), (16, false), (17, false), (18, false), (19, false), (20, false), (21, false), (22, false), (23, false), (24, true)] xc) (aC (isX 4 [(1, true), (2, true), (3, true), (4, true), (5, true), (6, true), (7, true), (8, true), (9, true), (10, true), (11, true), (12, true), (13, true), (14, true), (15, true), (16, true), (17, true), (18, true), (19, true), (20, true), (21, true), (22, true), (23, true), (24, true)] xc) aN)))))) sNil)))))))))) (sq (sRet (vr 3)) sNil)))
def G_law_kinds : List PyData → Rs PyData := run 5 b_law_kinds
/-! law: 0=script 1=place 2=line 3=k 4=caught 5=e 6=found 7=other -/
def law_e1 : Ev → Rs PyData := (ap2 eqD (vr 7) (vr 3))
def law_f2 : Ev → Rs Out := (sq (sIf (tB' (ap2 neD (apC G_law_kinds (aC (vr 3) (aC (vr 1) (aC (vr 2) aN)))) (ap2 addD (lst (comp (apN rng1 (aC (cn (.int (24))) aN)) (.one 7) [7] noIf law_e1)) (lst (aC (cn (.bool true)) aN))))) (sq (sRet (cn (.bool false))) sNil) sNil) sNil)
def b_law : Ev → Rs Out := (sq (sSet 1 (ap2 subD (ap2 modD (apC G_law_cell_at (aC (vr 0) (aC (cn (.int (0))) aN))) (cn (.int (62)))) (cn (.int (1))))) (sq (sSet 2 (ap2 modD (apC G_law_cell_at (aC (vr 0) (aC (cn (.int (1))) aN))) (ap2 powD (cn (.int (10))) (cn (.int (60)))))) (sq (sFor (apN rng1 (aC (cn (.int (24))) aN)) (.one 3) law_f2) (sq (sSet 4 (ap1 negD (cn (.int (2))))) (sq (sTryAs 5 (List.lookup · [(1, false), (2, false), (3, false), (4, false), (5, false), (6, false), (7, true), (8, false), (9, false), (10, false), (11, false), (12, false), (13, false), (14, false), (15, false), (16, false), (17, false), (18, false), (19, false), (20, false), (21, false), (22, false), (23, false), (24, false)]) (sq (sDoX (argX G_law_low (aC (cn (.int (6))) (aC (vr 1) aN)))) sNil) (fun xc fs => (sq (sSet 4 (exF 5 [7] xc fs)) sNil))) (sq (sSet 6 (ap1 negD (cn (.int (2))))) (sq (sTryAs 5 (List.lookup · [(1, false), (2, false), (3, false), (4, false), (5, false), (6, false), (7, false), (8, false), (9, false), (10, false), (11, false), (12, false), (13, false), (14, false), (15, false), (16, false), (17, false), (18, false), (19, true), (20, false), (21, false), (22, false), (23, false), (24, false)]) (sq (sDoX (argX G_law_high (aC (cn (.int (18))) (aC (vr 2) aN)))) sNil) (fun xc fs => (sq (sSet 6 (exF 5 [19] xc fs)) sNil))) (sq (sIf (tOr' (tru (ap1 (isiD "bool") (vr 4))) (tru (ap1 (isiD "bool") (vr 6)))) (sq (sRet (cn (.bool false))) sNil) sNil) (sq (sRet (andV (ap1 (isiD "int") (vr 4)) (andV (ap2 eqD (vr 4) (vr 1)) (andV (ap1 (isiD "int") (vr 6)) (ap2 eqD (vr 6) (vr 2)))))) sNil)))))))))
def G_law : List PyData → Rs PyData := run 8 b_law
end M


namespace Q
open PySem PySem.Spec PyProof.Rows L2 PL M
def cellAt (ns : List Int) (k : Nat) : Int :=
  if h : k < ns.length then ns[k] else if h : 0 < ns.length then ns[0] % 1000003 * 31 + 7919 * k + 3 else 7919 * k + 5
theorem cell_at (ns : List Int) (k : Nat) : G_law_cell_at [.list (ns.map .int), .int k] = .ok (.int (cellAt ns k)) := by
  unfold G_law_cell_at b_law_cell_at cellAt
  by_cases h : k < ns.length
  · have e : L2.atI (List.map PyData.int ns) k = some (.int ns[k]) := by rw [PL.atI_nat]; simp [h]
    simp [PL.run, PL.startE, PL.sq, PL.sIf, PL.sRet, PL.sSet, PL.sAsg, PL.sOwn, PL.sApp, PL.sFor, PL.sDo, PL.sDoX, PL.sSetX, PL.sRetX, PL.argX, PL.lft, PL.sNil, PL.tB', PL.tru, PL.ap1, PL.ap2, PL.apC, PL.apN, PL.lst, PL.tupE, PL.vr, PL.getC, PL.aC, PL.aN, PL.cn, PL.seqE, PL.pubE, PL.tgt_one, PL.atI_nat, PL.addD_i, PL.subD_i, PL.modD_i, PL.divD_i, PL.mulN_i, PL.mulOk_l, PL.mulOk_r, PL.ltD_i, PL.leD_i, PL.gtD_i, PL.geD_i, PL.lenD_l, PL.lenD_t, PL.intD_i, PL.maxD_i, PL.minD_i, PL.isB_b, PL.truD_b, PL.asI_i, PL.seqOf_l, PL.seqOf_t, PL.rng1_i, PL.rng2_i, ixD_l e, h]
  · by_cases h0 : 0 < ns.length
    · have e : L2.atI (List.map PyData.int ns) 0 = some (.int ns[0]) := by rw [atI_zero]; simp [h0]
      simp [PL.run, PL.startE, PL.sq, PL.sIf, PL.sRet, PL.sSet, PL.sAsg, PL.sOwn, PL.sApp, PL.sFor, PL.sDo, PL.sDoX, PL.sSetX, PL.sRetX, PL.argX, PL.lft, PL.sNil, PL.tB', PL.tru, PL.ap1, PL.ap2, PL.apC, PL.apN, PL.lst, PL.tupE, PL.vr, PL.getC, PL.aC, PL.aN, PL.cn, PL.seqE, PL.pubE, PL.tgt_one, PL.atI_nat, PL.addD_i, PL.subD_i, PL.modD_i, PL.divD_i, PL.mulN_i, PL.mulOk_l, PL.mulOk_r, PL.ltD_i, PL.leD_i, PL.gtD_i, PL.geD_i, PL.lenD_l, PL.lenD_t, PL.intD_i, PL.maxD_i, PL.minD_i, PL.isB_b, PL.truD_b, PL.asI_i, PL.seqOf_l, PL.seqOf_t, PL.rng1_i, PL.rng2_i, ixD_l e, h, h0]
    · simp [PL.run, PL.startE, PL.sq, PL.sIf, PL.sRet, PL.sSet, PL.sAsg, PL.sOwn, PL.sApp, PL.sFor, PL.sDo, PL.sDoX, PL.sSetX, PL.sRetX, PL.argX, PL.lft, PL.sNil, PL.tB', PL.tru, PL.ap1, PL.ap2, PL.apC, PL.apN, PL.lst, PL.tupE, PL.vr, PL.getC, PL.aC, PL.aN, PL.cn, PL.seqE, PL.pubE, PL.tgt_one, PL.atI_nat, PL.addD_i, PL.subD_i, PL.modD_i, PL.divD_i, PL.mulN_i, PL.mulOk_l, PL.mulOk_r, PL.ltD_i, PL.leD_i, PL.gtD_i, PL.geD_i, PL.lenD_l, PL.lenD_t, PL.intD_i, PL.maxD_i, PL.minD_i, PL.isB_b, PL.truD_b, PL.asI_i, PL.seqOf_l, PL.seqOf_t, PL.rng1_i, PL.rng2_i, h, h0]
theorem eqD_i (i j : Int) : eqD (.int i) (.int j) = .ok (.bool (decide (i = j))) := by
  have : (i == j) = decide (i = j) := by by_cases h : i = j <;> simp [h]
  unfold eqD shallow
  simp [nod, PyData.depth, PyData.eqv, this]
end Q

namespace Q
open PySem PySem.Spec PyProof.Rows L2 PL M
end Q

namespace Q
open PySem PySem.Spec PyProof.Rows L2 PL M
end Q

namespace Q
open PySem PySem.Spec PyProof.Rows L2 PL M
end Q

namespace Q
open PySem PySem.Spec PyProof.Rows L2 PL M
end Q

namespace Q
open PySem PySem.Spec PyProof.Rows L2 PL M
end Q

namespace Q
open PySem PySem.Spec PyProof.Rows L2 PL M
end Q

/-! T1: typed things and their data -/
namespace Q
open PySem PySem.Spec PyProof.Rows L2 PL M
theorem ac0 {ρ : Ev} : aN ρ = .ok [] := rfl
theorem ac1 {f : Ev → Rs PyData} {g : Ev → Rs (List PyData)} {ρ : Ev} {a : PyData} {r : List PyData} (h : f ρ = .ok a) (h' : g ρ = .ok r) : aC f g ρ = .ok (a :: r) := by unfold aC; rw [h, Rs.bnd_ok, h', Rs.bnd_ok]
theorem apc2 {op : List PyData → Rs PyData} {f g : Ev → Rs PyData} {ρ : Ev} {a b : PyData} {r : Rs PyData} (h : f ρ = .ok a) (h2 : g ρ = .ok b) (e : op [a, b] = r) : apC op (aC f (aC g aN)) ρ = r := by unfold apC; rw [ac1 h (ac1 h2 ac0), Rs.bnd_ok, e]
theorem apc3 {op : List PyData → Rs PyData} {f g k : Ev → Rs PyData} {ρ : Ev} {a b c : PyData} {r : Rs PyData} (h : f ρ = .ok a) (h2 : g ρ = .ok b) (h3 : k ρ = .ok c) (e : op [a, b, c] = r) : apC op (aC f (aC g (aC k aN))) ρ = r := by unfold apC; rw [ac1 h (ac1 h2 (ac1 h3 ac0)), Rs.bnd_ok, e]
theorem apd2 {op : PyData → PyData → Rs PyData} {f g : Ev → Rs PyData} {ρ : Ev} {a b : PyData} {r : Rs PyData} (h : f ρ = .ok a) (h2 : g ρ = .ok b) (e : op a b = r) : ap2 op f g ρ = r := by unfold ap2; rw [h, Rs.bnd_ok, h2, Rs.bnd_ok, e]
theorem apn1 {op : List PyData → Rs (List PyData)} {f : Ev → Rs PyData} {ρ : Ev} {a : PyData} {r : Rs (List PyData)} (h : f ρ = .ok a) (e : op [a] = r) : apN op (aC f aN) ρ = r := by unfold apN; rw [ac1 h ac0, Rs.bnd_ok, e]
theorem tB_of {f : Ev → Rs PyData} {ρ : Ev} {b : Bool} (h : f ρ = .ok (.bool b)) : tB' f ρ = .ok b := by unfold tB'; rw [h, Rs.bnd_ok]; rfl
theorem tOr_f {f g : Ev → Rs Bool} {ρ : Ev} {b : Bool} (h : f ρ = .ok false) (h' : g ρ = .ok b) : tOr' f g ρ = .ok b := by unfold tOr'; rw [h, Rs.bnd_ok, if_neg (by simp), h']
theorem sIf_f {g : Ev → Rs Bool} {a b : Ev → Rs Out} {ρ : Ev} (h : g ρ = .ok false) : sIf g a b ρ = b ρ := by unfold sIf; rw [h, Rs.bnd_ok, if_neg (by simp)]
theorem sIf_t {g : Ev → Rs Bool} {a b : Ev → Rs Out} {ρ : Ev} (h : g ρ = .ok true) : sIf g a b ρ = a ρ := by unfold sIf; rw [h, Rs.bnd_ok, if_pos rfl]
/-! order -/
end Q

/-! T2: people and groups, entries, members -/
namespace Q
open PySem PySem.Spec PyProof.Rows L2 PL M
inductive Who where
  | p (i : Int) | g (i : Int)
  deriving DecidableEq
structure Mem where
  g : Int
  w : Who
  deriving DecidableEq
inductive Reach (ms : List Mem) (w : Who) : Int → Prop where
  | dir {g : Int} : (⟨g, w⟩ : Mem) ∈ ms → Reach ms w g
  | up {g x : Int} : Reach ms w x → (⟨g, .g x⟩ : Mem) ∈ ms → Reach ms w g
end Q

/-! T3: the program's groups_of -/
namespace Q
open PySem PySem.Spec PyProof.Rows L2 PL M
end Q

/-! T4: houses, rules and states -/
namespace Q
open PySem PySem.Spec PyProof.Rows L2 PL M
end Q

/-! T5: states -/
namespace Q
open PySem PySem.Spec PyProof.Rows L2 PL M
end Q

/-! T6: first states; the law's way to compare -/
namespace Q
open PySem PySem.Spec PyProof.Rows L2 PL M
/-! same: a thing and itself -/
mutual
def plain : PyData → Bool
  | .none => true
  | .bool _ => true
  | .int _ => true
  | .str _ => true
  | .list ds => decide (ds.length ≤ 1000) && plainAll ds
  | .tuple ds => decide (ds.length ≤ 1000) && plainAll ds
  | .dict _ => false
def plainAll : List PyData → Bool
  | [] => true
  | d :: ds => plain d && plainAll ds
end
end Q

/-! T7: ways, and who sees -/
namespace Q
open PySem PySem.Spec PyProof.Rows L2 PL M
end Q

/-! T8: who sees -/
namespace Q
open PySem PySem.Spec PyProof.Rows L2 PL M
end Q

/-! T9: what the laws reckon themselves: groups, ways -/
namespace Q
open PySem PySem.Spec PyProof.Rows L2 PL M
end Q

/-! T10: the law's own sees -/
namespace Q
open PySem PySem.Spec PyProof.Rows L2 PL M
end Q

/-! T11: deeds -/
namespace Q
open PySem PySem.Spec PyProof.Rows L2 PL M
end Q

/-! T12: what deeds do -/
namespace Q
open PySem PySem.Spec PyProof.Rows L2 PL M
end Q

/-! T13: states stay small; the law's lines -/
namespace Q
open PySem PySem.Spec PyProof.Rows L2 PL M
end Q

/-! T14: a state after a deed is a state -/
namespace Q
open PySem PySem.Spec PyProof.Rows L2 PL M
/-- reaching further -/
theorem Reach.trans {ms : List Mem} {w : Who} {x y : Int} (h : Reach ms w x) (h' : Reach ms (.g x) y) : Reach ms w y := by
  induction h' with
  | dir hm => exact .up h hm
  | up _ hm ih => exact .up ih hm
end Q

/-! T15: members put in, as the law reckons rings -/
namespace Q
open PySem PySem.Spec PyProof.Rows L2 PL M
/-- pairs of numbers -/
structure Pr where
  a : Int
  b : Int
  deriving DecidableEq
def Pr.ok (x : Pr) : Prop := (0 ≤ x.a ∧ x.a < 3) ∧ (0 ≤ x.b ∧ x.b < 3)
end Q

/-! T16: the law's own ways; what only the way tells -/
namespace Q
open PySem PySem.Spec PyProof.Rows L2 PL M
end Q

/-! T17: states filled up with entries -/
namespace Q
open PySem PySem.Spec PyProof.Rows L2 PL M
end Q

/-! T18: drawn deeds; a thing and itself -/
namespace Q
open PySem PySem.Spec PyProof.Rows L2 PL M
mutual
theorem eqv_self : ∀ d : PyData, plain d = true → PyData.eqv d d = true
  | .none, _ => by simp [PyData.eqv]
  | .bool b, _ => by simp [PyData.eqv]
  | .int i, _ => by simp [PyData.eqv]
  | .str x, _ => by simp [PyData.eqv]
  | .list ds, h => by
    rw [plain, Bool.and_eq_true] at h
    simp only [PyData.eqv]
    exact eqvAll_self ds h.2
  | .tuple ds, h => by
    rw [plain, Bool.and_eq_true] at h
    simp only [PyData.eqv]
    exact eqvAll_self ds h.2
  | .dict _, h => by rw [plain] at h; exact nomatch h
theorem eqvAll_self : ∀ ds : List PyData, plainAll ds = true → PyData.eqvAll ds ds = true
  | [], _ => by simp [PyData.eqvAll]
  | d :: r, h => by
    rw [plainAll, Bool.and_eq_true] at h
    simp only [PyData.eqvAll, eqv_self d h.1, eqvAll_self r h.2, Bool.and_self]
end
mutual
theorem nod_plain : ∀ d : PyData, plain d = true → nod d = true
  | .none, _ => rfl
  | .bool b, _ => rfl
  | .int i, _ => rfl
  | .str x, _ => rfl
  | .list ds, h => by
    rw [plain, Bool.and_eq_true] at h
    rw [nod]; exact nodAll_plain ds h.2
  | .tuple ds, h => by
    rw [plain, Bool.and_eq_true] at h
    rw [nod]; exact nodAll_plain ds h.2
  | .dict _, h => by rw [plain] at h; exact nomatch h
theorem nodAll_plain : ∀ ds : List PyData, plainAll ds = true → nodAll ds = true
  | [], _ => rfl
  | d :: r, h => by
    rw [plainAll, Bool.and_eq_true] at h
    rw [nodAll, nod_plain d h.1, nodAll_plain r h.2]; rfl
end
theorem neD_self {d : PyData} (h : plain d = true) (hd : d.depth ≤ 60) : neD d d = .ok (.bool false) := by
  unfold neD shallow
  rw [if_pos (by rw [nod_plain d h]; simp; exact hd), eqv_self d h]
  rfl
end Q

/-! T19: one deed after another at one place -/
namespace Q
open PySem PySem.Spec PyProof.Rows L2 PL M
end Q

/-! T20: chains of groups -/
namespace Q
open PySem PySem.Spec PyProof.Rows L2 PL M
end Q

/-! T21: reasons -/
namespace Q
open PySem PySem.Spec PyProof.Rows L2 PL M
end Q

/-! T22: reasons told, and the law's own look at them -/
namespace Q
open PySem PySem.Spec PyProof.Rows L2 PL M
end Q

/-! T23: the law's own reckoning of who decides, and of chains -/
namespace Q
open PySem PySem.Spec PyProof.Rows L2 PL M
end Q

/-! T24: a reason that holds is right -/
namespace Q
open PySem PySem.Spec PyProof.Rows L2 PL M
end Q

/-! T25: reasons and smaller states -/
namespace Q
open PySem PySem.Spec PyProof.Rows L2 PL M
end Q

/-! T26: what a reason says of a smaller state -/
namespace Q
open PySem PySem.Spec PyProof.Rows L2 PL M
end Q

/-! T27: nothing told -/
namespace Q
open PySem PySem.Spec PyProof.Rows L2 PL M
end Q

/-! T28: cases -/
namespace Q
open PySem PySem.Spec PyProof.Rows L2 PL M
end Q

/-! T29: orders -/
namespace Q
open PySem PySem.Spec PyProof.Rows L2 PL M
end Q

/-! K00: the errors -/
namespace Q
open PySem PySem.Spec PyProof.Rows L2 PL M
def kinds00 (k : Nat) : List PyData := (List.range 24).map (fun o => .bool (decide (o = k))) ++ [.bool true]

theorem low_all {k : Nat} (hk : k < 12) (h6 : k ≠ 6) (p : PyData) : G_law_low [.int k, p] = .ex (k + 1) [] := by
  match k, hk, h6 with
  | 0, _, h => exact rfl
  | 1, _, h => exact rfl
  | 2, _, h => exact rfl
  | 3, _, h => exact rfl
  | 4, _, h => exact rfl
  | 5, _, h => exact rfl
  | 6, _, h => exact absurd rfl h
  | 7, _, h => exact rfl
  | 8, _, h => exact rfl
  | 9, _, h => exact rfl
  | 10, _, h => exact rfl
  | 11, _, h => exact rfl
  | n + 12, h, _ => omega
theorem high_all {k : Nat} (h0 : 12 ≤ k) (hk : k < 24) (h6 : k ≠ 18) (p : PyData) : G_law_high [.int k, p] = .ex (k + 1) [] := by
  match k, h0, hk, h6 with
  | 0, h, _, _ => omega
  | 1, h, _, _ => omega
  | 2, h, _, _ => omega
  | 3, h, _, _ => omega
  | 4, h, _, _ => omega
  | 5, h, _, _ => omega
  | 6, h, _, _ => omega
  | 7, h, _, _ => omega
  | 8, h, _, _ => omega
  | 9, h, _, _ => omega
  | 10, h, _, _ => omega
  | 11, h, _, _ => omega
  | 12, _, _, h => exact rfl
  | 13, _, _, h => exact rfl
  | 14, _, _, h => exact rfl
  | 15, _, _, h => exact rfl
  | 16, _, _, h => exact rfl
  | 17, _, _, h => exact rfl
  | 18, _, _, h => exact absurd rfl h
  | 19, _, _, h => exact rfl
  | 20, _, _, h => exact rfl
  | 21, _, _, h => exact rfl
  | 22, _, _, h => exact rfl
  | 23, _, _, h => exact rfl
  | n + 24, _, h, _ => omega
theorem low_fld (p : Int) (hp : p.natAbs.log2 < 1920) : G_law_low [.int 6, .int p] = .ex 7 [.int p] := by
  let ρ : Ev := [some (.pub (.int 6)), some (.pub (.int p))]
  unfold G_law_low b_law_low
  refine run_xc (ρ := ρ) ?_
  show sq _ _ ρ = _
  rw [sq_nx (ρ' := ρ) rfl, sq_nx (ρ' := ρ) rfl, sq_nx (ρ' := ρ) rfl, sq_nx (ρ' := ρ) rfl, sq_nx (ρ' := ρ) rfl, sq_nx (ρ' := ρ) rfl]
  refine sq_xc ?_
  rw [sIf_t rfl]
  refine sq_xc ?_
  show (if p.natAbs.log2 < 1920 then _ else _) = _
  rw [if_pos hp]
theorem high_fld (p : Int) (hp : p.natAbs.log2 < 1920) : G_law_high [.int 18, .int p] = .ex 19 [.int p] := by
  let ρ : Ev := [some (.pub (.int 18)), some (.pub (.int p))]
  unfold G_law_high b_law_high
  refine run_xc (ρ := ρ) ?_
  show sq _ _ ρ = _
  rw [sq_nx (ρ' := ρ) rfl, sq_nx (ρ' := ρ) rfl, sq_nx (ρ' := ρ) rfl, sq_nx (ρ' := ρ) rfl, sq_nx (ρ' := ρ) rfl, sq_nx (ρ' := ρ) rfl]
  refine sq_xc ?_
  rw [sIf_t rfl]
  refine sq_xc ?_
  show (if p.natAbs.log2 < 1920 then _ else _) = _
  rw [if_pos hp]
def kBody : Ev → Rs Out := (sq (sIf (tB' (ap2 ltD (vr 0) (cn (.int (12))))) (sq (sDoX (argX G_law_low (aC (vr 0) (aC (vr 1) aN)))) sNil) (sq (sDoX (argX G_law_high (aC (vr 0) (aC (vr 2) aN)))) sNil)) sNil)
theorem try_of : ∀ (k : Nat) (_ : k < 24) (p l : PyData) (fs : List PyData) (b : Ev → Rs Out), b [some (.pub (.int k)), some (.pub p), some (.pub l), some (.pub (.list [])), none] = .ok (.xc [some (.pub (.int k)), some (.pub p), some (.pub l), some (.pub (.list [])), none] (k + 1) fs) →
    sTryAs 4 (List.lookup · [(1, true), (2, true), (3, true), (4, true), (5, true), (6, true), (7, true), (8, true), (9, true), (10, true), (11, true), (12, true), (13, true), (14, true), (15, true), (16, true), (17, true), (18, true), (19, true), (20, true), (21, true), (22, true), (23, true), (24, true)]) b (fun xc fs => (sq (sSet 3 (lst (aC (isX 4 [(1, true), (2, false), (3, false), (4, false), (5, false), (6, false), (7, false), (8, false), (9, false), (10, false), (11, false), (12, false), (13, false), (14, false), (15, false), (16, false), (17, false), (18, false), (19, false), (20, false), (21, false), (22, false), (23, false), (24, false)] xc) (aC (isX 4 [(1, false), (2, true), (3, false), (4, false), (5, false), (6, false), (7, false), (8, false), (9, false), (10, false), (11, false), (12, false), (13, false), (14, false), (15, false), (16, false), (17, false), (18, false), (19, false), (20, false), (21, false), (22, false), (23, false), (24, false)] xc) (aC (isX 4 [(1, false), (2, false), (3, true), (4, false), (5, false), (6, false), (7, false), (8, false), (9, false), (10, false), (11, false), (12, false), (13, false), (14, false), (15, false), (16, false), (17, false), (18, false), (19, false), (20, false), (21, false), (22, false), (23, false), (24, false)] xc) (aC (isX 4 [(1, false), (2, false), (3, false), (4, true), (5, false), (6, false), (7, false), (8, false), (9, false), (10, false), (11, false), (12, false), (13, false), (14, false), (15, false), (16, false), (17, false), (18, false), (19, false), (20, false), (21, false), (22, false), (23, false), (24, false)] xc) aN)))))) (sq (sSet 3 (ap2 addD (vr 3) (lst (aC (isX 4 [(1, false), (2, false), (3, false), (4, false), (5, true), (6, false), (7, false), (8, false), (9, false), (10, false), (11, false), (12, false), (13, false), (14, false), (15, false), (16, false), (17, false), (18, false), (19, false), (20, false), (21, false), (22, false), (23, false), (24, false)] xc) (aC (isX 4 [(1, false), (2, false), (3, false), (4, false), (5, false), (6, true), (7, false), (8, false), (9, false), (10, false), (11, false), (12, false), (13, false), (14, false), (15, false), (16, false), (17, false), (18, false), (19, false), (20, false), (21, false), (22, false), (23, false), (24, false)] xc) (aC (isX 4 [(1, false), (2, false), (3, false), (4, false), (5, false), (6, false), (7, true), (8, false), (9, false), (10, false), (11, false), (12, false), (13, false), (14, false), (15, false), (16, false), (17, false), (18, false), (19, false), (20, false), (21, false), (22, false), (23, false), (24, false)] xc) aN)))))) (sq (sSet 3 (ap2 addD (vr 3) (lst (aC (isX 4 [(1, false), (2, false), (3, false), (4, false), (5, false), (6, false), (7, false), (8, true), (9, false), (10, false), (11, false), (12, false), (13, false), (14, false), (15, false), (16, false), (17, false), (18, false), (19, false), (20, false), (21, false), (22, false), (23, false), (24, false)] xc) (aC (isX 4 [(1, false), (2, false), (3, false), (4, false), (5, false), (6, false), (7, false), (8, false), (9, true), (10, false), (11, false), (12, false), (13, false), (14, false), (15, false), (16, false), (17, false), (18, false), (19, false), (20, false), (21, false), (22, false), (23, false), (24, false)] xc) (aC (isX 4 [(1, false), (2, false), (3, false), (4, false), (5, false), (6, false), (7, false), (8, false), (9, false), (10, true), (11, false), (12, false), (13, false), (14, false), (15, false), (16, false), (17, false), (18, false), (19, false), (20, false), (21, false), (22, false), (23, false), (24, false)] xc) aN)))))) (sq (sSet 3 (ap2 addD (vr 3) (lst (aC (isX 4 [(1, false), (2, false), (3, false), (4, false), (5, false), (6, false), (7, false), (8, false), (9, false), (10, false), (11, true), (12, false), (13, false), (14, false), (15, false), (16, false), (17, false), (18, false), (19, false), (20, false), (21, false), (22, false), (23, false), (24, false)] xc) (aC (isX 4 [(1, false), (2, false), (3, false), (4, false), (5, false), (6, false), (7, false), (8, false), (9, false), (10, false), (11, false), (12, true), (13, false), (14, false), (15, false), (16, false), (17, false), (18, false), (19, false), (20, false), (21, false), (22, false), (23, false), (24, false)] xc) (aC (isX 4 [(1, false), (2, false), (3, false), (4, false), (5, false), (6, false), (7, false), (8, false), (9, false), (10, false), (11, false), (12, false), (13, true), (14, false), (15, false), (16, false), (17, false), (18, false), (19, false), (20, false), (21, false), (22, false), (23, false), (24, false)] xc) aN)))))) (sq (sSet 3 (ap2 addD (vr 3) (lst (aC (isX 4 [(1, false), (2, false), (3, false), (4, false), (5, false), (6, false), (7, false), (8, false), (9, false), (10, false), (11, false), (12, false), (13, false), (14, true), (15, false), (16, false), (17, false), (18, false), (19, false), (20, false), (21, false), (22, false), (23, false), (24, false)] xc) (aC (isX 4 [(1, false), (2, false), (3, false), (4, false), (5, false), (6, false), (7, false), (8, false), (9, false), (10, false), (11, false), (12, false), (13, false), (14, false), (15, true), (16, false), (17, false), (18, false), (19, false), (20, false), (21, false), (22, false), (23, false), (24, false)] xc) (aC (isX 4 [(1, false), (2, false), (3, false), (4, false), (5, false), (6, false), (7, false), (8, false), (9, false), (10, false), (11, false), (12, false), (13, false), (14, false), (15, false), (16, true), (17, false), (18, false), (19, false), (20, false), (21, false), (22, false), (23, false), (24, false)] xc) aN)))))) (sq (sSet 3 (ap2 addD (vr 3) (lst (aC (isX 4 [(1, false), (2, false), (3, false), (4, false), (5, false), (6, false), (7, false), (8, false), (9, false), (10, false), (11, false), (12, false), (13, false), (14, false), (15, false), (16, false), (17, true), (18, false), (19, false), (20, false), (21, false), (22, false), (23, false), (24, false)] xc) (aC (isX 4 [(1, false), (2, false), (3, false), (4, false), (5, false), (6, false), (7, false), (8, false), (9, false), (10, false), (11, false), (12, false), (13, false), (14, false), (15, false), (16, false), (17, false), (18, true), (19, false), (20, false), (21, false), (22, false), (23, false), (24, false)] xc) (aC (isX 4 [(1, false), (2, false), (3, false), (4, false), (5, false), (6, false), (7, false), (8, false), (9, false), (10, false), (11, false), (12, false), (13, false), (14, false), (15, false), (16, false), (17, false), (18, false), (19, true), (20, false), (21, false), (22, false), (23, false), (24, false)] xc) aN)))))) (sq (sSet 3 (ap2 addD (vr 3) (lst (aC (isX 4 [(1, false), (2, false), (3, false), (4, false), (5, false), (6, false), (7, false), (8, false), (9, false), (10, false), (11, false), (12, false), (13, false), (14, false), (15, false), (16, false), (17, false), (18, false), (19, false), (20, true), (21, false), (22, false), (23, false), (24, false)] xc) (aC (isX 4 [(1, false), (2, false), (3, false), (4, false), (5, false), (6, false), (7, false), (8, false), (9, false), (10, false), (11, false), (12, false), (13, false), (14, false), (15, false), (16, false), (17, false), (18, false), (19, false), (20, false), (21, true), (22, false), (23, false), (24, false)] xc) (aC (isX 4 [(1, false), (2, false), (3, false), (4, false), (5, false), (6, false), (7, false), (8, false), (9, false), (10, false), (11, false), (12, false), (13, false), (14, false), (15, false), (16, false), (17, false), (18, false), (19, false), (20, false), (21, false), (22, true), (23, false), (24, false)] xc) aN)))))) (sq (sSet 3 (ap2 addD (vr 3) (lst (aC (isX 4 [(1, false), (2, false), (3, false), (4, false), (5, false), (6, false), (7, false), (8, false), (9, false), (10, false), (11, false), (12, false), (13, false), (14, false), (15, false), (16, false), (17, false), (18, false), (19, false), (20, false), (21, false), (22, false), (23, true), (24, false)] xc) (aC (isX 4 [(1, false), (2, false), (3, false), (4, false), (5, false), (6, false), (7, false), (8, false), (9, false), (10, false), (11, false), (12, false), (13, false), (14, false), (15, false), (16, false), (17, false), (18, false), (19, false), (20, false), (21, false), (22, false), (23, false), (24, true)] xc) (aC (isX 4 [(1, true), (2, true), (3, true), (4, true), (5, true), (6, true), (7, true), (8, true), (9, true), (10, true), (11, true), (12, true), (13, true), (14, true), (15, true), (16, true), (17, true), (18, true), (19, true), (20, true), (21, true), (22, true), (23, true), (24, true)] xc) aN)))))) sNil))))))))) [some (.pub (.int k)), some (.pub p), some (.pub l), some (.pub (.list [])), none] = .ok (.nx [some (.pub (.int k)), some (.pub p), some (.pub l), some (.pub (.list (kinds00 k))), none])
  | 0, _, p, l, fs, b, eb => by unfold sTryAs; rw [eb]; kernel_rfl
  | 1, _, p, l, fs, b, eb => by unfold sTryAs; rw [eb]; kernel_rfl
  | 2, _, p, l, fs, b, eb => by unfold sTryAs; rw [eb]; kernel_rfl
  | 3, _, p, l, fs, b, eb => by unfold sTryAs; rw [eb]; kernel_rfl
  | 4, _, p, l, fs, b, eb => by unfold sTryAs; rw [eb]; kernel_rfl
  | 5, _, p, l, fs, b, eb => by unfold sTryAs; rw [eb]; kernel_rfl
  | 6, _, p, l, fs, b, eb => by unfold sTryAs; rw [eb]; kernel_rfl
  | 7, _, p, l, fs, b, eb => by unfold sTryAs; rw [eb]; kernel_rfl
  | 8, _, p, l, fs, b, eb => by unfold sTryAs; rw [eb]; kernel_rfl
  | 9, _, p, l, fs, b, eb => by unfold sTryAs; rw [eb]; kernel_rfl
  | 10, _, p, l, fs, b, eb => by unfold sTryAs; rw [eb]; kernel_rfl
  | 11, _, p, l, fs, b, eb => by unfold sTryAs; rw [eb]; kernel_rfl
  | 12, _, p, l, fs, b, eb => by unfold sTryAs; rw [eb]; kernel_rfl
  | 13, _, p, l, fs, b, eb => by unfold sTryAs; rw [eb]; kernel_rfl
  | 14, _, p, l, fs, b, eb => by unfold sTryAs; rw [eb]; kernel_rfl
  | 15, _, p, l, fs, b, eb => by unfold sTryAs; rw [eb]; kernel_rfl
  | 16, _, p, l, fs, b, eb => by unfold sTryAs; rw [eb]; kernel_rfl
  | 17, _, p, l, fs, b, eb => by unfold sTryAs; rw [eb]; kernel_rfl
  | 18, _, p, l, fs, b, eb => by unfold sTryAs; rw [eb]; kernel_rfl
  | 19, _, p, l, fs, b, eb => by unfold sTryAs; rw [eb]; kernel_rfl
  | 20, _, p, l, fs, b, eb => by unfold sTryAs; rw [eb]; kernel_rfl
  | 21, _, p, l, fs, b, eb => by unfold sTryAs; rw [eb]; kernel_rfl
  | 22, _, p, l, fs, b, eb => by unfold sTryAs; rw [eb]; kernel_rfl
  | 23, _, p, l, fs, b, eb => by unfold sTryAs; rw [eb]; kernel_rfl
  | n + 24, h, _, _, _, _, _ => by omega
theorem kinds_of {k : Nat} (hk : k < 24) {p l : PyData} {fs : List PyData} (eb : kBody [some (.pub (.int k)), some (.pub p), some (.pub l), some (.pub (.list [])), none] = .ok (.xc [some (.pub (.int k)), some (.pub p), some (.pub l), some (.pub (.list [])), none] (k + 1) fs)) : G_law_kinds [.int k, p, l] = .ok (.list (kinds00 k)) := by
  let ρ0 : Ev := [some (.pub (.int k)), some (.pub p), some (.pub l), some (.pub (.list [])), none]
  unfold G_law_kinds b_law_kinds
  refine run_rt ?_
  show sq _ _ [some (.pub (.int k)), some (.pub p), some (.pub l), none, none] = _
  rw [sq_nx (ρ' := ρ0) rfl]
  refine (sq_nx (try_of k hk p l fs kBody eb)).trans ?_
  rfl
theorem kinds_ {k : Nat} (hk : k < 24) {p l : Int} (hp : p.natAbs.log2 < 1920) (hl : l.natAbs.log2 < 1920) : G_law_kinds [.int k, .int p, .int l] = .ok (.list (kinds00 k)) := by
  let ρ0 : Ev := [some (.pub (.int k)), some (.pub (.int p)), some (.pub (.int l)), some (.pub (.list [])), none]
  have t : tB' (ap2 ltD (vr 0) (cn (.int (12)))) ρ0 = .ok (decide ((k : Int) < 12)) := tB_of (apd2 (a := .int k) (b := .int 12) rfl rfl rfl)
  by_cases h : k < 12
  · obtain ⟨fs, e⟩ : ∃ fs, G_law_low [.int k, .int p] = .ex (k + 1) fs := by
      by_cases h6 : k = 6
      · subst h6; exact ⟨_, low_fld p hp⟩
      · exact ⟨_, low_all h h6 _⟩
    refine kinds_of hk (fs := fs) ?_
    unfold kBody
    refine sq_xc ?_
    rw [sIf_t (t.trans (by rw [decide_eq_true (by omega : (k : Int) < 12)]))]
    exact sq_xc (sDoX_ex (ds := [.int k, .int p]) rfl e)
  · obtain ⟨fs, e⟩ : ∃ fs, G_law_high [.int k, .int l] = .ex (k + 1) fs := by
      by_cases h6 : k = 18
      · subst h6; exact ⟨_, high_fld l hl⟩
      · exact ⟨_, high_all (by omega) hk h6 _⟩
    refine kinds_of hk (fs := fs) ?_
    unfold kBody
    refine sq_xc ?_
    rw [sIf_f (t.trans (by rw [decide_eq_false (by omega : ¬ (k : Int) < 12)]))]
    exact sq_xc (sDoX_ex (ds := [.int k, .int l]) rfl e)
theorem plain00 : ∀ i : Nat, i < 24 → plain (.list (kinds00 i)) = true
  | 0, _ => by decide +kernel
  | 1, _ => by decide +kernel
  | 2, _ => by decide +kernel
  | 3, _ => by decide +kernel
  | 4, _ => by decide +kernel
  | 5, _ => by decide +kernel
  | 6, _ => by decide +kernel
  | 7, _ => by decide +kernel
  | 8, _ => by decide +kernel
  | 9, _ => by decide +kernel
  | 10, _ => by decide +kernel
  | 11, _ => by decide +kernel
  | 12, _ => by decide +kernel
  | 13, _ => by decide +kernel
  | 14, _ => by decide +kernel
  | 15, _ => by decide +kernel
  | 16, _ => by decide +kernel
  | 17, _ => by decide +kernel
  | 18, _ => by decide +kernel
  | 19, _ => by decide +kernel
  | 20, _ => by decide +kernel
  | 21, _ => by decide +kernel
  | 22, _ => by decide +kernel
  | 23, _ => by decide +kernel
  | n + 24, h => by omega
theorem depth00 : ∀ i : Nat, i < 24 → PyData.depth (.list (kinds00 i)) ≤ 60
  | 0, _ => by decide +kernel
  | 1, _ => by decide +kernel
  | 2, _ => by decide +kernel
  | 3, _ => by decide +kernel
  | 4, _ => by decide +kernel
  | 5, _ => by decide +kernel
  | 6, _ => by decide +kernel
  | 7, _ => by decide +kernel
  | 8, _ => by decide +kernel
  | 9, _ => by decide +kernel
  | 10, _ => by decide +kernel
  | 11, _ => by decide +kernel
  | 12, _ => by decide +kernel
  | 13, _ => by decide +kernel
  | 14, _ => by decide +kernel
  | 15, _ => by decide +kernel
  | 16, _ => by decide +kernel
  | 17, _ => by decide +kernel
  | 18, _ => by decide +kernel
  | 19, _ => by decide +kernel
  | 20, _ => by decide +kernel
  | 21, _ => by decide +kernel
  | 22, _ => by decide +kernel
  | 23, _ => by decide +kernel
  | n + 24, h => by omega
theorem log2_lt {n k : Nat} (hk : 0 < k) (h : n < 2 ^ k) : n.log2 < k := by
  by_cases h0 : n = 0
  · subst h0; exact hk
  · exact (Nat.log2_lt h0).mpr h
theorem math (ns : List Int) (_ : ns.length ≤ 63) : G_law [.list (ns.map .int)] = .ok (.bool true) := by
  let p : Int := cellAt ns 0 % 62 - 1
  let l : Int := cellAt ns 1 % 1000000000000000000000000000000000000000000000000000000000000
  have hp : p.natAbs.log2 < 1920 := log2_lt (by decide) (Nat.lt_of_lt_of_le (show p.natAbs < 100 by omega) (by decide +kernel))
  have hl : l.natAbs.log2 < 1920 := log2_lt (by decide) (Nat.lt_of_lt_of_le (show l.natAbs < 1000000000000000000000000000000000000000000000000000000000000 by omega) (by decide +kernel))
  let S (c1 c2 c3 c4 c6 : Option PyData) : Ev := [some (.pub (.list (ns.map .int))), c1.map .pub, c2.map .pub, c3.map .pub, c4.map .pub, none, c6.map .pub, none]
  have e0 : vr 0 (S none none none none none) = .ok (.list (ns.map .int)) := rfl
  have e1 : (ap2 subD (ap2 modD (apC G_law_cell_at (aC (vr 0) (aC (cn (.int (0))) aN))) (cn (.int (62)))) (cn (.int (1)))) (S none none none none none) = .ok (.int p) :=
    apd2 (a := .int (cellAt ns 0 % 62)) (b := .int 1) (apd2 (a := .int (cellAt ns 0)) (b := .int 62) (apc2 (a := .list (ns.map .int)) (b := .int 0) rfl rfl (cell_at ns 0)) rfl (modD_i (by decide))) rfl rfl
  have e2 : (ap2 modD (apC G_law_cell_at (aC (vr 0) (aC (cn (.int (1))) aN))) (ap2 powD (cn (.int (10))) (cn (.int (60))))) (S (some (.int p)) none none none none) = .ok (.int l) :=
    apd2 (a := .int (cellAt ns 1)) (b := .int 1000000000000000000000000000000000000000000000000000000000000) (apc2 (a := .list (ns.map .int)) (b := .int 1) rfl rfl (cell_at ns 1)) (apd2 (a := .int 10) (b := .int 60) rfl rfl ((powD_i (by decide) (by decide) (by decide)).trans (by rw [show (10 : Int) ^ (60 : Int).toNat = 1000000000000000000000000000000000000000000000000000000000000 by decide +kernel]))) (modD_i (by decide))
  unfold G_law b_law
  refine run_rt ?_
  show sq _ _ (S none none none none none) = _
  refine (sq_nx (sSet_of e1)).trans ?_
  show sq _ _ (S (some (.int p)) none none none none) = _
  refine (sq_nx (sSet_of e2)).trans ?_
  show sq _ _ (S (some (.int p)) (some (.int l)) none none none) = _
  obtain ⟨ρ', eL, k, rfl⟩ := forL_range (j := 3) (n := 24) (f := law_f2) (fun _ ρ => ∃ k, ρ = S (some (.int p)) (some (.int l)) k none none) (S (some (.int p)) (some (.int l)) none none none)
    (fun i ρ hi ⟨k, e⟩ => by
      subst e
      refine ⟨S (some (.int p)) (some (.int l)) (some (.int i)) none none, ?_, _, rfl⟩
      show law_f2 (S (some (.int p)) (some (.int l)) (some (.int i)) none none) = _
      unfold law_f2
      have eR : rangeL 0 24 = (List.range 24).map fun o : Nat => PyData.int o := by unfold rangeL; exact List.map_congr_left fun o _ => by simp
      have ec : comp (apN rng1 (aC (cn (.int (24))) aN)) (.one 7) [7] noIf law_e1 (S (some (.int p)) (some (.int l)) (some (.int i)) none none) = .ok ((List.range 24).map (fun o => .bool (decide (o = i)))) := by
        refine comp_of (ds := rangeL 0 24) (apn1 (a := .int 24) rfl (rng1_i (by decide) (by decide))) ?_
        rw [eR]
        refine compL_map (to := fun o : Nat => [some (.pub (.list (ns.map .int))), some (.pub (.int p)), some (.pub (.int l)), some (.pub (.int i)), none, none, none, some (.pub (.int o))]) _ fun o _ => ⟨rfl, ?_⟩
        refine apd2 (a := .int o) (b := .int i) rfl rfl ((eqD_i _ _).trans ?_)
        rw [show decide ((o : Int) = (i : Int)) = decide (o = i) by simp; omega]
      have ea : (ap2 addD (lst (comp (apN rng1 (aC (cn (.int (24))) aN)) (.one 7) [7] noIf law_e1)) (lst (aC (cn (.bool true)) aN))) (S (some (.int p)) (some (.int l)) (some (.int i)) none none) = .ok (.list (kinds00 i)) :=
        apd2 (a := .list ((List.range 24).map (fun o => .bool (decide (o = i))))) (b := .list [.bool true]) (lst_of ec) rfl (addD_l (by rw [sizeLine_eq]; simp))
      have ek : (apC G_law_kinds (aC (vr 3) (aC (vr 1) (aC (vr 2) aN)))) (S (some (.int p)) (some (.int l)) (some (.int i)) none none) = .ok (.list (kinds00 i)) := apc3 (a := .int i) (b := .int p) (c := .int l) rfl rfl rfl (kinds_ hi hp hl)
      have pl := plain00 i hi
      have dp := depth00 i hi
      rw [sq_nx (ρ' := S (some (.int p)) (some (.int l)) (some (.int i)) none none) (by rw [sIf_f (tB_of (apd2 ek ea (neD_self pl dp)))]; rfl)]
      rfl) ⟨none, rfl⟩
  refine (sq_nx (sFor_of (apn1 (a := .int 24) rfl (rng1_i (by decide) (by decide))) eL)).trans ?_
  refine (sq_nx (sSet_of (d := .int (-2)) rfl)).trans ?_
  show sq _ _ (S (some (.int p)) (some (.int l)) k (some (.int (-2))) none) = _
  have ec : (sq (sDoX (argX G_law_low (aC (cn (.int (6))) (aC (vr 1) aN)))) sNil) (S (some (.int p)) (some (.int l)) k (some (.int (-2))) none) = .ok (.xc (S (some (.int p)) (some (.int l)) k (some (.int (-2))) none) 7 [.int p]) := sq_xc (sDoX_ex (ds := [.int 6, .int p]) rfl (low_fld p hp))
  have hk : ∀ (x y : Option PyData) , (S (some (.int p)) (some (.int l)) k x y).length = 8 := fun _ _ => rfl
  rw [sq_nx (ρ' := S (some (.int p)) (some (.int l)) k (some (.int p)) none) (by unfold sTryAs; rw [ec]; cases k <;> rfl)]
  refine (sq_nx (sSet_of (d := .int (-2)) rfl)).trans ?_
  show sq _ _ (S (some (.int p)) (some (.int l)) k (some (.int p)) (some (.int (-2)))) = _
  have ec2 : (sq (sDoX (argX G_law_high (aC (cn (.int (18))) (aC (vr 2) aN)))) sNil) (S (some (.int p)) (some (.int l)) k (some (.int p)) (some (.int (-2)))) = .ok (.xc (S (some (.int p)) (some (.int l)) k (some (.int p)) (some (.int (-2)))) 19 [.int l]) := sq_xc (sDoX_ex (ds := [.int 18, .int l]) rfl (high_fld l hl))
  rw [sq_nx (ρ' := S (some (.int p)) (some (.int l)) k (some (.int p)) (some (.int l))) (by unfold sTryAs; rw [ec2]; cases k <;> rfl)]
  rw [sq_nx (ρ' := S (some (.int p)) (some (.int l)) k (some (.int p)) (some (.int l))) (by rw [sIf_f (tOr_f (b := false) rfl rfl)]; rfl)]
  have q1 : (ap2 eqD (vr 4) (vr 1)) (S (some (.int p)) (some (.int l)) k (some (.int p)) (some (.int l))) = .ok (.bool true) := apd2 (a := .int p) (b := .int p) rfl rfl ((eqD_i _ _).trans (by simp))
  have q2 : (ap2 eqD (vr 6) (vr 2)) (S (some (.int p)) (some (.int l)) k (some (.int p)) (some (.int l))) = .ok (.bool true) := apd2 (a := .int l) (b := .int l) rfl rfl ((eqD_i _ _).trans (by simp))
  refine sq_rt (sRet_of ?_)
  rw [show ∀ f g : Ev → Rs PyData, ∀ ρ, f ρ = .ok (.bool true) → andV f g ρ = g ρ from fun f g ρ h => by unfold andV; rw [h]; rfl]
  · rw [show ∀ f g : Ev → Rs PyData, ∀ ρ, f ρ = .ok (.bool true) → andV f g ρ = g ρ from fun f g ρ h => by unfold andV; rw [h]; rfl]
    · rw [show ∀ f g : Ev → Rs PyData, ∀ ρ, f ρ = .ok (.bool true) → andV f g ρ = g ρ from fun f g ρ h => by unfold andV; rw [h]; rfl]
      · exact q2
      · rfl
    · exact q1
  · rfl
end Q


namespace A
open PySem PySem.Spec PyProof.Rows L2 PL M

def clsS : Stmt → Nat → Stmt
  | .ClassDef _ _ _ body _ _ _ _ _ _ _, j => body.getD j (.Pass ⟨0, 0, 0, 0⟩)
  | _, _ => .Pass ⟨0, 0, 0, 0⟩
def topS (i : Nat) : Stmt := PySem.Challenge.pw_sawwhen_k00_whole_errors.main.body.getD i (.Pass ⟨0, 0, 0, 0⟩)
abbrev s_law_cell_at : Stmt := topS 27
abbrev scp_law_cell_at : Scope := { kind := .function, names := [(Str.ofString "_law_script", .local), (Str.ofString "_law_k", .local), (Str.ofString "len", .globalImplicit), (Str.ofString "int", .globalImplicit)], isGenerator := false, isCoroutine := false, more := [] }
abbrev nm_law_cell_at : List Str := ["_law_script", "_law_k"]
theorem sc_law_cell_at : FnScope nm_law_cell_at ["_law_script", "_law_k"] scp_law_cell_at := ⟨rfl, rfl, rfl, by decide +kernel, rfl, by decide +kernel, by decide +kernel⟩
abbrev s_law_high : Stmt := topS 30
abbrev scp_law_high : Scope := { kind := .function, names := [(Str.ofString "_law_k", .local), (Str.ofString "_law_line", .local), (Str.ofString "BadLot", .globalImplicit), (Str.ofString "TooMany", .globalImplicit), (Str.ofString "NotSure", .globalImplicit), (Str.ofString "BadEvent", .globalImplicit), (Str.ofString "BadSpread", .globalImplicit), (Str.ofString "NothingToUndo", .globalImplicit), (Str.ofString "BadText", .globalImplicit), (Str.ofString "BadCommand", .globalImplicit), (Str.ofString "NoCase", .globalImplicit), (Str.ofString "BadClaim", .globalImplicit), (Str.ofString "BadPeople", .globalImplicit), (Str.ofString "Full", .globalImplicit)], isGenerator := false, isCoroutine := false, more := [] }
abbrev nm_law_high : List Str := ["_law_k", "_law_line"]
theorem sc_law_high : FnScope nm_law_high ["_law_k", "_law_line"] scp_law_high := ⟨rfl, rfl, rfl, by decide +kernel, rfl, by decide +kernel, by decide +kernel⟩
abbrev s_law_low : Stmt := topS 29
abbrev scp_law_low : Scope := { kind := .function, names := [(Str.ofString "_law_k", .local), (Str.ofString "_law_place", .local), (Str.ofString "BadHouse", .globalImplicit), (Str.ofString "BadRule", .globalImplicit), (Str.ofString "BadState", .globalImplicit), (Str.ofString "BadPerson", .globalImplicit), (Str.ofString "BadFolder", .globalImplicit), (Str.ofString "BadDeed", .globalImplicit), (Str.ofString "BadDeeds", .globalImplicit), (Str.ofString "BadCase", .globalImplicit), (Str.ofString "BadOrder", .globalImplicit), (Str.ofString "BadLook", .globalImplicit), (Str.ofString "BadKnown", .globalImplicit), (Str.ofString "BadClash", .globalImplicit)], isGenerator := false, isCoroutine := false, more := [] }
abbrev nm_law_low : List Str := ["_law_k", "_law_place"]
theorem sc_law_low : FnScope nm_law_low ["_law_k", "_law_place"] scp_law_low := ⟨rfl, rfl, rfl, by decide +kernel, rfl, by decide +kernel, by decide +kernel⟩
abbrev s_law_kinds : Stmt := topS 31
abbrev scp_law_kinds : Scope := { kind := .function, names := [(Str.ofString "_law_k", .local), (Str.ofString "_law_place", .local), (Str.ofString "_law_line", .local), (Str.ofString "_law_kinds_here", .local), (Str.ofString "e", .local), (Str.ofString "_law_low", .globalImplicit), (Str.ofString "_law_high", .globalImplicit), (Str.ofString "SightError", .globalImplicit), (Str.ofString "isinstance", .globalImplicit), (Str.ofString "BadHouse", .globalImplicit), (Str.ofString "BadRule", .globalImplicit), (Str.ofString "BadState", .globalImplicit), (Str.ofString "BadPerson", .globalImplicit), (Str.ofString "BadFolder", .globalImplicit), (Str.ofString "BadDeed", .globalImplicit), (Str.ofString "BadDeeds", .globalImplicit), (Str.ofString "BadCase", .globalImplicit), (Str.ofString "BadOrder", .globalImplicit), (Str.ofString "BadLook", .globalImplicit), (Str.ofString "BadKnown", .globalImplicit), (Str.ofString "BadClash", .globalImplicit), (Str.ofString "BadLot", .globalImplicit), (Str.ofString "TooMany", .globalImplicit), (Str.ofString "NotSure", .globalImplicit), (Str.ofString "BadEvent", .globalImplicit), (Str.ofString "BadSpread", .globalImplicit), (Str.ofString "NothingToUndo", .globalImplicit), (Str.ofString "BadText", .globalImplicit), (Str.ofString "BadCommand", .globalImplicit), (Str.ofString "NoCase", .globalImplicit), (Str.ofString "BadClaim", .globalImplicit), (Str.ofString "BadPeople", .globalImplicit), (Str.ofString "Full", .globalImplicit), (Str.ofString "ValueError", .globalImplicit)], isGenerator := false, isCoroutine := false, more := [] }
abbrev nm_law_kinds : List Str := ["_law_k", "_law_place", "_law_line", "_law_kinds_here", "e"]
theorem sc_law_kinds : FnScope nm_law_kinds ["_law_k", "_law_place", "_law_line"] scp_law_kinds := ⟨rfl, rfl, rfl, by decide +kernel, rfl, by decide +kernel, by decide +kernel⟩
abbrev s_law : Stmt := topS 32
abbrev scp_law : Scope := { kind := .function, names := [(Str.ofString "_law_script", .local), (Str.ofString "_law_place", .local), (Str.ofString "_law_line", .local), (Str.ofString "_law_k", .cell), (Str.ofString "_law_caught", .local), (Str.ofString "e", .local), (Str.ofString "_law_found", .local), (Str.ofString "_law_cell_at", .globalImplicit), (Str.ofString "range", .globalImplicit), (Str.ofString "_law_kinds", .globalImplicit), (Str.ofString "_law_low", .globalImplicit), (Str.ofString "BadDeeds", .globalImplicit), (Str.ofString "_law_high", .globalImplicit), (Str.ofString "BadText", .globalImplicit), (Str.ofString "isinstance", .globalImplicit), (Str.ofString "bool", .globalImplicit), (Str.ofString "int", .globalImplicit)], isGenerator := false, isCoroutine := false, more := [(Str.ofString "fast", .str "_law_script"), (Str.ofString "fast", .str "_law_place"), (Str.ofString "fast", .str "_law_line"), (Str.ofString "fast", .str "_law_k"), (Str.ofString "fast", .str "_law_other"), (Str.ofString "fast", .str "_law_caught"), (Str.ofString "fast", .str "e"), (Str.ofString "fast", .str "_law_found")] }
abbrev scq_law_1 : Scope := { kind := .function, names := [(Str.ofString ".0", .local), (Str.ofString "_law_other", .local), (Str.ofString "_law_k", .free)], isGenerator := false, isCoroutine := false, more := [] }
abbrev nm_law : List Str := ["_law_script", "_law_place", "_law_line", "_law_k", "_law_caught", "e", "_law_found", "_law_other"]
theorem sc_law : FnScope nm_law ["_law_script"] scp_law := ⟨rfl, rfl, rfl, by decide +kernel, rfl, by decide +kernel, by decide +kernel⟩
abbrev s_x_BadDeeds : Stmt := clsS (topS 8) 0
abbrev s_x_BadText : Stmt := clsS (topS 20) 0
/-- what the top has left -/
structure Top (P : Program) (K : PySem.W.Frag) (mg : Str → Option Value) (w : World) where
  law_cell_at : FnI K mg "_law_cell_at" s_law_cell_at ["_law_script", "_law_k"]
  law_high : FnI K mg "_law_high" s_law_high ["_law_k", "_law_line"]
  law_low : FnI K mg "_law_low" s_law_low ["_law_k", "_law_place"]
  law_kinds : FnI K mg "_law_kinds" s_law_kinds ["_law_k", "_law_place", "_law_line"]
  law : FnI K mg "law" s_law ["_law_script"]
  z_ValueError : mg "ValueError" = none
  z_bool : mg "bool" = none
  z_int : mg "int" = none
  z_isinstance : mg "isinstance" = none
  z_len : mg "len" = none
  z_range : mg "range" = none
  x_SightError : ExcI K mg "SightError"
  x_BadHouse : ExcI K mg "BadHouse"
  x_BadRule : ExcI K mg "BadRule"
  x_BadState : ExcI K mg "BadState"
  x_BadPerson : ExcI K mg "BadPerson"
  x_BadFolder : ExcI K mg "BadFolder"
  x_BadDeed : ExcI K mg "BadDeed"
  x_BadDeeds : ExcN K mg "BadDeeds"
  x_BadCase : ExcI K mg "BadCase"
  x_BadOrder : ExcI K mg "BadOrder"
  x_BadLook : ExcI K mg "BadLook"
  x_BadKnown : ExcI K mg "BadKnown"
  x_BadClash : ExcI K mg "BadClash"
  x_BadLot : ExcI K mg "BadLot"
  x_TooMany : ExcI K mg "TooMany"
  x_NotSure : ExcI K mg "NotSure"
  x_BadEvent : ExcI K mg "BadEvent"
  x_BadSpread : ExcI K mg "BadSpread"
  x_NothingToUndo : ExcI K mg "NothingToUndo"
  x_BadText : ExcN K mg "BadText"
  x_BadCommand : ExcI K mg "BadCommand"
  x_NoCase : ExcI K mg "NoCase"
  x_BadClaim : ExcI K mg "BadClaim"
  x_BadPeople : ExcI K mg "BadPeople"
  x_Full : ExcI K mg "Full"
  xr_SightError : rowOk (exmB K (.ref x_SightError.C)) [(1, (x_BadHouse.C, none), true), (2, (x_BadRule.C, none), true), (3, (x_BadState.C, none), true), (4, (x_BadPerson.C, none), true), (5, (x_BadFolder.C, none), true), (6, (x_BadDeed.C, none), true), (7, (x_BadDeeds.C, some "place"), true), (8, (x_BadCase.C, none), true), (9, (x_BadOrder.C, none), true), (10, (x_BadLook.C, none), true), (11, (x_BadKnown.C, none), true), (12, (x_BadClash.C, none), true), (13, (x_BadLot.C, none), true), (14, (x_TooMany.C, none), true), (15, (x_NotSure.C, none), true), (16, (x_BadEvent.C, none), true), (17, (x_BadSpread.C, none), true), (18, (x_NothingToUndo.C, none), true), (19, (x_BadText.C, some "line"), true), (20, (x_BadCommand.C, none), true), (21, (x_NoCase.C, none), true), (22, (x_BadClaim.C, none), true), (23, (x_BadPeople.C, none), true), (24, (x_Full.C, none), true)] = true
  xr_BadText : rowOk (exmB K (.ref x_BadText.C)) [(1, (x_BadHouse.C, none), false), (2, (x_BadRule.C, none), false), (3, (x_BadState.C, none), false), (4, (x_BadPerson.C, none), false), (5, (x_BadFolder.C, none), false), (6, (x_BadDeed.C, none), false), (7, (x_BadDeeds.C, some "place"), false), (8, (x_BadCase.C, none), false), (9, (x_BadOrder.C, none), false), (10, (x_BadLook.C, none), false), (11, (x_BadKnown.C, none), false), (12, (x_BadClash.C, none), false), (13, (x_BadLot.C, none), false), (14, (x_TooMany.C, none), false), (15, (x_NotSure.C, none), false), (16, (x_BadEvent.C, none), false), (17, (x_BadSpread.C, none), false), (18, (x_NothingToUndo.C, none), false), (19, (x_BadText.C, some "line"), true), (20, (x_BadCommand.C, none), false), (21, (x_NoCase.C, none), false), (22, (x_BadClaim.C, none), false), (23, (x_BadPeople.C, none), false), (24, (x_Full.C, none), false)] = true
  xr_BadDeeds : rowOk (exmB K (.ref x_BadDeeds.C)) [(1, (x_BadHouse.C, none), false), (2, (x_BadRule.C, none), false), (3, (x_BadState.C, none), false), (4, (x_BadPerson.C, none), false), (5, (x_BadFolder.C, none), false), (6, (x_BadDeed.C, none), false), (7, (x_BadDeeds.C, some "place"), true), (8, (x_BadCase.C, none), false), (9, (x_BadOrder.C, none), false), (10, (x_BadLook.C, none), false), (11, (x_BadKnown.C, none), false), (12, (x_BadClash.C, none), false), (13, (x_BadLot.C, none), false), (14, (x_TooMany.C, none), false), (15, (x_NotSure.C, none), false), (16, (x_BadEvent.C, none), false), (17, (x_BadSpread.C, none), false), (18, (x_NothingToUndo.C, none), false), (19, (x_BadText.C, some "line"), false), (20, (x_BadCommand.C, none), false), (21, (x_NoCase.C, none), false), (22, (x_BadClaim.C, none), false), (23, (x_BadPeople.C, none), false), (24, (x_Full.C, none), false)] = true
  ki_ValueError : rowOk (kitB K (.type "ValueError")) [(1, (x_BadHouse.C, none), true), (2, (x_BadRule.C, none), true), (3, (x_BadState.C, none), true), (4, (x_BadPerson.C, none), true), (5, (x_BadFolder.C, none), true), (6, (x_BadDeed.C, none), true), (7, (x_BadDeeds.C, some "place"), true), (8, (x_BadCase.C, none), true), (9, (x_BadOrder.C, none), true), (10, (x_BadLook.C, none), true), (11, (x_BadKnown.C, none), true), (12, (x_BadClash.C, none), true), (13, (x_BadLot.C, none), true), (14, (x_TooMany.C, none), true), (15, (x_NotSure.C, none), true), (16, (x_BadEvent.C, none), true), (17, (x_BadSpread.C, none), true), (18, (x_NothingToUndo.C, none), true), (19, (x_BadText.C, some "line"), true), (20, (x_BadCommand.C, none), true), (21, (x_NoCase.C, none), true), (22, (x_BadClaim.C, none), true), (23, (x_BadPeople.C, none), true), (24, (x_Full.C, none), true)] = true
  ki_Full : rowOk (kitB K (.ref x_Full.C)) [(1, (x_BadHouse.C, none), false), (2, (x_BadRule.C, none), false), (3, (x_BadState.C, none), false), (4, (x_BadPerson.C, none), false), (5, (x_BadFolder.C, none), false), (6, (x_BadDeed.C, none), false), (7, (x_BadDeeds.C, some "place"), false), (8, (x_BadCase.C, none), false), (9, (x_BadOrder.C, none), false), (10, (x_BadLook.C, none), false), (11, (x_BadKnown.C, none), false), (12, (x_BadClash.C, none), false), (13, (x_BadLot.C, none), false), (14, (x_TooMany.C, none), false), (15, (x_NotSure.C, none), false), (16, (x_BadEvent.C, none), false), (17, (x_BadSpread.C, none), false), (18, (x_NothingToUndo.C, none), false), (19, (x_BadText.C, some "line"), false), (20, (x_BadCommand.C, none), false), (21, (x_NoCase.C, none), false), (22, (x_BadClaim.C, none), false), (23, (x_BadPeople.C, none), false), (24, (x_Full.C, none), true)] = true
  ki_BadPeople : rowOk (kitB K (.ref x_BadPeople.C)) [(1, (x_BadHouse.C, none), false), (2, (x_BadRule.C, none), false), (3, (x_BadState.C, none), false), (4, (x_BadPerson.C, none), false), (5, (x_BadFolder.C, none), false), (6, (x_BadDeed.C, none), false), (7, (x_BadDeeds.C, some "place"), false), (8, (x_BadCase.C, none), false), (9, (x_BadOrder.C, none), false), (10, (x_BadLook.C, none), false), (11, (x_BadKnown.C, none), false), (12, (x_BadClash.C, none), false), (13, (x_BadLot.C, none), false), (14, (x_TooMany.C, none), false), (15, (x_NotSure.C, none), false), (16, (x_BadEvent.C, none), false), (17, (x_BadSpread.C, none), false), (18, (x_NothingToUndo.C, none), false), (19, (x_BadText.C, some "line"), false), (20, (x_BadCommand.C, none), false), (21, (x_NoCase.C, none), false), (22, (x_BadClaim.C, none), false), (23, (x_BadPeople.C, none), true), (24, (x_Full.C, none), false)] = true
  ki_BadClaim : rowOk (kitB K (.ref x_BadClaim.C)) [(1, (x_BadHouse.C, none), false), (2, (x_BadRule.C, none), false), (3, (x_BadState.C, none), false), (4, (x_BadPerson.C, none), false), (5, (x_BadFolder.C, none), false), (6, (x_BadDeed.C, none), false), (7, (x_BadDeeds.C, some "place"), false), (8, (x_BadCase.C, none), false), (9, (x_BadOrder.C, none), false), (10, (x_BadLook.C, none), false), (11, (x_BadKnown.C, none), false), (12, (x_BadClash.C, none), false), (13, (x_BadLot.C, none), false), (14, (x_TooMany.C, none), false), (15, (x_NotSure.C, none), false), (16, (x_BadEvent.C, none), false), (17, (x_BadSpread.C, none), false), (18, (x_NothingToUndo.C, none), false), (19, (x_BadText.C, some "line"), false), (20, (x_BadCommand.C, none), false), (21, (x_NoCase.C, none), false), (22, (x_BadClaim.C, none), true), (23, (x_BadPeople.C, none), false), (24, (x_Full.C, none), false)] = true
  ki_NoCase : rowOk (kitB K (.ref x_NoCase.C)) [(1, (x_BadHouse.C, none), false), (2, (x_BadRule.C, none), false), (3, (x_BadState.C, none), false), (4, (x_BadPerson.C, none), false), (5, (x_BadFolder.C, none), false), (6, (x_BadDeed.C, none), false), (7, (x_BadDeeds.C, some "place"), false), (8, (x_BadCase.C, none), false), (9, (x_BadOrder.C, none), false), (10, (x_BadLook.C, none), false), (11, (x_BadKnown.C, none), false), (12, (x_BadClash.C, none), false), (13, (x_BadLot.C, none), false), (14, (x_TooMany.C, none), false), (15, (x_NotSure.C, none), false), (16, (x_BadEvent.C, none), false), (17, (x_BadSpread.C, none), false), (18, (x_NothingToUndo.C, none), false), (19, (x_BadText.C, some "line"), false), (20, (x_BadCommand.C, none), false), (21, (x_NoCase.C, none), true), (22, (x_BadClaim.C, none), false), (23, (x_BadPeople.C, none), false), (24, (x_Full.C, none), false)] = true
  ki_BadCommand : rowOk (kitB K (.ref x_BadCommand.C)) [(1, (x_BadHouse.C, none), false), (2, (x_BadRule.C, none), false), (3, (x_BadState.C, none), false), (4, (x_BadPerson.C, none), false), (5, (x_BadFolder.C, none), false), (6, (x_BadDeed.C, none), false), (7, (x_BadDeeds.C, some "place"), false), (8, (x_BadCase.C, none), false), (9, (x_BadOrder.C, none), false), (10, (x_BadLook.C, none), false), (11, (x_BadKnown.C, none), false), (12, (x_BadClash.C, none), false), (13, (x_BadLot.C, none), false), (14, (x_TooMany.C, none), false), (15, (x_NotSure.C, none), false), (16, (x_BadEvent.C, none), false), (17, (x_BadSpread.C, none), false), (18, (x_NothingToUndo.C, none), false), (19, (x_BadText.C, some "line"), false), (20, (x_BadCommand.C, none), true), (21, (x_NoCase.C, none), false), (22, (x_BadClaim.C, none), false), (23, (x_BadPeople.C, none), false), (24, (x_Full.C, none), false)] = true
  ki_BadText : rowOk (kitB K (.ref x_BadText.C)) [(1, (x_BadHouse.C, none), false), (2, (x_BadRule.C, none), false), (3, (x_BadState.C, none), false), (4, (x_BadPerson.C, none), false), (5, (x_BadFolder.C, none), false), (6, (x_BadDeed.C, none), false), (7, (x_BadDeeds.C, some "place"), false), (8, (x_BadCase.C, none), false), (9, (x_BadOrder.C, none), false), (10, (x_BadLook.C, none), false), (11, (x_BadKnown.C, none), false), (12, (x_BadClash.C, none), false), (13, (x_BadLot.C, none), false), (14, (x_TooMany.C, none), false), (15, (x_NotSure.C, none), false), (16, (x_BadEvent.C, none), false), (17, (x_BadSpread.C, none), false), (18, (x_NothingToUndo.C, none), false), (19, (x_BadText.C, some "line"), true), (20, (x_BadCommand.C, none), false), (21, (x_NoCase.C, none), false), (22, (x_BadClaim.C, none), false), (23, (x_BadPeople.C, none), false), (24, (x_Full.C, none), false)] = true
  ki_NothingToUndo : rowOk (kitB K (.ref x_NothingToUndo.C)) [(1, (x_BadHouse.C, none), false), (2, (x_BadRule.C, none), false), (3, (x_BadState.C, none), false), (4, (x_BadPerson.C, none), false), (5, (x_BadFolder.C, none), false), (6, (x_BadDeed.C, none), false), (7, (x_BadDeeds.C, some "place"), false), (8, (x_BadCase.C, none), false), (9, (x_BadOrder.C, none), false), (10, (x_BadLook.C, none), false), (11, (x_BadKnown.C, none), false), (12, (x_BadClash.C, none), false), (13, (x_BadLot.C, none), false), (14, (x_TooMany.C, none), false), (15, (x_NotSure.C, none), false), (16, (x_BadEvent.C, none), false), (17, (x_BadSpread.C, none), false), (18, (x_NothingToUndo.C, none), true), (19, (x_BadText.C, some "line"), false), (20, (x_BadCommand.C, none), false), (21, (x_NoCase.C, none), false), (22, (x_BadClaim.C, none), false), (23, (x_BadPeople.C, none), false), (24, (x_Full.C, none), false)] = true
  ki_BadSpread : rowOk (kitB K (.ref x_BadSpread.C)) [(1, (x_BadHouse.C, none), false), (2, (x_BadRule.C, none), false), (3, (x_BadState.C, none), false), (4, (x_BadPerson.C, none), false), (5, (x_BadFolder.C, none), false), (6, (x_BadDeed.C, none), false), (7, (x_BadDeeds.C, some "place"), false), (8, (x_BadCase.C, none), false), (9, (x_BadOrder.C, none), false), (10, (x_BadLook.C, none), false), (11, (x_BadKnown.C, none), false), (12, (x_BadClash.C, none), false), (13, (x_BadLot.C, none), false), (14, (x_TooMany.C, none), false), (15, (x_NotSure.C, none), false), (16, (x_BadEvent.C, none), false), (17, (x_BadSpread.C, none), true), (18, (x_NothingToUndo.C, none), false), (19, (x_BadText.C, some "line"), false), (20, (x_BadCommand.C, none), false), (21, (x_NoCase.C, none), false), (22, (x_BadClaim.C, none), false), (23, (x_BadPeople.C, none), false), (24, (x_Full.C, none), false)] = true
  ki_BadEvent : rowOk (kitB K (.ref x_BadEvent.C)) [(1, (x_BadHouse.C, none), false), (2, (x_BadRule.C, none), false), (3, (x_BadState.C, none), false), (4, (x_BadPerson.C, none), false), (5, (x_BadFolder.C, none), false), (6, (x_BadDeed.C, none), false), (7, (x_BadDeeds.C, some "place"), false), (8, (x_BadCase.C, none), false), (9, (x_BadOrder.C, none), false), (10, (x_BadLook.C, none), false), (11, (x_BadKnown.C, none), false), (12, (x_BadClash.C, none), false), (13, (x_BadLot.C, none), false), (14, (x_TooMany.C, none), false), (15, (x_NotSure.C, none), false), (16, (x_BadEvent.C, none), true), (17, (x_BadSpread.C, none), false), (18, (x_NothingToUndo.C, none), false), (19, (x_BadText.C, some "line"), false), (20, (x_BadCommand.C, none), false), (21, (x_NoCase.C, none), false), (22, (x_BadClaim.C, none), false), (23, (x_BadPeople.C, none), false), (24, (x_Full.C, none), false)] = true
  ki_NotSure : rowOk (kitB K (.ref x_NotSure.C)) [(1, (x_BadHouse.C, none), false), (2, (x_BadRule.C, none), false), (3, (x_BadState.C, none), false), (4, (x_BadPerson.C, none), false), (5, (x_BadFolder.C, none), false), (6, (x_BadDeed.C, none), false), (7, (x_BadDeeds.C, some "place"), false), (8, (x_BadCase.C, none), false), (9, (x_BadOrder.C, none), false), (10, (x_BadLook.C, none), false), (11, (x_BadKnown.C, none), false), (12, (x_BadClash.C, none), false), (13, (x_BadLot.C, none), false), (14, (x_TooMany.C, none), false), (15, (x_NotSure.C, none), true), (16, (x_BadEvent.C, none), false), (17, (x_BadSpread.C, none), false), (18, (x_NothingToUndo.C, none), false), (19, (x_BadText.C, some "line"), false), (20, (x_BadCommand.C, none), false), (21, (x_NoCase.C, none), false), (22, (x_BadClaim.C, none), false), (23, (x_BadPeople.C, none), false), (24, (x_Full.C, none), false)] = true
  ki_TooMany : rowOk (kitB K (.ref x_TooMany.C)) [(1, (x_BadHouse.C, none), false), (2, (x_BadRule.C, none), false), (3, (x_BadState.C, none), false), (4, (x_BadPerson.C, none), false), (5, (x_BadFolder.C, none), false), (6, (x_BadDeed.C, none), false), (7, (x_BadDeeds.C, some "place"), false), (8, (x_BadCase.C, none), false), (9, (x_BadOrder.C, none), false), (10, (x_BadLook.C, none), false), (11, (x_BadKnown.C, none), false), (12, (x_BadClash.C, none), false), (13, (x_BadLot.C, none), false), (14, (x_TooMany.C, none), true), (15, (x_NotSure.C, none), false), (16, (x_BadEvent.C, none), false), (17, (x_BadSpread.C, none), false), (18, (x_NothingToUndo.C, none), false), (19, (x_BadText.C, some "line"), false), (20, (x_BadCommand.C, none), false), (21, (x_NoCase.C, none), false), (22, (x_BadClaim.C, none), false), (23, (x_BadPeople.C, none), false), (24, (x_Full.C, none), false)] = true
  ki_BadLot : rowOk (kitB K (.ref x_BadLot.C)) [(1, (x_BadHouse.C, none), false), (2, (x_BadRule.C, none), false), (3, (x_BadState.C, none), false), (4, (x_BadPerson.C, none), false), (5, (x_BadFolder.C, none), false), (6, (x_BadDeed.C, none), false), (7, (x_BadDeeds.C, some "place"), false), (8, (x_BadCase.C, none), false), (9, (x_BadOrder.C, none), false), (10, (x_BadLook.C, none), false), (11, (x_BadKnown.C, none), false), (12, (x_BadClash.C, none), false), (13, (x_BadLot.C, none), true), (14, (x_TooMany.C, none), false), (15, (x_NotSure.C, none), false), (16, (x_BadEvent.C, none), false), (17, (x_BadSpread.C, none), false), (18, (x_NothingToUndo.C, none), false), (19, (x_BadText.C, some "line"), false), (20, (x_BadCommand.C, none), false), (21, (x_NoCase.C, none), false), (22, (x_BadClaim.C, none), false), (23, (x_BadPeople.C, none), false), (24, (x_Full.C, none), false)] = true
  ki_BadClash : rowOk (kitB K (.ref x_BadClash.C)) [(1, (x_BadHouse.C, none), false), (2, (x_BadRule.C, none), false), (3, (x_BadState.C, none), false), (4, (x_BadPerson.C, none), false), (5, (x_BadFolder.C, none), false), (6, (x_BadDeed.C, none), false), (7, (x_BadDeeds.C, some "place"), false), (8, (x_BadCase.C, none), false), (9, (x_BadOrder.C, none), false), (10, (x_BadLook.C, none), false), (11, (x_BadKnown.C, none), false), (12, (x_BadClash.C, none), true), (13, (x_BadLot.C, none), false), (14, (x_TooMany.C, none), false), (15, (x_NotSure.C, none), false), (16, (x_BadEvent.C, none), false), (17, (x_BadSpread.C, none), false), (18, (x_NothingToUndo.C, none), false), (19, (x_BadText.C, some "line"), false), (20, (x_BadCommand.C, none), false), (21, (x_NoCase.C, none), false), (22, (x_BadClaim.C, none), false), (23, (x_BadPeople.C, none), false), (24, (x_Full.C, none), false)] = true
  ki_BadKnown : rowOk (kitB K (.ref x_BadKnown.C)) [(1, (x_BadHouse.C, none), false), (2, (x_BadRule.C, none), false), (3, (x_BadState.C, none), false), (4, (x_BadPerson.C, none), false), (5, (x_BadFolder.C, none), false), (6, (x_BadDeed.C, none), false), (7, (x_BadDeeds.C, some "place"), false), (8, (x_BadCase.C, none), false), (9, (x_BadOrder.C, none), false), (10, (x_BadLook.C, none), false), (11, (x_BadKnown.C, none), true), (12, (x_BadClash.C, none), false), (13, (x_BadLot.C, none), false), (14, (x_TooMany.C, none), false), (15, (x_NotSure.C, none), false), (16, (x_BadEvent.C, none), false), (17, (x_BadSpread.C, none), false), (18, (x_NothingToUndo.C, none), false), (19, (x_BadText.C, some "line"), false), (20, (x_BadCommand.C, none), false), (21, (x_NoCase.C, none), false), (22, (x_BadClaim.C, none), false), (23, (x_BadPeople.C, none), false), (24, (x_Full.C, none), false)] = true
  ki_BadLook : rowOk (kitB K (.ref x_BadLook.C)) [(1, (x_BadHouse.C, none), false), (2, (x_BadRule.C, none), false), (3, (x_BadState.C, none), false), (4, (x_BadPerson.C, none), false), (5, (x_BadFolder.C, none), false), (6, (x_BadDeed.C, none), false), (7, (x_BadDeeds.C, some "place"), false), (8, (x_BadCase.C, none), false), (9, (x_BadOrder.C, none), false), (10, (x_BadLook.C, none), true), (11, (x_BadKnown.C, none), false), (12, (x_BadClash.C, none), false), (13, (x_BadLot.C, none), false), (14, (x_TooMany.C, none), false), (15, (x_NotSure.C, none), false), (16, (x_BadEvent.C, none), false), (17, (x_BadSpread.C, none), false), (18, (x_NothingToUndo.C, none), false), (19, (x_BadText.C, some "line"), false), (20, (x_BadCommand.C, none), false), (21, (x_NoCase.C, none), false), (22, (x_BadClaim.C, none), false), (23, (x_BadPeople.C, none), false), (24, (x_Full.C, none), false)] = true
  ki_BadOrder : rowOk (kitB K (.ref x_BadOrder.C)) [(1, (x_BadHouse.C, none), false), (2, (x_BadRule.C, none), false), (3, (x_BadState.C, none), false), (4, (x_BadPerson.C, none), false), (5, (x_BadFolder.C, none), false), (6, (x_BadDeed.C, none), false), (7, (x_BadDeeds.C, some "place"), false), (8, (x_BadCase.C, none), false), (9, (x_BadOrder.C, none), true), (10, (x_BadLook.C, none), false), (11, (x_BadKnown.C, none), false), (12, (x_BadClash.C, none), false), (13, (x_BadLot.C, none), false), (14, (x_TooMany.C, none), false), (15, (x_NotSure.C, none), false), (16, (x_BadEvent.C, none), false), (17, (x_BadSpread.C, none), false), (18, (x_NothingToUndo.C, none), false), (19, (x_BadText.C, some "line"), false), (20, (x_BadCommand.C, none), false), (21, (x_NoCase.C, none), false), (22, (x_BadClaim.C, none), false), (23, (x_BadPeople.C, none), false), (24, (x_Full.C, none), false)] = true
  ki_BadCase : rowOk (kitB K (.ref x_BadCase.C)) [(1, (x_BadHouse.C, none), false), (2, (x_BadRule.C, none), false), (3, (x_BadState.C, none), false), (4, (x_BadPerson.C, none), false), (5, (x_BadFolder.C, none), false), (6, (x_BadDeed.C, none), false), (7, (x_BadDeeds.C, some "place"), false), (8, (x_BadCase.C, none), true), (9, (x_BadOrder.C, none), false), (10, (x_BadLook.C, none), false), (11, (x_BadKnown.C, none), false), (12, (x_BadClash.C, none), false), (13, (x_BadLot.C, none), false), (14, (x_TooMany.C, none), false), (15, (x_NotSure.C, none), false), (16, (x_BadEvent.C, none), false), (17, (x_BadSpread.C, none), false), (18, (x_NothingToUndo.C, none), false), (19, (x_BadText.C, some "line"), false), (20, (x_BadCommand.C, none), false), (21, (x_NoCase.C, none), false), (22, (x_BadClaim.C, none), false), (23, (x_BadPeople.C, none), false), (24, (x_Full.C, none), false)] = true
  ki_BadDeeds : rowOk (kitB K (.ref x_BadDeeds.C)) [(1, (x_BadHouse.C, none), false), (2, (x_BadRule.C, none), false), (3, (x_BadState.C, none), false), (4, (x_BadPerson.C, none), false), (5, (x_BadFolder.C, none), false), (6, (x_BadDeed.C, none), false), (7, (x_BadDeeds.C, some "place"), true), (8, (x_BadCase.C, none), false), (9, (x_BadOrder.C, none), false), (10, (x_BadLook.C, none), false), (11, (x_BadKnown.C, none), false), (12, (x_BadClash.C, none), false), (13, (x_BadLot.C, none), false), (14, (x_TooMany.C, none), false), (15, (x_NotSure.C, none), false), (16, (x_BadEvent.C, none), false), (17, (x_BadSpread.C, none), false), (18, (x_NothingToUndo.C, none), false), (19, (x_BadText.C, some "line"), false), (20, (x_BadCommand.C, none), false), (21, (x_NoCase.C, none), false), (22, (x_BadClaim.C, none), false), (23, (x_BadPeople.C, none), false), (24, (x_Full.C, none), false)] = true
  ki_BadDeed : rowOk (kitB K (.ref x_BadDeed.C)) [(1, (x_BadHouse.C, none), false), (2, (x_BadRule.C, none), false), (3, (x_BadState.C, none), false), (4, (x_BadPerson.C, none), false), (5, (x_BadFolder.C, none), false), (6, (x_BadDeed.C, none), true), (7, (x_BadDeeds.C, some "place"), false), (8, (x_BadCase.C, none), false), (9, (x_BadOrder.C, none), false), (10, (x_BadLook.C, none), false), (11, (x_BadKnown.C, none), false), (12, (x_BadClash.C, none), false), (13, (x_BadLot.C, none), false), (14, (x_TooMany.C, none), false), (15, (x_NotSure.C, none), false), (16, (x_BadEvent.C, none), false), (17, (x_BadSpread.C, none), false), (18, (x_NothingToUndo.C, none), false), (19, (x_BadText.C, some "line"), false), (20, (x_BadCommand.C, none), false), (21, (x_NoCase.C, none), false), (22, (x_BadClaim.C, none), false), (23, (x_BadPeople.C, none), false), (24, (x_Full.C, none), false)] = true
  ki_BadFolder : rowOk (kitB K (.ref x_BadFolder.C)) [(1, (x_BadHouse.C, none), false), (2, (x_BadRule.C, none), false), (3, (x_BadState.C, none), false), (4, (x_BadPerson.C, none), false), (5, (x_BadFolder.C, none), true), (6, (x_BadDeed.C, none), false), (7, (x_BadDeeds.C, some "place"), false), (8, (x_BadCase.C, none), false), (9, (x_BadOrder.C, none), false), (10, (x_BadLook.C, none), false), (11, (x_BadKnown.C, none), false), (12, (x_BadClash.C, none), false), (13, (x_BadLot.C, none), false), (14, (x_TooMany.C, none), false), (15, (x_NotSure.C, none), false), (16, (x_BadEvent.C, none), false), (17, (x_BadSpread.C, none), false), (18, (x_NothingToUndo.C, none), false), (19, (x_BadText.C, some "line"), false), (20, (x_BadCommand.C, none), false), (21, (x_NoCase.C, none), false), (22, (x_BadClaim.C, none), false), (23, (x_BadPeople.C, none), false), (24, (x_Full.C, none), false)] = true
  ki_BadPerson : rowOk (kitB K (.ref x_BadPerson.C)) [(1, (x_BadHouse.C, none), false), (2, (x_BadRule.C, none), false), (3, (x_BadState.C, none), false), (4, (x_BadPerson.C, none), true), (5, (x_BadFolder.C, none), false), (6, (x_BadDeed.C, none), false), (7, (x_BadDeeds.C, some "place"), false), (8, (x_BadCase.C, none), false), (9, (x_BadOrder.C, none), false), (10, (x_BadLook.C, none), false), (11, (x_BadKnown.C, none), false), (12, (x_BadClash.C, none), false), (13, (x_BadLot.C, none), false), (14, (x_TooMany.C, none), false), (15, (x_NotSure.C, none), false), (16, (x_BadEvent.C, none), false), (17, (x_BadSpread.C, none), false), (18, (x_NothingToUndo.C, none), false), (19, (x_BadText.C, some "line"), false), (20, (x_BadCommand.C, none), false), (21, (x_NoCase.C, none), false), (22, (x_BadClaim.C, none), false), (23, (x_BadPeople.C, none), false), (24, (x_Full.C, none), false)] = true
  ki_BadState : rowOk (kitB K (.ref x_BadState.C)) [(1, (x_BadHouse.C, none), false), (2, (x_BadRule.C, none), false), (3, (x_BadState.C, none), true), (4, (x_BadPerson.C, none), false), (5, (x_BadFolder.C, none), false), (6, (x_BadDeed.C, none), false), (7, (x_BadDeeds.C, some "place"), false), (8, (x_BadCase.C, none), false), (9, (x_BadOrder.C, none), false), (10, (x_BadLook.C, none), false), (11, (x_BadKnown.C, none), false), (12, (x_BadClash.C, none), false), (13, (x_BadLot.C, none), false), (14, (x_TooMany.C, none), false), (15, (x_NotSure.C, none), false), (16, (x_BadEvent.C, none), false), (17, (x_BadSpread.C, none), false), (18, (x_NothingToUndo.C, none), false), (19, (x_BadText.C, some "line"), false), (20, (x_BadCommand.C, none), false), (21, (x_NoCase.C, none), false), (22, (x_BadClaim.C, none), false), (23, (x_BadPeople.C, none), false), (24, (x_Full.C, none), false)] = true
  ki_BadRule : rowOk (kitB K (.ref x_BadRule.C)) [(1, (x_BadHouse.C, none), false), (2, (x_BadRule.C, none), true), (3, (x_BadState.C, none), false), (4, (x_BadPerson.C, none), false), (5, (x_BadFolder.C, none), false), (6, (x_BadDeed.C, none), false), (7, (x_BadDeeds.C, some "place"), false), (8, (x_BadCase.C, none), false), (9, (x_BadOrder.C, none), false), (10, (x_BadLook.C, none), false), (11, (x_BadKnown.C, none), false), (12, (x_BadClash.C, none), false), (13, (x_BadLot.C, none), false), (14, (x_TooMany.C, none), false), (15, (x_NotSure.C, none), false), (16, (x_BadEvent.C, none), false), (17, (x_BadSpread.C, none), false), (18, (x_NothingToUndo.C, none), false), (19, (x_BadText.C, some "line"), false), (20, (x_BadCommand.C, none), false), (21, (x_NoCase.C, none), false), (22, (x_BadClaim.C, none), false), (23, (x_BadPeople.C, none), false), (24, (x_Full.C, none), false)] = true
  ki_BadHouse : rowOk (kitB K (.ref x_BadHouse.C)) [(1, (x_BadHouse.C, none), true), (2, (x_BadRule.C, none), false), (3, (x_BadState.C, none), false), (4, (x_BadPerson.C, none), false), (5, (x_BadFolder.C, none), false), (6, (x_BadDeed.C, none), false), (7, (x_BadDeeds.C, some "place"), false), (8, (x_BadCase.C, none), false), (9, (x_BadOrder.C, none), false), (10, (x_BadLook.C, none), false), (11, (x_BadKnown.C, none), false), (12, (x_BadClash.C, none), false), (13, (x_BadLot.C, none), false), (14, (x_TooMany.C, none), false), (15, (x_NotSure.C, none), false), (16, (x_BadEvent.C, none), false), (17, (x_BadSpread.C, none), false), (18, (x_NothingToUndo.C, none), false), (19, (x_BadText.C, some "line"), false), (20, (x_BadCommand.C, none), false), (21, (x_NoCase.C, none), false), (22, (x_BadClaim.C, none), false), (23, (x_BadPeople.C, none), false), (24, (x_Full.C, none), false)] = true
  xk : rowOk (exkB K) [(1, (x_BadHouse.C, none), true), (2, (x_BadRule.C, none), true), (3, (x_BadState.C, none), true), (4, (x_BadPerson.C, none), true), (5, (x_BadFolder.C, none), true), (6, (x_BadDeed.C, none), true), (7, (x_BadDeeds.C, some "place"), true), (8, (x_BadCase.C, none), true), (9, (x_BadOrder.C, none), true), (10, (x_BadLook.C, none), true), (11, (x_BadKnown.C, none), true), (12, (x_BadClash.C, none), true), (13, (x_BadLot.C, none), true), (14, (x_TooMany.C, none), true), (15, (x_NotSure.C, none), true), (16, (x_BadEvent.C, none), true), (17, (x_BadSpread.C, none), true), (18, (x_NothingToUndo.C, none), true), (19, (x_BadText.C, some "line"), true), (20, (x_BadCommand.C, none), true), (21, (x_NoCase.C, none), true), (22, (x_BadClaim.C, none), true), (23, (x_BadPeople.C, none), true), (24, (x_Full.C, none), true)] = true
  xm_BadDeeds : ExcM P w K mg x_BadDeeds.C "place"
  xm_BadText : ExcM P w K mg x_BadText.C "line"
def xmT {P : Program} {K : PySem.W.Frag} {mg : Str → Option Value} {w : World} (T : Top P K mg w) : XM := fun c => List.lookup c [(1, (T.x_BadHouse.C, none)), (2, (T.x_BadRule.C, none)), (3, (T.x_BadState.C, none)), (4, (T.x_BadPerson.C, none)), (5, (T.x_BadFolder.C, none)), (6, (T.x_BadDeed.C, none)), (7, (T.x_BadDeeds.C, some "place")), (8, (T.x_BadCase.C, none)), (9, (T.x_BadOrder.C, none)), (10, (T.x_BadLook.C, none)), (11, (T.x_BadKnown.C, none)), (12, (T.x_BadClash.C, none)), (13, (T.x_BadLot.C, none)), (14, (T.x_TooMany.C, none)), (15, (T.x_NotSure.C, none)), (16, (T.x_BadEvent.C, none)), (17, (T.x_BadSpread.C, none)), (18, (T.x_NothingToUndo.C, none)), (19, (T.x_BadText.C, some "line")), (20, (T.x_BadCommand.C, none)), (21, (T.x_NoCase.C, none)), (22, (T.x_BadClaim.C, none)), (23, (T.x_BadPeople.C, none)), (24, (T.x_Full.C, none))]
section
variable {P : Program} {w : World} {K : PySem.W.Frag} {mg : Str → Option Value} {base : Heap}
theorem ok_law_cell_at (T : Top P K mg w) : FnOk P w K mg base CX0 1 T.law_cell_at.a T.law_cell_at.d ["_law_script", "_law_k"] (spP K 2 G_law_cell_at) :=
  fn_rule' (body := b_law_cell_at) (G := G_law_cell_at) (N := nm_law_cell_at) (sc := scp_law_cell_at) (n := 2) (m := 2) (k := 0) T.law_cell_at rfl sc_law_cell_at (by decide) rfl rfl rfl fun cdv A outer s H E F hr hF =>
    (s_cons (s_if (pt_cmp' (o_lt hr.units) (p_var 1 (pv 1)) (p_callB c_len (by rfl) T.z_len PySem.boot_len (pa_c (p_var 0 (pv 0)) pa_n)) (nomark _)) (s_cons (s_ret (p_callTy c_int (by rfl) T.z_int (by decide +kernel) (pa_c (p_ix (p_var 0 (pv 0)) (p_var 1 (pv 1))) pa_n)))
      s_nil) s_nil)
      (s_cons (s_if (pt_cmp' (o_gt hr.units) (p_callB c_len (by rfl) T.z_len PySem.boot_len (pa_c (p_var 0 (pv 0)) pa_n)) p_int (nomark _)) (s_cons (s_ret (p_op o_add (p_op o_add (p_op o_mulN (p_op o_mod (p_callTy c_int (by rfl) T.z_int (by decide +kernel) (pa_c (p_ix (p_var 0 (pv 0)) p_int) pa_n)) p_int) p_int) (p_op o_mulN p_int (p_var 1 (pv 1)))) p_int))
      s_nil) s_nil)
      (s_cons (s_ret (p_op o_add (p_op o_mulN p_int (p_var 1 (pv 1))) p_int))
      s_nil)))
theorem ok_law_high (T : Top P K mg w) : FnOk P w K mg base (L2.CX P w) 3 T.law_high.a T.law_high.d ["_law_k", "_law_line"] (spX K (xmT T) 2 G_law_high) :=
  fn_ruleX (body := b_law_high) (G := G_law_high) (N := nm_law_high) (sc := scp_law_high) (n := 2) (m := 2) (k := 2) T.law_high rfl sc_law_high (by decide) rfl rfl rfl fun cdv A outer s H E F hr hx tk =>
    (s_cons (s_if (pt_cmp' (o_eq hr.units) (p_var 0 (pv 0)) p_int (nomark _)) (s_cons (s_raiseX rfl tk (pm_exc T.x_BadLot) hx rfl)
      s_nil) s_nil)
      (s_cons (s_if (pt_cmp' (o_eq hr.units) (p_var 0 (pv 0)) p_int (nomark _)) (s_cons (s_raiseX rfl tk (pm_exc T.x_TooMany) hx rfl)
      s_nil) s_nil)
      (s_cons (s_if (pt_cmp' (o_eq hr.units) (p_var 0 (pv 0)) p_int (nomark _)) (s_cons (s_raiseX rfl tk (pm_exc T.x_NotSure) hx rfl)
      s_nil) s_nil)
      (s_cons (s_if (pt_cmp' (o_eq hr.units) (p_var 0 (pv 0)) p_int (nomark _)) (s_cons (s_raiseX rfl tk (pm_exc T.x_BadEvent) hx rfl)
      s_nil) s_nil)
      (s_cons (s_if (pt_cmp' (o_eq hr.units) (p_var 0 (pv 0)) p_int (nomark _)) (s_cons (s_raiseX rfl tk (pm_exc T.x_BadSpread) hx rfl)
      s_nil) s_nil)
      (s_cons (s_if (pt_cmp' (o_eq hr.units) (p_var 0 (pv 0)) p_int (nomark _)) (s_cons (s_raiseX rfl tk (pm_exc T.x_NothingToUndo) hx rfl)
      s_nil) s_nil)
      (s_cons (s_if (pt_cmp' (o_eq hr.units) (p_var 0 (pv 0)) p_int (nomark _)) (s_cons (s_raiseI T.xm_BadText.T T.xm_BadText.iC T.xm_BadText.tI (T.xm_BadText.F1 _ 0) (hr.mono (by decide)) T.xm_BadText.hb rfl tk (by rfl) T.x_BadText.g (p_var 1 (pv 1)) hx rfl)
      s_nil) s_nil)
      (s_cons (s_if (pt_cmp' (o_eq hr.units) (p_var 0 (pv 0)) p_int (nomark _)) (s_cons (s_raiseX rfl tk (pm_exc T.x_BadCommand) hx rfl)
      s_nil) s_nil)
      (s_cons (s_if (pt_cmp' (o_eq hr.units) (p_var 0 (pv 0)) p_int (nomark _)) (s_cons (s_raiseX rfl tk (pm_exc T.x_NoCase) hx rfl)
      s_nil) s_nil)
      (s_cons (s_if (pt_cmp' (o_eq hr.units) (p_var 0 (pv 0)) p_int (nomark _)) (s_cons (s_raiseX rfl tk (pm_exc T.x_BadClaim) hx rfl)
      s_nil) s_nil)
      (s_cons (s_if (pt_cmp' (o_eq hr.units) (p_var 0 (pv 0)) p_int (nomark _)) (s_cons (s_raiseX rfl tk (pm_exc T.x_BadPeople) hx rfl)
      s_nil) s_nil)
      (s_cons (s_raiseX rfl tk (pm_exc T.x_Full) hx rfl)
      s_nil))))))))))))
theorem ok_law_low (T : Top P K mg w) : FnOk P w K mg base (L2.CX P w) 3 T.law_low.a T.law_low.d ["_law_k", "_law_place"] (spX K (xmT T) 2 G_law_low) :=
  fn_ruleX (body := b_law_low) (G := G_law_low) (N := nm_law_low) (sc := scp_law_low) (n := 2) (m := 2) (k := 2) T.law_low rfl sc_law_low (by decide) rfl rfl rfl fun cdv A outer s H E F hr hx tk =>
    (s_cons (s_if (pt_cmp' (o_eq hr.units) (p_var 0 (pv 0)) p_int (nomark _)) (s_cons (s_raiseX rfl tk (pm_exc T.x_BadHouse) hx rfl)
      s_nil) s_nil)
      (s_cons (s_if (pt_cmp' (o_eq hr.units) (p_var 0 (pv 0)) p_int (nomark _)) (s_cons (s_raiseX rfl tk (pm_exc T.x_BadRule) hx rfl)
      s_nil) s_nil)
      (s_cons (s_if (pt_cmp' (o_eq hr.units) (p_var 0 (pv 0)) p_int (nomark _)) (s_cons (s_raiseX rfl tk (pm_exc T.x_BadState) hx rfl)
      s_nil) s_nil)
      (s_cons (s_if (pt_cmp' (o_eq hr.units) (p_var 0 (pv 0)) p_int (nomark _)) (s_cons (s_raiseX rfl tk (pm_exc T.x_BadPerson) hx rfl)
      s_nil) s_nil)
      (s_cons (s_if (pt_cmp' (o_eq hr.units) (p_var 0 (pv 0)) p_int (nomark _)) (s_cons (s_raiseX rfl tk (pm_exc T.x_BadFolder) hx rfl)
      s_nil) s_nil)
      (s_cons (s_if (pt_cmp' (o_eq hr.units) (p_var 0 (pv 0)) p_int (nomark _)) (s_cons (s_raiseX rfl tk (pm_exc T.x_BadDeed) hx rfl)
      s_nil) s_nil)
      (s_cons (s_if (pt_cmp' (o_eq hr.units) (p_var 0 (pv 0)) p_int (nomark _)) (s_cons (s_raiseI T.xm_BadDeeds.T T.xm_BadDeeds.iC T.xm_BadDeeds.tI (T.xm_BadDeeds.F1 _ 0) (hr.mono (by decide)) T.xm_BadDeeds.hb rfl tk (by rfl) T.x_BadDeeds.g (p_var 1 (pv 1)) hx rfl)
      s_nil) s_nil)
      (s_cons (s_if (pt_cmp' (o_eq hr.units) (p_var 0 (pv 0)) p_int (nomark _)) (s_cons (s_raiseX rfl tk (pm_exc T.x_BadCase) hx rfl)
      s_nil) s_nil)
      (s_cons (s_if (pt_cmp' (o_eq hr.units) (p_var 0 (pv 0)) p_int (nomark _)) (s_cons (s_raiseX rfl tk (pm_exc T.x_BadOrder) hx rfl)
      s_nil) s_nil)
      (s_cons (s_if (pt_cmp' (o_eq hr.units) (p_var 0 (pv 0)) p_int (nomark _)) (s_cons (s_raiseX rfl tk (pm_exc T.x_BadLook) hx rfl)
      s_nil) s_nil)
      (s_cons (s_if (pt_cmp' (o_eq hr.units) (p_var 0 (pv 0)) p_int (nomark _)) (s_cons (s_raiseX rfl tk (pm_exc T.x_BadKnown) hx rfl)
      s_nil) s_nil)
      (s_cons (s_raiseX rfl tk (pm_exc T.x_BadClash) hx rfl)
      s_nil))))))))))))
theorem ok_law_kinds (T : Top P K mg w) : FnOk P w K mg base CX0 4 T.law_kinds.a T.law_kinds.d ["_law_k", "_law_place", "_law_line"] (spP K 3 G_law_kinds) :=
  fn_rule' (body := b_law_kinds) (G := G_law_kinds) (N := nm_law_kinds) (sc := scp_law_kinds) (n := 3) (m := 5) (k := 3) T.law_kinds rfl sc_law_kinds (by decide) rfl rfl rfl fun cdv A outer s H E F hr hF =>
    (s_cons (s_set (i := 3) (ps_set (i := 3) sc_law_kinds.nd rfl (by first | exact Or.inl rfl | exact Or.inr rfl) (p_new (e_lst pa_n ln0))))
      (s_cons (s_tryAs (cv := .ref T.x_SightError.C) (xm := xmT T) (i := 4) (h := fun xc fs => (sq (sSet 3 (lst (aC (isX 4 [(1, true), (2, false), (3, false), (4, false), (5, false), (6, false), (7, false), (8, false), (9, false), (10, false), (11, false), (12, false), (13, false), (14, false), (15, false), (16, false), (17, false), (18, false), (19, false), (20, false), (21, false), (22, false), (23, false), (24, false)] xc) (aC (isX 4 [(1, false), (2, true), (3, false), (4, false), (5, false), (6, false), (7, false), (8, false), (9, false), (10, false), (11, false), (12, false), (13, false), (14, false), (15, false), (16, false), (17, false), (18, false), (19, false), (20, false), (21, false), (22, false), (23, false), (24, false)] xc) (aC (isX 4 [(1, false), (2, false), (3, true), (4, false), (5, false), (6, false), (7, false), (8, false), (9, false), (10, false), (11, false), (12, false), (13, false), (14, false), (15, false), (16, false), (17, false), (18, false), (19, false), (20, false), (21, false), (22, false), (23, false), (24, false)] xc) (aC (isX 4 [(1, false), (2, false), (3, false), (4, true), (5, false), (6, false), (7, false), (8, false), (9, false), (10, false), (11, false), (12, false), (13, false), (14, false), (15, false), (16, false), (17, false), (18, false), (19, false), (20, false), (21, false), (22, false), (23, false), (24, false)] xc) aN)))))) (sq (sSet 3 (ap2 addD (vr 3) (lst (aC (isX 4 [(1, false), (2, false), (3, false), (4, false), (5, true), (6, false), (7, false), (8, false), (9, false), (10, false), (11, false), (12, false), (13, false), (14, false), (15, false), (16, false), (17, false), (18, false), (19, false), (20, false), (21, false), (22, false), (23, false), (24, false)] xc) (aC (isX 4 [(1, false), (2, false), (3, false), (4, false), (5, false), (6, true), (7, false), (8, false), (9, false), (10, false), (11, false), (12, false), (13, false), (14, false), (15, false), (16, false), (17, false), (18, false), (19, false), (20, false), (21, false), (22, false), (23, false), (24, false)] xc) (aC (isX 4 [(1, false), (2, false), (3, false), (4, false), (5, false), (6, false), (7, true), (8, false), (9, false), (10, false), (11, false), (12, false), (13, false), (14, false), (15, false), (16, false), (17, false), (18, false), (19, false), (20, false), (21, false), (22, false), (23, false), (24, false)] xc) aN)))))) (sq (sSet 3 (ap2 addD (vr 3) (lst (aC (isX 4 [(1, false), (2, false), (3, false), (4, false), (5, false), (6, false), (7, false), (8, true), (9, false), (10, false), (11, false), (12, false), (13, false), (14, false), (15, false), (16, false), (17, false), (18, false), (19, false), (20, false), (21, false), (22, false), (23, false), (24, false)] xc) (aC (isX 4 [(1, false), (2, false), (3, false), (4, false), (5, false), (6, false), (7, false), (8, false), (9, true), (10, false), (11, false), (12, false), (13, false), (14, false), (15, false), (16, false), (17, false), (18, false), (19, false), (20, false), (21, false), (22, false), (23, false), (24, false)] xc) (aC (isX 4 [(1, false), (2, false), (3, false), (4, false), (5, false), (6, false), (7, false), (8, false), (9, false), (10, true), (11, false), (12, false), (13, false), (14, false), (15, false), (16, false), (17, false), (18, false), (19, false), (20, false), (21, false), (22, false), (23, false), (24, false)] xc) aN)))))) (sq (sSet 3 (ap2 addD (vr 3) (lst (aC (isX 4 [(1, false), (2, false), (3, false), (4, false), (5, false), (6, false), (7, false), (8, false), (9, false), (10, false), (11, true), (12, false), (13, false), (14, false), (15, false), (16, false), (17, false), (18, false), (19, false), (20, false), (21, false), (22, false), (23, false), (24, false)] xc) (aC (isX 4 [(1, false), (2, false), (3, false), (4, false), (5, false), (6, false), (7, false), (8, false), (9, false), (10, false), (11, false), (12, true), (13, false), (14, false), (15, false), (16, false), (17, false), (18, false), (19, false), (20, false), (21, false), (22, false), (23, false), (24, false)] xc) (aC (isX 4 [(1, false), (2, false), (3, false), (4, false), (5, false), (6, false), (7, false), (8, false), (9, false), (10, false), (11, false), (12, false), (13, true), (14, false), (15, false), (16, false), (17, false), (18, false), (19, false), (20, false), (21, false), (22, false), (23, false), (24, false)] xc) aN)))))) (sq (sSet 3 (ap2 addD (vr 3) (lst (aC (isX 4 [(1, false), (2, false), (3, false), (4, false), (5, false), (6, false), (7, false), (8, false), (9, false), (10, false), (11, false), (12, false), (13, false), (14, true), (15, false), (16, false), (17, false), (18, false), (19, false), (20, false), (21, false), (22, false), (23, false), (24, false)] xc) (aC (isX 4 [(1, false), (2, false), (3, false), (4, false), (5, false), (6, false), (7, false), (8, false), (9, false), (10, false), (11, false), (12, false), (13, false), (14, false), (15, true), (16, false), (17, false), (18, false), (19, false), (20, false), (21, false), (22, false), (23, false), (24, false)] xc) (aC (isX 4 [(1, false), (2, false), (3, false), (4, false), (5, false), (6, false), (7, false), (8, false), (9, false), (10, false), (11, false), (12, false), (13, false), (14, false), (15, false), (16, true), (17, false), (18, false), (19, false), (20, false), (21, false), (22, false), (23, false), (24, false)] xc) aN)))))) (sq (sSet 3 (ap2 addD (vr 3) (lst (aC (isX 4 [(1, false), (2, false), (3, false), (4, false), (5, false), (6, false), (7, false), (8, false), (9, false), (10, false), (11, false), (12, false), (13, false), (14, false), (15, false), (16, false), (17, true), (18, false), (19, false), (20, false), (21, false), (22, false), (23, false), (24, false)] xc) (aC (isX 4 [(1, false), (2, false), (3, false), (4, false), (5, false), (6, false), (7, false), (8, false), (9, false), (10, false), (11, false), (12, false), (13, false), (14, false), (15, false), (16, false), (17, false), (18, true), (19, false), (20, false), (21, false), (22, false), (23, false), (24, false)] xc) (aC (isX 4 [(1, false), (2, false), (3, false), (4, false), (5, false), (6, false), (7, false), (8, false), (9, false), (10, false), (11, false), (12, false), (13, false), (14, false), (15, false), (16, false), (17, false), (18, false), (19, true), (20, false), (21, false), (22, false), (23, false), (24, false)] xc) aN)))))) (sq (sSet 3 (ap2 addD (vr 3) (lst (aC (isX 4 [(1, false), (2, false), (3, false), (4, false), (5, false), (6, false), (7, false), (8, false), (9, false), (10, false), (11, false), (12, false), (13, false), (14, false), (15, false), (16, false), (17, false), (18, false), (19, false), (20, true), (21, false), (22, false), (23, false), (24, false)] xc) (aC (isX 4 [(1, false), (2, false), (3, false), (4, false), (5, false), (6, false), (7, false), (8, false), (9, false), (10, false), (11, false), (12, false), (13, false), (14, false), (15, false), (16, false), (17, false), (18, false), (19, false), (20, false), (21, true), (22, false), (23, false), (24, false)] xc) (aC (isX 4 [(1, false), (2, false), (3, false), (4, false), (5, false), (6, false), (7, false), (8, false), (9, false), (10, false), (11, false), (12, false), (13, false), (14, false), (15, false), (16, false), (17, false), (18, false), (19, false), (20, false), (21, false), (22, true), (23, false), (24, false)] xc) aN)))))) (sq (sSet 3 (ap2 addD (vr 3) (lst (aC (isX 4 [(1, false), (2, false), (3, false), (4, false), (5, false), (6, false), (7, false), (8, false), (9, false), (10, false), (11, false), (12, false), (13, false), (14, false), (15, false), (16, false), (17, false), (18, false), (19, false), (20, false), (21, false), (22, false), (23, true), (24, false)] xc) (aC (isX 4 [(1, false), (2, false), (3, false), (4, false), (5, false), (6, false), (7, false), (8, false), (9, false), (10, false), (11, false), (12, false), (13, false), (14, false), (15, false), (16, false), (17, false), (18, false), (19, false), (20, false), (21, false), (22, false), (23, false), (24, true)] xc) (aC (isX 4 [(1, true), (2, true), (3, true), (4, true), (5, true), (6, true), (7, true), (8, true), (9, true), (10, true), (11, true), (12, true), (13, true), (14, true), (15, true), (16, true), (17, true), (18, true), (19, true), (20, true), (21, true), (22, true), (23, true), (24, true)] xc) aN)))))) sNil))))))))) sc_law_kinds.nd rfl rfl rfl rfl ⟨by rfl, by decide, .inl T.x_SightError.g⟩ takes0 (.inl hF) (row_tab T.xr_SightError exmB_ok) (fun pn xe F hx tk po =>
      (s_cons (s_if (pt_cmp' (o_lt hr.units) (p_var 0 (pv 0)) p_int (nomark _)) (s_cons (s_doX (x_call T.law_low (ok_law_low T) (hr.mono (by decide)) hx tk (pa_c (p_var 0 (pv 0)) (pa_c (p_var 1 (pv 1)) pa_n)) (lnS (lnS ln0))))
      s_nil) (s_cons (s_doX (x_call T.law_high (ok_law_high T) (hr.mono (by decide)) hx tk (pa_c (p_var 0 (pv 0)) (pa_c (p_var 2 (pv 2)) pa_n)) (lnS (lnS ln0))))
      s_nil))
      s_nil)) (fun a oe cls d pn xc fs F hz hfl hxo hht hF =>
      (s_cons (s_set (i := 3) (ps_set (i := 3) sc_law_kinds.nd rfl (by first | exact Or.inl rfl | exact Or.inr rfl) (p_new (e_lst (pa_c (p_isK hz hfl hxo hht (row_tab T.ki_BadHouse kitB_ok) (exk_all T.xk) (pv 4) (by rfl) T.z_isinstance (pe_glob (v := .ref T.x_BadHouse.C) (by rfl) T.x_BadHouse.g rfl) (fun _ ru => ru)) (pa_c (p_isK hz hfl hxo hht (row_tab T.ki_BadRule kitB_ok) (exk_all T.xk) (pv 4) (by rfl) T.z_isinstance (pe_glob (v := .ref T.x_BadRule.C) (by rfl) T.x_BadRule.g rfl) (fun _ ru => ru)) (pa_c (p_isK hz hfl hxo hht (row_tab T.ki_BadState kitB_ok) (exk_all T.xk) (pv 4) (by rfl) T.z_isinstance (pe_glob (v := .ref T.x_BadState.C) (by rfl) T.x_BadState.g rfl) (fun _ ru => ru)) (pa_c (p_isK hz hfl hxo hht (row_tab T.ki_BadPerson kitB_ok) (exk_all T.xk) (pv 4) (by rfl) T.z_isinstance (pe_glob (v := .ref T.x_BadPerson.C) (by rfl) T.x_BadPerson.g rfl) (fun _ ru => ru)) pa_n)))) (lnS (lnS (lnS (lnS ln0))))))))
      (s_cons (s_set (i := 3) (ps_set (i := 3) sc_law_kinds.nd rfl (by first | exact Or.inl rfl | exact Or.inr rfl) (p_op o_add (p_var 3 (pv 3)) (p_new (e_lst (pa_c (p_isK hz hfl hxo hht (row_tab T.ki_BadFolder kitB_ok) (exk_all T.xk) (pv 4) (by rfl) T.z_isinstance (pe_glob (v := .ref T.x_BadFolder.C) (by rfl) T.x_BadFolder.g rfl) (fun _ ru => ru)) (pa_c (p_isK hz hfl hxo hht (row_tab T.ki_BadDeed kitB_ok) (exk_all T.xk) (pv 4) (by rfl) T.z_isinstance (pe_glob (v := .ref T.x_BadDeed.C) (by rfl) T.x_BadDeed.g rfl) (fun _ ru => ru)) (pa_c (p_isK hz hfl hxo hht (row_tab T.ki_BadDeeds kitB_ok) (exk_all T.xk) (pv 4) (by rfl) T.z_isinstance (pe_glob (v := .ref T.x_BadDeeds.C) (by rfl) T.x_BadDeeds.g rfl) (fun _ ru => ru)) pa_n))) (lnS (lnS (lnS ln0))))))))
      (s_cons (s_set (i := 3) (ps_set (i := 3) sc_law_kinds.nd rfl (by first | exact Or.inl rfl | exact Or.inr rfl) (p_op o_add (p_var 3 (pv 3)) (p_new (e_lst (pa_c (p_isK hz hfl hxo hht (row_tab T.ki_BadCase kitB_ok) (exk_all T.xk) (pv 4) (by rfl) T.z_isinstance (pe_glob (v := .ref T.x_BadCase.C) (by rfl) T.x_BadCase.g rfl) (fun _ ru => ru)) (pa_c (p_isK hz hfl hxo hht (row_tab T.ki_BadOrder kitB_ok) (exk_all T.xk) (pv 4) (by rfl) T.z_isinstance (pe_glob (v := .ref T.x_BadOrder.C) (by rfl) T.x_BadOrder.g rfl) (fun _ ru => ru)) (pa_c (p_isK hz hfl hxo hht (row_tab T.ki_BadLook kitB_ok) (exk_all T.xk) (pv 4) (by rfl) T.z_isinstance (pe_glob (v := .ref T.x_BadLook.C) (by rfl) T.x_BadLook.g rfl) (fun _ ru => ru)) pa_n))) (lnS (lnS (lnS ln0))))))))
      (s_cons (s_set (i := 3) (ps_set (i := 3) sc_law_kinds.nd rfl (by first | exact Or.inl rfl | exact Or.inr rfl) (p_op o_add (p_var 3 (pv 3)) (p_new (e_lst (pa_c (p_isK hz hfl hxo hht (row_tab T.ki_BadKnown kitB_ok) (exk_all T.xk) (pv 4) (by rfl) T.z_isinstance (pe_glob (v := .ref T.x_BadKnown.C) (by rfl) T.x_BadKnown.g rfl) (fun _ ru => ru)) (pa_c (p_isK hz hfl hxo hht (row_tab T.ki_BadClash kitB_ok) (exk_all T.xk) (pv 4) (by rfl) T.z_isinstance (pe_glob (v := .ref T.x_BadClash.C) (by rfl) T.x_BadClash.g rfl) (fun _ ru => ru)) (pa_c (p_isK hz hfl hxo hht (row_tab T.ki_BadLot kitB_ok) (exk_all T.xk) (pv 4) (by rfl) T.z_isinstance (pe_glob (v := .ref T.x_BadLot.C) (by rfl) T.x_BadLot.g rfl) (fun _ ru => ru)) pa_n))) (lnS (lnS (lnS ln0))))))))
      (s_cons (s_set (i := 3) (ps_set (i := 3) sc_law_kinds.nd rfl (by first | exact Or.inl rfl | exact Or.inr rfl) (p_op o_add (p_var 3 (pv 3)) (p_new (e_lst (pa_c (p_isK hz hfl hxo hht (row_tab T.ki_TooMany kitB_ok) (exk_all T.xk) (pv 4) (by rfl) T.z_isinstance (pe_glob (v := .ref T.x_TooMany.C) (by rfl) T.x_TooMany.g rfl) (fun _ ru => ru)) (pa_c (p_isK hz hfl hxo hht (row_tab T.ki_NotSure kitB_ok) (exk_all T.xk) (pv 4) (by rfl) T.z_isinstance (pe_glob (v := .ref T.x_NotSure.C) (by rfl) T.x_NotSure.g rfl) (fun _ ru => ru)) (pa_c (p_isK hz hfl hxo hht (row_tab T.ki_BadEvent kitB_ok) (exk_all T.xk) (pv 4) (by rfl) T.z_isinstance (pe_glob (v := .ref T.x_BadEvent.C) (by rfl) T.x_BadEvent.g rfl) (fun _ ru => ru)) pa_n))) (lnS (lnS (lnS ln0))))))))
      (s_cons (s_set (i := 3) (ps_set (i := 3) sc_law_kinds.nd rfl (by first | exact Or.inl rfl | exact Or.inr rfl) (p_op o_add (p_var 3 (pv 3)) (p_new (e_lst (pa_c (p_isK hz hfl hxo hht (row_tab T.ki_BadSpread kitB_ok) (exk_all T.xk) (pv 4) (by rfl) T.z_isinstance (pe_glob (v := .ref T.x_BadSpread.C) (by rfl) T.x_BadSpread.g rfl) (fun _ ru => ru)) (pa_c (p_isK hz hfl hxo hht (row_tab T.ki_NothingToUndo kitB_ok) (exk_all T.xk) (pv 4) (by rfl) T.z_isinstance (pe_glob (v := .ref T.x_NothingToUndo.C) (by rfl) T.x_NothingToUndo.g rfl) (fun _ ru => ru)) (pa_c (p_isK hz hfl hxo hht (row_tab T.ki_BadText kitB_ok) (exk_all T.xk) (pv 4) (by rfl) T.z_isinstance (pe_glob (v := .ref T.x_BadText.C) (by rfl) T.x_BadText.g rfl) (fun _ ru => ru)) pa_n))) (lnS (lnS (lnS ln0))))))))
      (s_cons (s_set (i := 3) (ps_set (i := 3) sc_law_kinds.nd rfl (by first | exact Or.inl rfl | exact Or.inr rfl) (p_op o_add (p_var 3 (pv 3)) (p_new (e_lst (pa_c (p_isK hz hfl hxo hht (row_tab T.ki_BadCommand kitB_ok) (exk_all T.xk) (pv 4) (by rfl) T.z_isinstance (pe_glob (v := .ref T.x_BadCommand.C) (by rfl) T.x_BadCommand.g rfl) (fun _ ru => ru)) (pa_c (p_isK hz hfl hxo hht (row_tab T.ki_NoCase kitB_ok) (exk_all T.xk) (pv 4) (by rfl) T.z_isinstance (pe_glob (v := .ref T.x_NoCase.C) (by rfl) T.x_NoCase.g rfl) (fun _ ru => ru)) (pa_c (p_isK hz hfl hxo hht (row_tab T.ki_BadClaim kitB_ok) (exk_all T.xk) (pv 4) (by rfl) T.z_isinstance (pe_glob (v := .ref T.x_BadClaim.C) (by rfl) T.x_BadClaim.g rfl) (fun _ ru => ru)) pa_n))) (lnS (lnS (lnS ln0))))))))
      (s_cons (s_set (i := 3) (ps_set (i := 3) sc_law_kinds.nd rfl (by first | exact Or.inl rfl | exact Or.inr rfl) (p_op o_add (p_var 3 (pv 3)) (p_new (e_lst (pa_c (p_isK hz hfl hxo hht (row_tab T.ki_BadPeople kitB_ok) (exk_all T.xk) (pv 4) (by rfl) T.z_isinstance (pe_glob (v := .ref T.x_BadPeople.C) (by rfl) T.x_BadPeople.g rfl) (fun _ ru => ru)) (pa_c (p_isK hz hfl hxo hht (row_tab T.ki_Full kitB_ok) (exk_all T.xk) (pv 4) (by rfl) T.z_isinstance (pe_glob (v := .ref T.x_Full.C) (by rfl) T.x_Full.g rfl) (fun _ ru => ru)) (pa_c (p_isK hz hfl hxo hht (row_tab T.ki_ValueError kitB_ok) (exk_all T.xk) (pv 4) (by rfl) T.z_isinstance (pe_bltn (v := .ty "ValueError") (by rfl) T.z_ValueError (by decide +kernel) rfl) (fun _ ru => ru)) pa_n))) (lnS (lnS (lnS ln0))))))))
      s_nil))))))))))
      (s_cons (s_ret (p_var 3 (pv 3)))
      s_nil)))
theorem ok_law (T : Top P K mg w) : FnOk P w K mg base CX0 5 T.law.a T.law.d ["_law_script"] (spP K 1 G_law) :=
  fn_rule' (body := b_law) (G := G_law) (N := nm_law) (sc := scp_law) (n := 1) (m := 8) (k := 4) T.law rfl sc_law (by decide) rfl rfl rfl fun cdv A outer s H E F hr hF =>
    (s_cons (s_set (i := 1) (ps_set (i := 1) sc_law.nd rfl (by first | exact Or.inl rfl | exact Or.inr rfl) (p_op o_sub (p_op o_mod (e_callI T.law_cell_at (ok_law_cell_at T) (hr.mono (by decide)) (pa_c (p_var 0 (pv 0)) (pa_c p_int pa_n)) (lnS (lnS ln0))) p_int) p_int)))
      (s_cons (s_set (i := 2) (ps_set (i := 2) sc_law.nd rfl (by first | exact Or.inl rfl | exact Or.inr rfl) (p_op o_mod (e_callI T.law_cell_at (ok_law_cell_at T) (hr.mono (by decide)) (pa_c (p_var 0 (pv 0)) (pa_c p_int pa_n)) (lnS (lnS ln0))) (p_op o_pow p_int p_int))))
      (s_cons (s_for (t := (.one 3)) (f := law_f2) PassesOwn.never rfl (i_range1 (by rfl) T.z_range (pa_c p_int pa_n)) (g_one (pg_name (i := 3) sc_law.nd rfl (by first | exact Or.inl rfl | exact Or.inr rfl))) (s_cons (s_if (pt_cmp' (o_ne hr.units) (e_callI T.law_kinds (ok_law_kinds T) (hr.mono (by decide)) (pa_c (p_var 3 (pv 3)) (pa_c (p_var 1 (pv 1)) (pa_c (p_var 2 (pv 2)) pa_n))) (lnS (lnS (lnS ln0)))) (p_op o_add (p_new (n_comp (own := [("_law_other", 7)]) (t := (.one 7)) (cond := noIf) (elt := law_e1) rfl sc_law.nd (i_j (i_range1 (by rfl) T.z_range (pa_c p_int pa_n))) (blkOk_by (N := nm_law) (sc := scp_law) (by decide +kernel)) (by decide) (fun F _ _ _ _ _ => (g_one (pg_name (i := 7) sc_law.nd rfl (by first | exact Or.inl rfl | exact Or.inr rfl)))) (fun _ _ _ _ _ => pts_no) (fun F _ _ _ _ _ => (p_cmp (o_eq hr.units) (p_var 7 (pv 7)) (p_var 3 (pv 3)) (nomark _))))) (p_new (e_lst (pa_c p_bool pa_n) (lnS ln0)))) (nomark _)) (s_cons (s_ret p_bool)
      s_nil) s_nil)
      s_nil))
      (s_cons (s_set (i := 4) (ps_set (i := 4) sc_law.nd rfl (by first | exact Or.inl rfl | exact Or.inr rfl) (p_un u_neg p_int)))
      (s_cons (s_tryAs (cv := .ref T.x_BadDeeds.C) (xm := xmT T) (i := 5) (h := fun xc fs => (sq (sSet 4 (exF 5 [7] xc fs)) sNil)) sc_law.nd rfl rfl rfl rfl ⟨by rfl, by decide, .inl T.x_BadDeeds.g⟩ takes0 (.inl hF) (row_tab T.xr_BadDeeds exmB_ok) (fun pn xe F hx tk po =>
      (s_cons (s_doX (x_call T.law_low (ok_law_low T) (hr.mono (by decide)) hx tk (pa_c p_int (pa_c (p_var 1 (pv 1)) pa_n)) (lnS (lnS ln0))))
      s_nil)) (fun a oe cls d pn xc fs F hz hfl hxo hht hF =>
      (s_cons (s_set (i := 4) (ps_set (i := 4) sc_law.nd rfl (by first | exact Or.inl rfl | exact Or.inr rfl) (p_exF hz hfl hxo hht (tg_1 T.xm_BadDeeds rfl) (pv 5))))
      s_nil)))
      (s_cons (s_set (i := 6) (ps_set (i := 6) sc_law.nd rfl (by first | exact Or.inl rfl | exact Or.inr rfl) (p_un u_neg p_int)))
      (s_cons (s_tryAs (cv := .ref T.x_BadText.C) (xm := xmT T) (i := 5) (h := fun xc fs => (sq (sSet 6 (exF 5 [19] xc fs)) sNil)) sc_law.nd rfl rfl rfl rfl ⟨by rfl, by decide, .inl T.x_BadText.g⟩ takes0 (.inl hF) (row_tab T.xr_BadText exmB_ok) (fun pn xe F hx tk po =>
      (s_cons (s_doX (x_call T.law_high (ok_law_high T) (hr.mono (by decide)) hx tk (pa_c p_int (pa_c (p_var 2 (pv 2)) pa_n)) (lnS (lnS ln0))))
      s_nil)) (fun a oe cls d pn xc fs F hz hfl hxo hht hF =>
      (s_cons (s_set (i := 6) (ps_set (i := 6) sc_law.nd rfl (by first | exact Or.inl rfl | exact Or.inr rfl) (p_exF hz hfl hxo hht (tg_1 T.xm_BadText rfl) (pv 5))))
      s_nil)))
      (s_cons (s_if (t_w (w_or (t_tru (p_isi (T := "bool") (p_var 4 (pv 4)) (by decide) (by rfl) T.z_isinstance (by rfl) T.z_bool (by decide +kernel))) (w_or1 (t_tru (p_isi (T := "bool") (p_var 6 (pv 6)) (by decide) (by rfl) T.z_isinstance (by rfl) T.z_bool (by decide +kernel)))))) (s_cons (s_ret p_bool)
      s_nil) s_nil)
      (s_cons (s_ret (p_and (p_isi (T := "int") (p_var 4 (pv 4)) (by decide) (by rfl) T.z_isinstance (by rfl) T.z_int (by decide +kernel)) (p_and (p_cmp (o_eq hr.units) (p_var 4 (pv 4)) (p_var 1 (pv 1)) (nomark _)) (p_and (p_isi (T := "int") (p_var 6 (pv 6)) (by decide) (by rfl) T.z_isinstance (by rfl) T.z_int (by decide +kernel)) (p_one (p_cmp (o_eq hr.units) (p_var 6 (pv 6)) (p_var 2 (pv 2)) (nomark _)))))))
      s_nil)))))))))
end

/-! what the top has written -/
theorem all_mk {l : PySem.W.OpenLaw} {w : World} {K : PySem.W.Frag} {h : Heap} {mg : Str → Option Value} {fa : Addr} (X : K.In h) (G : h.Ns mainGlobals mg) (hfa : mg "law" = some (.ref fa))
    {f_law_cell_at f_law_high f_law_low f_law_kinds f_law : Addr} {od_law_cell_at an_law_cell_at od_law_high an_law_high od_law_low an_law_low od_law_kinds an_law_kinds od_law an_law : Option Addr} {sl_law_cell_at sl_law_high sl_law_low sl_law_kinds sl_law : Array (Option Value)} {oc_law_cell_at kV_law_cell_at dc_law_cell_at pm_law_cell_at cd_law_cell_at ct_law_cell_at oc_law_high kV_law_high dc_law_high pm_law_high cd_law_high ct_law_high oc_law_low kV_law_low dc_law_low pm_law_low cd_law_low ct_law_low oc_law_kinds kV_law_kinds dc_law_kinds pm_law_kinds cd_law_kinds ct_law_kinds oc_law kV_law dc_law pm_law cd_law ct_law : Value}
    (a_law_cell_at : PySem.W.nsIn K mainGlobals "_law_cell_at" = some (some (.ref f_law_cell_at))) (l_law_cell_at : K.lookup f_law_cell_at = some ⟨oc_law_cell_at, od_law_cell_at, .func (PySem.W.fnOf "_law_cell_at" "_law_cell_at" (defArgs s_law_cell_at) (defBody s_law_cell_at) (defScope s_law_cell_at) .none kV_law_cell_at dc_law_cell_at pm_law_cell_at an_law_cell_at cd_law_cell_at ct_law_cell_at), sl_law_cell_at⟩) (c_law_cell_at : PySem.W.codeIn K cd_law_cell_at "_law_cell_at" = true) (k_law_cell_at : PySem.W.keepIn K (.ref f_law_cell_at) = true)
    (a_law_high : PySem.W.nsIn K mainGlobals "_law_high" = some (some (.ref f_law_high))) (l_law_high : K.lookup f_law_high = some ⟨oc_law_high, od_law_high, .func (PySem.W.fnOf "_law_high" "_law_high" (defArgs s_law_high) (defBody s_law_high) (defScope s_law_high) .none kV_law_high dc_law_high pm_law_high an_law_high cd_law_high ct_law_high), sl_law_high⟩) (c_law_high : PySem.W.codeIn K cd_law_high "_law_high" = true) (k_law_high : PySem.W.keepIn K (.ref f_law_high) = true)
    (a_law_low : PySem.W.nsIn K mainGlobals "_law_low" = some (some (.ref f_law_low))) (l_law_low : K.lookup f_law_low = some ⟨oc_law_low, od_law_low, .func (PySem.W.fnOf "_law_low" "_law_low" (defArgs s_law_low) (defBody s_law_low) (defScope s_law_low) .none kV_law_low dc_law_low pm_law_low an_law_low cd_law_low ct_law_low), sl_law_low⟩) (c_law_low : PySem.W.codeIn K cd_law_low "_law_low" = true) (k_law_low : PySem.W.keepIn K (.ref f_law_low) = true)
    (a_law_kinds : PySem.W.nsIn K mainGlobals "_law_kinds" = some (some (.ref f_law_kinds))) (l_law_kinds : K.lookup f_law_kinds = some ⟨oc_law_kinds, od_law_kinds, .func (PySem.W.fnOf "_law_kinds" "_law_kinds" (defArgs s_law_kinds) (defBody s_law_kinds) (defScope s_law_kinds) .none kV_law_kinds dc_law_kinds pm_law_kinds an_law_kinds cd_law_kinds ct_law_kinds), sl_law_kinds⟩) (c_law_kinds : PySem.W.codeIn K cd_law_kinds "_law_kinds" = true) (k_law_kinds : PySem.W.keepIn K (.ref f_law_kinds) = true)
    (a_law : PySem.W.nsIn K mainGlobals "law" = some (some (.ref f_law))) (l_law : K.lookup f_law = some ⟨oc_law, od_law, .func (PySem.W.fnOf "law" "law" (defArgs s_law) (defBody s_law) (defScope s_law) .none kV_law dc_law pm_law an_law cd_law ct_law), sl_law⟩) (c_law : PySem.W.codeIn K cd_law "law" = true) (k_law : PySem.W.keepIn K (.ref f_law) = true)
    {C_SightError : Addr} (xg_SightError : PySem.W.nsIn K mainGlobals "SightError" = some (some (.ref C_SightError))) (xq_SightError : PySem.W.excIn K C_SightError baseVE "ValueError.__new__" = true) (xk_SightError : PySem.W.keepIn K (.ref C_SightError) = true) (xb_SightError : PySem.W.subIn K (.ref C_SightError) (.type "BaseException") = some true) (xt_SightError : PySem.W.typeIn K (.ref C_SightError) = some (.type "type")) (xh_SightError : PySem.W.hasDictIn K C_SightError = true)
    {C_BadHouse : Addr} (xg_BadHouse : PySem.W.nsIn K mainGlobals "BadHouse" = some (some (.ref C_BadHouse))) (xq_BadHouse : PySem.W.excIn K C_BadHouse baseVE "ValueError.__new__" = true) (xk_BadHouse : PySem.W.keepIn K (.ref C_BadHouse) = true) (xb_BadHouse : PySem.W.subIn K (.ref C_BadHouse) (.type "BaseException") = some true) (xt_BadHouse : PySem.W.typeIn K (.ref C_BadHouse) = some (.type "type")) (xh_BadHouse : PySem.W.hasDictIn K C_BadHouse = true)
    {C_BadRule : Addr} (xg_BadRule : PySem.W.nsIn K mainGlobals "BadRule" = some (some (.ref C_BadRule))) (xq_BadRule : PySem.W.excIn K C_BadRule baseVE "ValueError.__new__" = true) (xk_BadRule : PySem.W.keepIn K (.ref C_BadRule) = true) (xb_BadRule : PySem.W.subIn K (.ref C_BadRule) (.type "BaseException") = some true) (xt_BadRule : PySem.W.typeIn K (.ref C_BadRule) = some (.type "type")) (xh_BadRule : PySem.W.hasDictIn K C_BadRule = true)
    {C_BadState : Addr} (xg_BadState : PySem.W.nsIn K mainGlobals "BadState" = some (some (.ref C_BadState))) (xq_BadState : PySem.W.excIn K C_BadState baseVE "ValueError.__new__" = true) (xk_BadState : PySem.W.keepIn K (.ref C_BadState) = true) (xb_BadState : PySem.W.subIn K (.ref C_BadState) (.type "BaseException") = some true) (xt_BadState : PySem.W.typeIn K (.ref C_BadState) = some (.type "type")) (xh_BadState : PySem.W.hasDictIn K C_BadState = true)
    {C_BadPerson : Addr} (xg_BadPerson : PySem.W.nsIn K mainGlobals "BadPerson" = some (some (.ref C_BadPerson))) (xq_BadPerson : PySem.W.excIn K C_BadPerson baseVE "ValueError.__new__" = true) (xk_BadPerson : PySem.W.keepIn K (.ref C_BadPerson) = true) (xb_BadPerson : PySem.W.subIn K (.ref C_BadPerson) (.type "BaseException") = some true) (xt_BadPerson : PySem.W.typeIn K (.ref C_BadPerson) = some (.type "type")) (xh_BadPerson : PySem.W.hasDictIn K C_BadPerson = true)
    {C_BadFolder : Addr} (xg_BadFolder : PySem.W.nsIn K mainGlobals "BadFolder" = some (some (.ref C_BadFolder))) (xq_BadFolder : PySem.W.excIn K C_BadFolder baseVE "ValueError.__new__" = true) (xk_BadFolder : PySem.W.keepIn K (.ref C_BadFolder) = true) (xb_BadFolder : PySem.W.subIn K (.ref C_BadFolder) (.type "BaseException") = some true) (xt_BadFolder : PySem.W.typeIn K (.ref C_BadFolder) = some (.type "type")) (xh_BadFolder : PySem.W.hasDictIn K C_BadFolder = true)
    {C_BadDeed : Addr} (xg_BadDeed : PySem.W.nsIn K mainGlobals "BadDeed" = some (some (.ref C_BadDeed))) (xq_BadDeed : PySem.W.excIn K C_BadDeed baseVE "ValueError.__new__" = true) (xk_BadDeed : PySem.W.keepIn K (.ref C_BadDeed) = true) (xb_BadDeed : PySem.W.subIn K (.ref C_BadDeed) (.type "BaseException") = some true) (xt_BadDeed : PySem.W.typeIn K (.ref C_BadDeed) = some (.type "type")) (xh_BadDeed : PySem.W.hasDictIn K C_BadDeed = true)
    {C_BadDeeds : Addr} (xg_BadDeeds : PySem.W.nsIn K mainGlobals "BadDeeds" = some (some (.ref C_BadDeeds))) (xk_BadDeeds : PySem.W.keepIn K (.ref C_BadDeeds) = true) (xb_BadDeeds : PySem.W.subIn K (.ref C_BadDeeds) (.type "BaseException") = some true) (xt_BadDeeds : PySem.W.typeIn K (.ref C_BadDeeds) = some (.type "type")) (xh_BadDeeds : PySem.W.hasDictIn K C_BadDeeds = true)
    {C_BadCase : Addr} (xg_BadCase : PySem.W.nsIn K mainGlobals "BadCase" = some (some (.ref C_BadCase))) (xq_BadCase : PySem.W.excIn K C_BadCase baseVE "ValueError.__new__" = true) (xk_BadCase : PySem.W.keepIn K (.ref C_BadCase) = true) (xb_BadCase : PySem.W.subIn K (.ref C_BadCase) (.type "BaseException") = some true) (xt_BadCase : PySem.W.typeIn K (.ref C_BadCase) = some (.type "type")) (xh_BadCase : PySem.W.hasDictIn K C_BadCase = true)
    {C_BadOrder : Addr} (xg_BadOrder : PySem.W.nsIn K mainGlobals "BadOrder" = some (some (.ref C_BadOrder))) (xq_BadOrder : PySem.W.excIn K C_BadOrder baseVE "ValueError.__new__" = true) (xk_BadOrder : PySem.W.keepIn K (.ref C_BadOrder) = true) (xb_BadOrder : PySem.W.subIn K (.ref C_BadOrder) (.type "BaseException") = some true) (xt_BadOrder : PySem.W.typeIn K (.ref C_BadOrder) = some (.type "type")) (xh_BadOrder : PySem.W.hasDictIn K C_BadOrder = true)
    {C_BadLook : Addr} (xg_BadLook : PySem.W.nsIn K mainGlobals "BadLook" = some (some (.ref C_BadLook))) (xq_BadLook : PySem.W.excIn K C_BadLook baseVE "ValueError.__new__" = true) (xk_BadLook : PySem.W.keepIn K (.ref C_BadLook) = true) (xb_BadLook : PySem.W.subIn K (.ref C_BadLook) (.type "BaseException") = some true) (xt_BadLook : PySem.W.typeIn K (.ref C_BadLook) = some (.type "type")) (xh_BadLook : PySem.W.hasDictIn K C_BadLook = true)
    {C_BadKnown : Addr} (xg_BadKnown : PySem.W.nsIn K mainGlobals "BadKnown" = some (some (.ref C_BadKnown))) (xq_BadKnown : PySem.W.excIn K C_BadKnown baseVE "ValueError.__new__" = true) (xk_BadKnown : PySem.W.keepIn K (.ref C_BadKnown) = true) (xb_BadKnown : PySem.W.subIn K (.ref C_BadKnown) (.type "BaseException") = some true) (xt_BadKnown : PySem.W.typeIn K (.ref C_BadKnown) = some (.type "type")) (xh_BadKnown : PySem.W.hasDictIn K C_BadKnown = true)
    {C_BadClash : Addr} (xg_BadClash : PySem.W.nsIn K mainGlobals "BadClash" = some (some (.ref C_BadClash))) (xq_BadClash : PySem.W.excIn K C_BadClash baseVE "ValueError.__new__" = true) (xk_BadClash : PySem.W.keepIn K (.ref C_BadClash) = true) (xb_BadClash : PySem.W.subIn K (.ref C_BadClash) (.type "BaseException") = some true) (xt_BadClash : PySem.W.typeIn K (.ref C_BadClash) = some (.type "type")) (xh_BadClash : PySem.W.hasDictIn K C_BadClash = true)
    {C_BadLot : Addr} (xg_BadLot : PySem.W.nsIn K mainGlobals "BadLot" = some (some (.ref C_BadLot))) (xq_BadLot : PySem.W.excIn K C_BadLot baseVE "ValueError.__new__" = true) (xk_BadLot : PySem.W.keepIn K (.ref C_BadLot) = true) (xb_BadLot : PySem.W.subIn K (.ref C_BadLot) (.type "BaseException") = some true) (xt_BadLot : PySem.W.typeIn K (.ref C_BadLot) = some (.type "type")) (xh_BadLot : PySem.W.hasDictIn K C_BadLot = true)
    {C_TooMany : Addr} (xg_TooMany : PySem.W.nsIn K mainGlobals "TooMany" = some (some (.ref C_TooMany))) (xq_TooMany : PySem.W.excIn K C_TooMany baseVE "ValueError.__new__" = true) (xk_TooMany : PySem.W.keepIn K (.ref C_TooMany) = true) (xb_TooMany : PySem.W.subIn K (.ref C_TooMany) (.type "BaseException") = some true) (xt_TooMany : PySem.W.typeIn K (.ref C_TooMany) = some (.type "type")) (xh_TooMany : PySem.W.hasDictIn K C_TooMany = true)
    {C_NotSure : Addr} (xg_NotSure : PySem.W.nsIn K mainGlobals "NotSure" = some (some (.ref C_NotSure))) (xq_NotSure : PySem.W.excIn K C_NotSure baseVE "ValueError.__new__" = true) (xk_NotSure : PySem.W.keepIn K (.ref C_NotSure) = true) (xb_NotSure : PySem.W.subIn K (.ref C_NotSure) (.type "BaseException") = some true) (xt_NotSure : PySem.W.typeIn K (.ref C_NotSure) = some (.type "type")) (xh_NotSure : PySem.W.hasDictIn K C_NotSure = true)
    {C_BadEvent : Addr} (xg_BadEvent : PySem.W.nsIn K mainGlobals "BadEvent" = some (some (.ref C_BadEvent))) (xq_BadEvent : PySem.W.excIn K C_BadEvent baseVE "ValueError.__new__" = true) (xk_BadEvent : PySem.W.keepIn K (.ref C_BadEvent) = true) (xb_BadEvent : PySem.W.subIn K (.ref C_BadEvent) (.type "BaseException") = some true) (xt_BadEvent : PySem.W.typeIn K (.ref C_BadEvent) = some (.type "type")) (xh_BadEvent : PySem.W.hasDictIn K C_BadEvent = true)
    {C_BadSpread : Addr} (xg_BadSpread : PySem.W.nsIn K mainGlobals "BadSpread" = some (some (.ref C_BadSpread))) (xq_BadSpread : PySem.W.excIn K C_BadSpread baseVE "ValueError.__new__" = true) (xk_BadSpread : PySem.W.keepIn K (.ref C_BadSpread) = true) (xb_BadSpread : PySem.W.subIn K (.ref C_BadSpread) (.type "BaseException") = some true) (xt_BadSpread : PySem.W.typeIn K (.ref C_BadSpread) = some (.type "type")) (xh_BadSpread : PySem.W.hasDictIn K C_BadSpread = true)
    {C_NothingToUndo : Addr} (xg_NothingToUndo : PySem.W.nsIn K mainGlobals "NothingToUndo" = some (some (.ref C_NothingToUndo))) (xq_NothingToUndo : PySem.W.excIn K C_NothingToUndo baseVE "ValueError.__new__" = true) (xk_NothingToUndo : PySem.W.keepIn K (.ref C_NothingToUndo) = true) (xb_NothingToUndo : PySem.W.subIn K (.ref C_NothingToUndo) (.type "BaseException") = some true) (xt_NothingToUndo : PySem.W.typeIn K (.ref C_NothingToUndo) = some (.type "type")) (xh_NothingToUndo : PySem.W.hasDictIn K C_NothingToUndo = true)
    {C_BadText : Addr} (xg_BadText : PySem.W.nsIn K mainGlobals "BadText" = some (some (.ref C_BadText))) (xk_BadText : PySem.W.keepIn K (.ref C_BadText) = true) (xb_BadText : PySem.W.subIn K (.ref C_BadText) (.type "BaseException") = some true) (xt_BadText : PySem.W.typeIn K (.ref C_BadText) = some (.type "type")) (xh_BadText : PySem.W.hasDictIn K C_BadText = true)
    {C_BadCommand : Addr} (xg_BadCommand : PySem.W.nsIn K mainGlobals "BadCommand" = some (some (.ref C_BadCommand))) (xq_BadCommand : PySem.W.excIn K C_BadCommand baseVE "ValueError.__new__" = true) (xk_BadCommand : PySem.W.keepIn K (.ref C_BadCommand) = true) (xb_BadCommand : PySem.W.subIn K (.ref C_BadCommand) (.type "BaseException") = some true) (xt_BadCommand : PySem.W.typeIn K (.ref C_BadCommand) = some (.type "type")) (xh_BadCommand : PySem.W.hasDictIn K C_BadCommand = true)
    {C_NoCase : Addr} (xg_NoCase : PySem.W.nsIn K mainGlobals "NoCase" = some (some (.ref C_NoCase))) (xq_NoCase : PySem.W.excIn K C_NoCase baseVE "ValueError.__new__" = true) (xk_NoCase : PySem.W.keepIn K (.ref C_NoCase) = true) (xb_NoCase : PySem.W.subIn K (.ref C_NoCase) (.type "BaseException") = some true) (xt_NoCase : PySem.W.typeIn K (.ref C_NoCase) = some (.type "type")) (xh_NoCase : PySem.W.hasDictIn K C_NoCase = true)
    {C_BadClaim : Addr} (xg_BadClaim : PySem.W.nsIn K mainGlobals "BadClaim" = some (some (.ref C_BadClaim))) (xq_BadClaim : PySem.W.excIn K C_BadClaim baseVE "ValueError.__new__" = true) (xk_BadClaim : PySem.W.keepIn K (.ref C_BadClaim) = true) (xb_BadClaim : PySem.W.subIn K (.ref C_BadClaim) (.type "BaseException") = some true) (xt_BadClaim : PySem.W.typeIn K (.ref C_BadClaim) = some (.type "type")) (xh_BadClaim : PySem.W.hasDictIn K C_BadClaim = true)
    {C_BadPeople : Addr} (xg_BadPeople : PySem.W.nsIn K mainGlobals "BadPeople" = some (some (.ref C_BadPeople))) (xq_BadPeople : PySem.W.excIn K C_BadPeople baseVE "ValueError.__new__" = true) (xk_BadPeople : PySem.W.keepIn K (.ref C_BadPeople) = true) (xb_BadPeople : PySem.W.subIn K (.ref C_BadPeople) (.type "BaseException") = some true) (xt_BadPeople : PySem.W.typeIn K (.ref C_BadPeople) = some (.type "type")) (xh_BadPeople : PySem.W.hasDictIn K C_BadPeople = true)
    {C_Full : Addr} (xg_Full : PySem.W.nsIn K mainGlobals "Full" = some (some (.ref C_Full))) (xq_Full : PySem.W.excIn K C_Full baseVE "ValueError.__new__" = true) (xk_Full : PySem.W.keepIn K (.ref C_Full) = true) (xb_Full : PySem.W.subIn K (.ref C_Full) (.type "BaseException") = some true) (xt_Full : PySem.W.typeIn K (.ref C_Full) = some (.type "type")) (xh_Full : PySem.W.hasDictIn K C_Full = true)
    (xr_SightError : rowOk (exmB K (.ref C_SightError)) [(1, (C_BadHouse, none), true), (2, (C_BadRule, none), true), (3, (C_BadState, none), true), (4, (C_BadPerson, none), true), (5, (C_BadFolder, none), true), (6, (C_BadDeed, none), true), (7, (C_BadDeeds, some "place"), true), (8, (C_BadCase, none), true), (9, (C_BadOrder, none), true), (10, (C_BadLook, none), true), (11, (C_BadKnown, none), true), (12, (C_BadClash, none), true), (13, (C_BadLot, none), true), (14, (C_TooMany, none), true), (15, (C_NotSure, none), true), (16, (C_BadEvent, none), true), (17, (C_BadSpread, none), true), (18, (C_NothingToUndo, none), true), (19, (C_BadText, some "line"), true), (20, (C_BadCommand, none), true), (21, (C_NoCase, none), true), (22, (C_BadClaim, none), true), (23, (C_BadPeople, none), true), (24, (C_Full, none), true)] = true)
    (xr_BadText : rowOk (exmB K (.ref C_BadText)) [(1, (C_BadHouse, none), false), (2, (C_BadRule, none), false), (3, (C_BadState, none), false), (4, (C_BadPerson, none), false), (5, (C_BadFolder, none), false), (6, (C_BadDeed, none), false), (7, (C_BadDeeds, some "place"), false), (8, (C_BadCase, none), false), (9, (C_BadOrder, none), false), (10, (C_BadLook, none), false), (11, (C_BadKnown, none), false), (12, (C_BadClash, none), false), (13, (C_BadLot, none), false), (14, (C_TooMany, none), false), (15, (C_NotSure, none), false), (16, (C_BadEvent, none), false), (17, (C_BadSpread, none), false), (18, (C_NothingToUndo, none), false), (19, (C_BadText, some "line"), true), (20, (C_BadCommand, none), false), (21, (C_NoCase, none), false), (22, (C_BadClaim, none), false), (23, (C_BadPeople, none), false), (24, (C_Full, none), false)] = true)
    (xr_BadDeeds : rowOk (exmB K (.ref C_BadDeeds)) [(1, (C_BadHouse, none), false), (2, (C_BadRule, none), false), (3, (C_BadState, none), false), (4, (C_BadPerson, none), false), (5, (C_BadFolder, none), false), (6, (C_BadDeed, none), false), (7, (C_BadDeeds, some "place"), true), (8, (C_BadCase, none), false), (9, (C_BadOrder, none), false), (10, (C_BadLook, none), false), (11, (C_BadKnown, none), false), (12, (C_BadClash, none), false), (13, (C_BadLot, none), false), (14, (C_TooMany, none), false), (15, (C_NotSure, none), false), (16, (C_BadEvent, none), false), (17, (C_BadSpread, none), false), (18, (C_NothingToUndo, none), false), (19, (C_BadText, some "line"), false), (20, (C_BadCommand, none), false), (21, (C_NoCase, none), false), (22, (C_BadClaim, none), false), (23, (C_BadPeople, none), false), (24, (C_Full, none), false)] = true)
    (ki_ValueError : rowOk (kitB K (.type "ValueError")) [(1, (C_BadHouse, none), true), (2, (C_BadRule, none), true), (3, (C_BadState, none), true), (4, (C_BadPerson, none), true), (5, (C_BadFolder, none), true), (6, (C_BadDeed, none), true), (7, (C_BadDeeds, some "place"), true), (8, (C_BadCase, none), true), (9, (C_BadOrder, none), true), (10, (C_BadLook, none), true), (11, (C_BadKnown, none), true), (12, (C_BadClash, none), true), (13, (C_BadLot, none), true), (14, (C_TooMany, none), true), (15, (C_NotSure, none), true), (16, (C_BadEvent, none), true), (17, (C_BadSpread, none), true), (18, (C_NothingToUndo, none), true), (19, (C_BadText, some "line"), true), (20, (C_BadCommand, none), true), (21, (C_NoCase, none), true), (22, (C_BadClaim, none), true), (23, (C_BadPeople, none), true), (24, (C_Full, none), true)] = true)
    (ki_Full : rowOk (kitB K (.ref C_Full)) [(1, (C_BadHouse, none), false), (2, (C_BadRule, none), false), (3, (C_BadState, none), false), (4, (C_BadPerson, none), false), (5, (C_BadFolder, none), false), (6, (C_BadDeed, none), false), (7, (C_BadDeeds, some "place"), false), (8, (C_BadCase, none), false), (9, (C_BadOrder, none), false), (10, (C_BadLook, none), false), (11, (C_BadKnown, none), false), (12, (C_BadClash, none), false), (13, (C_BadLot, none), false), (14, (C_TooMany, none), false), (15, (C_NotSure, none), false), (16, (C_BadEvent, none), false), (17, (C_BadSpread, none), false), (18, (C_NothingToUndo, none), false), (19, (C_BadText, some "line"), false), (20, (C_BadCommand, none), false), (21, (C_NoCase, none), false), (22, (C_BadClaim, none), false), (23, (C_BadPeople, none), false), (24, (C_Full, none), true)] = true)
    (ki_BadPeople : rowOk (kitB K (.ref C_BadPeople)) [(1, (C_BadHouse, none), false), (2, (C_BadRule, none), false), (3, (C_BadState, none), false), (4, (C_BadPerson, none), false), (5, (C_BadFolder, none), false), (6, (C_BadDeed, none), false), (7, (C_BadDeeds, some "place"), false), (8, (C_BadCase, none), false), (9, (C_BadOrder, none), false), (10, (C_BadLook, none), false), (11, (C_BadKnown, none), false), (12, (C_BadClash, none), false), (13, (C_BadLot, none), false), (14, (C_TooMany, none), false), (15, (C_NotSure, none), false), (16, (C_BadEvent, none), false), (17, (C_BadSpread, none), false), (18, (C_NothingToUndo, none), false), (19, (C_BadText, some "line"), false), (20, (C_BadCommand, none), false), (21, (C_NoCase, none), false), (22, (C_BadClaim, none), false), (23, (C_BadPeople, none), true), (24, (C_Full, none), false)] = true)
    (ki_BadClaim : rowOk (kitB K (.ref C_BadClaim)) [(1, (C_BadHouse, none), false), (2, (C_BadRule, none), false), (3, (C_BadState, none), false), (4, (C_BadPerson, none), false), (5, (C_BadFolder, none), false), (6, (C_BadDeed, none), false), (7, (C_BadDeeds, some "place"), false), (8, (C_BadCase, none), false), (9, (C_BadOrder, none), false), (10, (C_BadLook, none), false), (11, (C_BadKnown, none), false), (12, (C_BadClash, none), false), (13, (C_BadLot, none), false), (14, (C_TooMany, none), false), (15, (C_NotSure, none), false), (16, (C_BadEvent, none), false), (17, (C_BadSpread, none), false), (18, (C_NothingToUndo, none), false), (19, (C_BadText, some "line"), false), (20, (C_BadCommand, none), false), (21, (C_NoCase, none), false), (22, (C_BadClaim, none), true), (23, (C_BadPeople, none), false), (24, (C_Full, none), false)] = true)
    (ki_NoCase : rowOk (kitB K (.ref C_NoCase)) [(1, (C_BadHouse, none), false), (2, (C_BadRule, none), false), (3, (C_BadState, none), false), (4, (C_BadPerson, none), false), (5, (C_BadFolder, none), false), (6, (C_BadDeed, none), false), (7, (C_BadDeeds, some "place"), false), (8, (C_BadCase, none), false), (9, (C_BadOrder, none), false), (10, (C_BadLook, none), false), (11, (C_BadKnown, none), false), (12, (C_BadClash, none), false), (13, (C_BadLot, none), false), (14, (C_TooMany, none), false), (15, (C_NotSure, none), false), (16, (C_BadEvent, none), false), (17, (C_BadSpread, none), false), (18, (C_NothingToUndo, none), false), (19, (C_BadText, some "line"), false), (20, (C_BadCommand, none), false), (21, (C_NoCase, none), true), (22, (C_BadClaim, none), false), (23, (C_BadPeople, none), false), (24, (C_Full, none), false)] = true)
    (ki_BadCommand : rowOk (kitB K (.ref C_BadCommand)) [(1, (C_BadHouse, none), false), (2, (C_BadRule, none), false), (3, (C_BadState, none), false), (4, (C_BadPerson, none), false), (5, (C_BadFolder, none), false), (6, (C_BadDeed, none), false), (7, (C_BadDeeds, some "place"), false), (8, (C_BadCase, none), false), (9, (C_BadOrder, none), false), (10, (C_BadLook, none), false), (11, (C_BadKnown, none), false), (12, (C_BadClash, none), false), (13, (C_BadLot, none), false), (14, (C_TooMany, none), false), (15, (C_NotSure, none), false), (16, (C_BadEvent, none), false), (17, (C_BadSpread, none), false), (18, (C_NothingToUndo, none), false), (19, (C_BadText, some "line"), false), (20, (C_BadCommand, none), true), (21, (C_NoCase, none), false), (22, (C_BadClaim, none), false), (23, (C_BadPeople, none), false), (24, (C_Full, none), false)] = true)
    (ki_BadText : rowOk (kitB K (.ref C_BadText)) [(1, (C_BadHouse, none), false), (2, (C_BadRule, none), false), (3, (C_BadState, none), false), (4, (C_BadPerson, none), false), (5, (C_BadFolder, none), false), (6, (C_BadDeed, none), false), (7, (C_BadDeeds, some "place"), false), (8, (C_BadCase, none), false), (9, (C_BadOrder, none), false), (10, (C_BadLook, none), false), (11, (C_BadKnown, none), false), (12, (C_BadClash, none), false), (13, (C_BadLot, none), false), (14, (C_TooMany, none), false), (15, (C_NotSure, none), false), (16, (C_BadEvent, none), false), (17, (C_BadSpread, none), false), (18, (C_NothingToUndo, none), false), (19, (C_BadText, some "line"), true), (20, (C_BadCommand, none), false), (21, (C_NoCase, none), false), (22, (C_BadClaim, none), false), (23, (C_BadPeople, none), false), (24, (C_Full, none), false)] = true)
    (ki_NothingToUndo : rowOk (kitB K (.ref C_NothingToUndo)) [(1, (C_BadHouse, none), false), (2, (C_BadRule, none), false), (3, (C_BadState, none), false), (4, (C_BadPerson, none), false), (5, (C_BadFolder, none), false), (6, (C_BadDeed, none), false), (7, (C_BadDeeds, some "place"), false), (8, (C_BadCase, none), false), (9, (C_BadOrder, none), false), (10, (C_BadLook, none), false), (11, (C_BadKnown, none), false), (12, (C_BadClash, none), false), (13, (C_BadLot, none), false), (14, (C_TooMany, none), false), (15, (C_NotSure, none), false), (16, (C_BadEvent, none), false), (17, (C_BadSpread, none), false), (18, (C_NothingToUndo, none), true), (19, (C_BadText, some "line"), false), (20, (C_BadCommand, none), false), (21, (C_NoCase, none), false), (22, (C_BadClaim, none), false), (23, (C_BadPeople, none), false), (24, (C_Full, none), false)] = true)
    (ki_BadSpread : rowOk (kitB K (.ref C_BadSpread)) [(1, (C_BadHouse, none), false), (2, (C_BadRule, none), false), (3, (C_BadState, none), false), (4, (C_BadPerson, none), false), (5, (C_BadFolder, none), false), (6, (C_BadDeed, none), false), (7, (C_BadDeeds, some "place"), false), (8, (C_BadCase, none), false), (9, (C_BadOrder, none), false), (10, (C_BadLook, none), false), (11, (C_BadKnown, none), false), (12, (C_BadClash, none), false), (13, (C_BadLot, none), false), (14, (C_TooMany, none), false), (15, (C_NotSure, none), false), (16, (C_BadEvent, none), false), (17, (C_BadSpread, none), true), (18, (C_NothingToUndo, none), false), (19, (C_BadText, some "line"), false), (20, (C_BadCommand, none), false), (21, (C_NoCase, none), false), (22, (C_BadClaim, none), false), (23, (C_BadPeople, none), false), (24, (C_Full, none), false)] = true)
    (ki_BadEvent : rowOk (kitB K (.ref C_BadEvent)) [(1, (C_BadHouse, none), false), (2, (C_BadRule, none), false), (3, (C_BadState, none), false), (4, (C_BadPerson, none), false), (5, (C_BadFolder, none), false), (6, (C_BadDeed, none), false), (7, (C_BadDeeds, some "place"), false), (8, (C_BadCase, none), false), (9, (C_BadOrder, none), false), (10, (C_BadLook, none), false), (11, (C_BadKnown, none), false), (12, (C_BadClash, none), false), (13, (C_BadLot, none), false), (14, (C_TooMany, none), false), (15, (C_NotSure, none), false), (16, (C_BadEvent, none), true), (17, (C_BadSpread, none), false), (18, (C_NothingToUndo, none), false), (19, (C_BadText, some "line"), false), (20, (C_BadCommand, none), false), (21, (C_NoCase, none), false), (22, (C_BadClaim, none), false), (23, (C_BadPeople, none), false), (24, (C_Full, none), false)] = true)
    (ki_NotSure : rowOk (kitB K (.ref C_NotSure)) [(1, (C_BadHouse, none), false), (2, (C_BadRule, none), false), (3, (C_BadState, none), false), (4, (C_BadPerson, none), false), (5, (C_BadFolder, none), false), (6, (C_BadDeed, none), false), (7, (C_BadDeeds, some "place"), false), (8, (C_BadCase, none), false), (9, (C_BadOrder, none), false), (10, (C_BadLook, none), false), (11, (C_BadKnown, none), false), (12, (C_BadClash, none), false), (13, (C_BadLot, none), false), (14, (C_TooMany, none), false), (15, (C_NotSure, none), true), (16, (C_BadEvent, none), false), (17, (C_BadSpread, none), false), (18, (C_NothingToUndo, none), false), (19, (C_BadText, some "line"), false), (20, (C_BadCommand, none), false), (21, (C_NoCase, none), false), (22, (C_BadClaim, none), false), (23, (C_BadPeople, none), false), (24, (C_Full, none), false)] = true)
    (ki_TooMany : rowOk (kitB K (.ref C_TooMany)) [(1, (C_BadHouse, none), false), (2, (C_BadRule, none), false), (3, (C_BadState, none), false), (4, (C_BadPerson, none), false), (5, (C_BadFolder, none), false), (6, (C_BadDeed, none), false), (7, (C_BadDeeds, some "place"), false), (8, (C_BadCase, none), false), (9, (C_BadOrder, none), false), (10, (C_BadLook, none), false), (11, (C_BadKnown, none), false), (12, (C_BadClash, none), false), (13, (C_BadLot, none), false), (14, (C_TooMany, none), true), (15, (C_NotSure, none), false), (16, (C_BadEvent, none), false), (17, (C_BadSpread, none), false), (18, (C_NothingToUndo, none), false), (19, (C_BadText, some "line"), false), (20, (C_BadCommand, none), false), (21, (C_NoCase, none), false), (22, (C_BadClaim, none), false), (23, (C_BadPeople, none), false), (24, (C_Full, none), false)] = true)
    (ki_BadLot : rowOk (kitB K (.ref C_BadLot)) [(1, (C_BadHouse, none), false), (2, (C_BadRule, none), false), (3, (C_BadState, none), false), (4, (C_BadPerson, none), false), (5, (C_BadFolder, none), false), (6, (C_BadDeed, none), false), (7, (C_BadDeeds, some "place"), false), (8, (C_BadCase, none), false), (9, (C_BadOrder, none), false), (10, (C_BadLook, none), false), (11, (C_BadKnown, none), false), (12, (C_BadClash, none), false), (13, (C_BadLot, none), true), (14, (C_TooMany, none), false), (15, (C_NotSure, none), false), (16, (C_BadEvent, none), false), (17, (C_BadSpread, none), false), (18, (C_NothingToUndo, none), false), (19, (C_BadText, some "line"), false), (20, (C_BadCommand, none), false), (21, (C_NoCase, none), false), (22, (C_BadClaim, none), false), (23, (C_BadPeople, none), false), (24, (C_Full, none), false)] = true)
    (ki_BadClash : rowOk (kitB K (.ref C_BadClash)) [(1, (C_BadHouse, none), false), (2, (C_BadRule, none), false), (3, (C_BadState, none), false), (4, (C_BadPerson, none), false), (5, (C_BadFolder, none), false), (6, (C_BadDeed, none), false), (7, (C_BadDeeds, some "place"), false), (8, (C_BadCase, none), false), (9, (C_BadOrder, none), false), (10, (C_BadLook, none), false), (11, (C_BadKnown, none), false), (12, (C_BadClash, none), true), (13, (C_BadLot, none), false), (14, (C_TooMany, none), false), (15, (C_NotSure, none), false), (16, (C_BadEvent, none), false), (17, (C_BadSpread, none), false), (18, (C_NothingToUndo, none), false), (19, (C_BadText, some "line"), false), (20, (C_BadCommand, none), false), (21, (C_NoCase, none), false), (22, (C_BadClaim, none), false), (23, (C_BadPeople, none), false), (24, (C_Full, none), false)] = true)
    (ki_BadKnown : rowOk (kitB K (.ref C_BadKnown)) [(1, (C_BadHouse, none), false), (2, (C_BadRule, none), false), (3, (C_BadState, none), false), (4, (C_BadPerson, none), false), (5, (C_BadFolder, none), false), (6, (C_BadDeed, none), false), (7, (C_BadDeeds, some "place"), false), (8, (C_BadCase, none), false), (9, (C_BadOrder, none), false), (10, (C_BadLook, none), false), (11, (C_BadKnown, none), true), (12, (C_BadClash, none), false), (13, (C_BadLot, none), false), (14, (C_TooMany, none), false), (15, (C_NotSure, none), false), (16, (C_BadEvent, none), false), (17, (C_BadSpread, none), false), (18, (C_NothingToUndo, none), false), (19, (C_BadText, some "line"), false), (20, (C_BadCommand, none), false), (21, (C_NoCase, none), false), (22, (C_BadClaim, none), false), (23, (C_BadPeople, none), false), (24, (C_Full, none), false)] = true)
    (ki_BadLook : rowOk (kitB K (.ref C_BadLook)) [(1, (C_BadHouse, none), false), (2, (C_BadRule, none), false), (3, (C_BadState, none), false), (4, (C_BadPerson, none), false), (5, (C_BadFolder, none), false), (6, (C_BadDeed, none), false), (7, (C_BadDeeds, some "place"), false), (8, (C_BadCase, none), false), (9, (C_BadOrder, none), false), (10, (C_BadLook, none), true), (11, (C_BadKnown, none), false), (12, (C_BadClash, none), false), (13, (C_BadLot, none), false), (14, (C_TooMany, none), false), (15, (C_NotSure, none), false), (16, (C_BadEvent, none), false), (17, (C_BadSpread, none), false), (18, (C_NothingToUndo, none), false), (19, (C_BadText, some "line"), false), (20, (C_BadCommand, none), false), (21, (C_NoCase, none), false), (22, (C_BadClaim, none), false), (23, (C_BadPeople, none), false), (24, (C_Full, none), false)] = true)
    (ki_BadOrder : rowOk (kitB K (.ref C_BadOrder)) [(1, (C_BadHouse, none), false), (2, (C_BadRule, none), false), (3, (C_BadState, none), false), (4, (C_BadPerson, none), false), (5, (C_BadFolder, none), false), (6, (C_BadDeed, none), false), (7, (C_BadDeeds, some "place"), false), (8, (C_BadCase, none), false), (9, (C_BadOrder, none), true), (10, (C_BadLook, none), false), (11, (C_BadKnown, none), false), (12, (C_BadClash, none), false), (13, (C_BadLot, none), false), (14, (C_TooMany, none), false), (15, (C_NotSure, none), false), (16, (C_BadEvent, none), false), (17, (C_BadSpread, none), false), (18, (C_NothingToUndo, none), false), (19, (C_BadText, some "line"), false), (20, (C_BadCommand, none), false), (21, (C_NoCase, none), false), (22, (C_BadClaim, none), false), (23, (C_BadPeople, none), false), (24, (C_Full, none), false)] = true)
    (ki_BadCase : rowOk (kitB K (.ref C_BadCase)) [(1, (C_BadHouse, none), false), (2, (C_BadRule, none), false), (3, (C_BadState, none), false), (4, (C_BadPerson, none), false), (5, (C_BadFolder, none), false), (6, (C_BadDeed, none), false), (7, (C_BadDeeds, some "place"), false), (8, (C_BadCase, none), true), (9, (C_BadOrder, none), false), (10, (C_BadLook, none), false), (11, (C_BadKnown, none), false), (12, (C_BadClash, none), false), (13, (C_BadLot, none), false), (14, (C_TooMany, none), false), (15, (C_NotSure, none), false), (16, (C_BadEvent, none), false), (17, (C_BadSpread, none), false), (18, (C_NothingToUndo, none), false), (19, (C_BadText, some "line"), false), (20, (C_BadCommand, none), false), (21, (C_NoCase, none), false), (22, (C_BadClaim, none), false), (23, (C_BadPeople, none), false), (24, (C_Full, none), false)] = true)
    (ki_BadDeeds : rowOk (kitB K (.ref C_BadDeeds)) [(1, (C_BadHouse, none), false), (2, (C_BadRule, none), false), (3, (C_BadState, none), false), (4, (C_BadPerson, none), false), (5, (C_BadFolder, none), false), (6, (C_BadDeed, none), false), (7, (C_BadDeeds, some "place"), true), (8, (C_BadCase, none), false), (9, (C_BadOrder, none), false), (10, (C_BadLook, none), false), (11, (C_BadKnown, none), false), (12, (C_BadClash, none), false), (13, (C_BadLot, none), false), (14, (C_TooMany, none), false), (15, (C_NotSure, none), false), (16, (C_BadEvent, none), false), (17, (C_BadSpread, none), false), (18, (C_NothingToUndo, none), false), (19, (C_BadText, some "line"), false), (20, (C_BadCommand, none), false), (21, (C_NoCase, none), false), (22, (C_BadClaim, none), false), (23, (C_BadPeople, none), false), (24, (C_Full, none), false)] = true)
    (ki_BadDeed : rowOk (kitB K (.ref C_BadDeed)) [(1, (C_BadHouse, none), false), (2, (C_BadRule, none), false), (3, (C_BadState, none), false), (4, (C_BadPerson, none), false), (5, (C_BadFolder, none), false), (6, (C_BadDeed, none), true), (7, (C_BadDeeds, some "place"), false), (8, (C_BadCase, none), false), (9, (C_BadOrder, none), false), (10, (C_BadLook, none), false), (11, (C_BadKnown, none), false), (12, (C_BadClash, none), false), (13, (C_BadLot, none), false), (14, (C_TooMany, none), false), (15, (C_NotSure, none), false), (16, (C_BadEvent, none), false), (17, (C_BadSpread, none), false), (18, (C_NothingToUndo, none), false), (19, (C_BadText, some "line"), false), (20, (C_BadCommand, none), false), (21, (C_NoCase, none), false), (22, (C_BadClaim, none), false), (23, (C_BadPeople, none), false), (24, (C_Full, none), false)] = true)
    (ki_BadFolder : rowOk (kitB K (.ref C_BadFolder)) [(1, (C_BadHouse, none), false), (2, (C_BadRule, none), false), (3, (C_BadState, none), false), (4, (C_BadPerson, none), false), (5, (C_BadFolder, none), true), (6, (C_BadDeed, none), false), (7, (C_BadDeeds, some "place"), false), (8, (C_BadCase, none), false), (9, (C_BadOrder, none), false), (10, (C_BadLook, none), false), (11, (C_BadKnown, none), false), (12, (C_BadClash, none), false), (13, (C_BadLot, none), false), (14, (C_TooMany, none), false), (15, (C_NotSure, none), false), (16, (C_BadEvent, none), false), (17, (C_BadSpread, none), false), (18, (C_NothingToUndo, none), false), (19, (C_BadText, some "line"), false), (20, (C_BadCommand, none), false), (21, (C_NoCase, none), false), (22, (C_BadClaim, none), false), (23, (C_BadPeople, none), false), (24, (C_Full, none), false)] = true)
    (ki_BadPerson : rowOk (kitB K (.ref C_BadPerson)) [(1, (C_BadHouse, none), false), (2, (C_BadRule, none), false), (3, (C_BadState, none), false), (4, (C_BadPerson, none), true), (5, (C_BadFolder, none), false), (6, (C_BadDeed, none), false), (7, (C_BadDeeds, some "place"), false), (8, (C_BadCase, none), false), (9, (C_BadOrder, none), false), (10, (C_BadLook, none), false), (11, (C_BadKnown, none), false), (12, (C_BadClash, none), false), (13, (C_BadLot, none), false), (14, (C_TooMany, none), false), (15, (C_NotSure, none), false), (16, (C_BadEvent, none), false), (17, (C_BadSpread, none), false), (18, (C_NothingToUndo, none), false), (19, (C_BadText, some "line"), false), (20, (C_BadCommand, none), false), (21, (C_NoCase, none), false), (22, (C_BadClaim, none), false), (23, (C_BadPeople, none), false), (24, (C_Full, none), false)] = true)
    (ki_BadState : rowOk (kitB K (.ref C_BadState)) [(1, (C_BadHouse, none), false), (2, (C_BadRule, none), false), (3, (C_BadState, none), true), (4, (C_BadPerson, none), false), (5, (C_BadFolder, none), false), (6, (C_BadDeed, none), false), (7, (C_BadDeeds, some "place"), false), (8, (C_BadCase, none), false), (9, (C_BadOrder, none), false), (10, (C_BadLook, none), false), (11, (C_BadKnown, none), false), (12, (C_BadClash, none), false), (13, (C_BadLot, none), false), (14, (C_TooMany, none), false), (15, (C_NotSure, none), false), (16, (C_BadEvent, none), false), (17, (C_BadSpread, none), false), (18, (C_NothingToUndo, none), false), (19, (C_BadText, some "line"), false), (20, (C_BadCommand, none), false), (21, (C_NoCase, none), false), (22, (C_BadClaim, none), false), (23, (C_BadPeople, none), false), (24, (C_Full, none), false)] = true)
    (ki_BadRule : rowOk (kitB K (.ref C_BadRule)) [(1, (C_BadHouse, none), false), (2, (C_BadRule, none), true), (3, (C_BadState, none), false), (4, (C_BadPerson, none), false), (5, (C_BadFolder, none), false), (6, (C_BadDeed, none), false), (7, (C_BadDeeds, some "place"), false), (8, (C_BadCase, none), false), (9, (C_BadOrder, none), false), (10, (C_BadLook, none), false), (11, (C_BadKnown, none), false), (12, (C_BadClash, none), false), (13, (C_BadLot, none), false), (14, (C_TooMany, none), false), (15, (C_NotSure, none), false), (16, (C_BadEvent, none), false), (17, (C_BadSpread, none), false), (18, (C_NothingToUndo, none), false), (19, (C_BadText, some "line"), false), (20, (C_BadCommand, none), false), (21, (C_NoCase, none), false), (22, (C_BadClaim, none), false), (23, (C_BadPeople, none), false), (24, (C_Full, none), false)] = true)
    (ki_BadHouse : rowOk (kitB K (.ref C_BadHouse)) [(1, (C_BadHouse, none), true), (2, (C_BadRule, none), false), (3, (C_BadState, none), false), (4, (C_BadPerson, none), false), (5, (C_BadFolder, none), false), (6, (C_BadDeed, none), false), (7, (C_BadDeeds, some "place"), false), (8, (C_BadCase, none), false), (9, (C_BadOrder, none), false), (10, (C_BadLook, none), false), (11, (C_BadKnown, none), false), (12, (C_BadClash, none), false), (13, (C_BadLot, none), false), (14, (C_TooMany, none), false), (15, (C_NotSure, none), false), (16, (C_BadEvent, none), false), (17, (C_BadSpread, none), false), (18, (C_NothingToUndo, none), false), (19, (C_BadText, some "line"), false), (20, (C_BadCommand, none), false), (21, (C_NoCase, none), false), (22, (C_BadClaim, none), false), (23, (C_BadPeople, none), false), (24, (C_Full, none), false)] = true)
    (xk : rowOk (exkB K) [(1, (C_BadHouse, none), true), (2, (C_BadRule, none), true), (3, (C_BadState, none), true), (4, (C_BadPerson, none), true), (5, (C_BadFolder, none), true), (6, (C_BadDeed, none), true), (7, (C_BadDeeds, some "place"), true), (8, (C_BadCase, none), true), (9, (C_BadOrder, none), true), (10, (C_BadLook, none), true), (11, (C_BadKnown, none), true), (12, (C_BadClash, none), true), (13, (C_BadLot, none), true), (14, (C_TooMany, none), true), (15, (C_NotSure, none), true), (16, (C_BadEvent, none), true), (17, (C_BadSpread, none), true), (18, (C_NothingToUndo, none), true), (19, (C_BadText, some "line"), true), (20, (C_BadCommand, none), true), (21, (C_NoCase, none), true), (22, (C_BadClaim, none), true), (23, (C_BadPeople, none), true), (24, (C_Full, none), true)] = true)
    (xm_BadDeeds : ExcM l.prog w K mg C_BadDeeds "place")
    (xm_BadText : ExcM l.prog w K mg C_BadText "line")
    (z_ValueError : PySem.W.nsIn K mainGlobals "ValueError" = some none) (z_bool : PySem.W.nsIn K mainGlobals "bool" = some none) (z_int : PySem.W.nsIn K mainGlobals "int" = some none) (z_isinstance : PySem.W.nsIn K mainGlobals "isinstance" = some none) (z_len : PySem.W.nsIn K mainGlobals "len" = some none) (z_range : PySem.W.nsIn K mainGlobals "range" = some none) :
    ∃ fd : FuncData, (∀ (s : Shared) (v : Value), BindsTo s fd ⟨[v], []⟩ [("_law_script", v)]) ∧ ∀ base : Heap, K.In base → base.Ns mainGlobals mg → FnOk l.prog w K mg base CX0 5 fa fd ["_law_script"] (spP K 1 G_law) := by
  have e := hfa.symm.trans (PySem.W.mg_of X G a_law)
  cases e
  have F_law_cell_at := fun_mk (st := s_law_cell_at) l_law_cell_at c_law_cell_at k_law_cell_at
  have b_law_cell_at := F_law_cell_at.binds (ps := ["_law_script", "_law_k"]) fun _ _ _ _ _ _ us hl => match us, hl with | [_, _], _ => rfl
  have F_law_high := fun_mk (st := s_law_high) l_law_high c_law_high k_law_high
  have b_law_high := F_law_high.binds (ps := ["_law_k", "_law_line"]) fun _ _ _ _ _ _ us hl => match us, hl with | [_, _], _ => rfl
  have F_law_low := fun_mk (st := s_law_low) l_law_low c_law_low k_law_low
  have b_law_low := F_law_low.binds (ps := ["_law_k", "_law_place"]) fun _ _ _ _ _ _ us hl => match us, hl with | [_, _], _ => rfl
  have F_law_kinds := fun_mk (st := s_law_kinds) l_law_kinds c_law_kinds k_law_kinds
  have b_law_kinds := F_law_kinds.binds (ps := ["_law_k", "_law_place", "_law_line"]) fun _ _ _ _ _ _ us hl => match us, hl with | [_, _, _], _ => rfl
  have F_law := fun_mk (st := s_law) l_law c_law k_law
  have b_law := F_law.binds (ps := ["_law_script"]) fun _ _ _ _ _ _ us hl => match us, hl with | [_], _ => rfl
  let T : Top l.prog K mg w :=
    { law_cell_at := ⟨_, _, F_law_cell_at, PySem.W.mg_of X G a_law_cell_at, b_law_cell_at⟩, law_high := ⟨_, _, F_law_high, PySem.W.mg_of X G a_law_high, b_law_high⟩, law_low := ⟨_, _, F_law_low, PySem.W.mg_of X G a_law_low, b_law_low⟩, law_kinds := ⟨_, _, F_law_kinds, PySem.W.mg_of X G a_law_kinds, b_law_kinds⟩, law := ⟨_, _, F_law, PySem.W.mg_of X G a_law, b_law⟩, z_ValueError := PySem.W.mg_none_of X G z_ValueError, z_bool := PySem.W.mg_none_of X G z_bool, z_int := PySem.W.mg_none_of X G z_int, z_isinstance := PySem.W.mg_none_of X G z_isinstance, z_len := PySem.W.mg_none_of X G z_len, z_range := PySem.W.mg_none_of X G z_range, x_SightError := ⟨⟨C_SightError, PySem.W.mg_of X G xg_SightError, xk_SightError, xb_SightError, xt_SightError, xh_SightError⟩, xq_SightError⟩, x_BadHouse := ⟨⟨C_BadHouse, PySem.W.mg_of X G xg_BadHouse, xk_BadHouse, xb_BadHouse, xt_BadHouse, xh_BadHouse⟩, xq_BadHouse⟩, x_BadRule := ⟨⟨C_BadRule, PySem.W.mg_of X G xg_BadRule, xk_BadRule, xb_BadRule, xt_BadRule, xh_BadRule⟩, xq_BadRule⟩, x_BadState := ⟨⟨C_BadState, PySem.W.mg_of X G xg_BadState, xk_BadState, xb_BadState, xt_BadState, xh_BadState⟩, xq_BadState⟩, x_BadPerson := ⟨⟨C_BadPerson, PySem.W.mg_of X G xg_BadPerson, xk_BadPerson, xb_BadPerson, xt_BadPerson, xh_BadPerson⟩, xq_BadPerson⟩, x_BadFolder := ⟨⟨C_BadFolder, PySem.W.mg_of X G xg_BadFolder, xk_BadFolder, xb_BadFolder, xt_BadFolder, xh_BadFolder⟩, xq_BadFolder⟩, x_BadDeed := ⟨⟨C_BadDeed, PySem.W.mg_of X G xg_BadDeed, xk_BadDeed, xb_BadDeed, xt_BadDeed, xh_BadDeed⟩, xq_BadDeed⟩, x_BadDeeds := ⟨C_BadDeeds, PySem.W.mg_of X G xg_BadDeeds, xk_BadDeeds, xb_BadDeeds, xt_BadDeeds, xh_BadDeeds⟩, x_BadCase := ⟨⟨C_BadCase, PySem.W.mg_of X G xg_BadCase, xk_BadCase, xb_BadCase, xt_BadCase, xh_BadCase⟩, xq_BadCase⟩, x_BadOrder := ⟨⟨C_BadOrder, PySem.W.mg_of X G xg_BadOrder, xk_BadOrder, xb_BadOrder, xt_BadOrder, xh_BadOrder⟩, xq_BadOrder⟩, x_BadLook := ⟨⟨C_BadLook, PySem.W.mg_of X G xg_BadLook, xk_BadLook, xb_BadLook, xt_BadLook, xh_BadLook⟩, xq_BadLook⟩, x_BadKnown := ⟨⟨C_BadKnown, PySem.W.mg_of X G xg_BadKnown, xk_BadKnown, xb_BadKnown, xt_BadKnown, xh_BadKnown⟩, xq_BadKnown⟩, x_BadClash := ⟨⟨C_BadClash, PySem.W.mg_of X G xg_BadClash, xk_BadClash, xb_BadClash, xt_BadClash, xh_BadClash⟩, xq_BadClash⟩, x_BadLot := ⟨⟨C_BadLot, PySem.W.mg_of X G xg_BadLot, xk_BadLot, xb_BadLot, xt_BadLot, xh_BadLot⟩, xq_BadLot⟩, x_TooMany := ⟨⟨C_TooMany, PySem.W.mg_of X G xg_TooMany, xk_TooMany, xb_TooMany, xt_TooMany, xh_TooMany⟩, xq_TooMany⟩, x_NotSure := ⟨⟨C_NotSure, PySem.W.mg_of X G xg_NotSure, xk_NotSure, xb_NotSure, xt_NotSure, xh_NotSure⟩, xq_NotSure⟩, x_BadEvent := ⟨⟨C_BadEvent, PySem.W.mg_of X G xg_BadEvent, xk_BadEvent, xb_BadEvent, xt_BadEvent, xh_BadEvent⟩, xq_BadEvent⟩, x_BadSpread := ⟨⟨C_BadSpread, PySem.W.mg_of X G xg_BadSpread, xk_BadSpread, xb_BadSpread, xt_BadSpread, xh_BadSpread⟩, xq_BadSpread⟩, x_NothingToUndo := ⟨⟨C_NothingToUndo, PySem.W.mg_of X G xg_NothingToUndo, xk_NothingToUndo, xb_NothingToUndo, xt_NothingToUndo, xh_NothingToUndo⟩, xq_NothingToUndo⟩, x_BadText := ⟨C_BadText, PySem.W.mg_of X G xg_BadText, xk_BadText, xb_BadText, xt_BadText, xh_BadText⟩, x_BadCommand := ⟨⟨C_BadCommand, PySem.W.mg_of X G xg_BadCommand, xk_BadCommand, xb_BadCommand, xt_BadCommand, xh_BadCommand⟩, xq_BadCommand⟩, x_NoCase := ⟨⟨C_NoCase, PySem.W.mg_of X G xg_NoCase, xk_NoCase, xb_NoCase, xt_NoCase, xh_NoCase⟩, xq_NoCase⟩, x_BadClaim := ⟨⟨C_BadClaim, PySem.W.mg_of X G xg_BadClaim, xk_BadClaim, xb_BadClaim, xt_BadClaim, xh_BadClaim⟩, xq_BadClaim⟩, x_BadPeople := ⟨⟨C_BadPeople, PySem.W.mg_of X G xg_BadPeople, xk_BadPeople, xb_BadPeople, xt_BadPeople, xh_BadPeople⟩, xq_BadPeople⟩, x_Full := ⟨⟨C_Full, PySem.W.mg_of X G xg_Full, xk_Full, xb_Full, xt_Full, xh_Full⟩, xq_Full⟩, xr_SightError := xr_SightError, xr_BadText := xr_BadText, xr_BadDeeds := xr_BadDeeds, ki_ValueError := ki_ValueError, ki_Full := ki_Full, ki_BadPeople := ki_BadPeople, ki_BadClaim := ki_BadClaim, ki_NoCase := ki_NoCase, ki_BadCommand := ki_BadCommand, ki_BadText := ki_BadText, ki_NothingToUndo := ki_NothingToUndo, ki_BadSpread := ki_BadSpread, ki_BadEvent := ki_BadEvent, ki_NotSure := ki_NotSure, ki_TooMany := ki_TooMany, ki_BadLot := ki_BadLot, ki_BadClash := ki_BadClash, ki_BadKnown := ki_BadKnown, ki_BadLook := ki_BadLook, ki_BadOrder := ki_BadOrder, ki_BadCase := ki_BadCase, ki_BadDeeds := ki_BadDeeds, ki_BadDeed := ki_BadDeed, ki_BadFolder := ki_BadFolder, ki_BadPerson := ki_BadPerson, ki_BadState := ki_BadState, ki_BadRule := ki_BadRule, ki_BadHouse := ki_BadHouse, xk := xk, xm_BadDeeds := xm_BadDeeds, xm_BadText := xm_BadText }
  exact ⟨_, fun s v => .of_eq rfl, fun base _ _ => ok_law T⟩
end A
open PySem PySem.W PyProof.Rows
set_option maxHeartbeats 0 in
theorem A.done : PySem.Challenge.rw_sawwhen_k00_whole_errors.Holds := by
  w_on; o_law; k_head; (case hw => w_witness2)
  k_fill
  refine L2.walk_of (l := PySem.Challenge.rw_sawwhen_k00_whole_errors) (n := 63) (k := 5) (x := "_law_script") (CX := fun _ => L2.CX0) (sp := fun w => PL.spP _ 1 M.G_law) rfl (by decide) rfl ⟨rfl, by decide, by decide⟩ (fun w h Y => PySem.W.kIn_of Y) ?F (fun _ _ a ns hl _ hS => PL.law_sp hl hS (Q.math ns hl)) (fun _ _ _ _ _ h => h)
  case F =>
    intro w mg fa h KX G hmg
    refine' A.all_mk KX G hmg ?a_law_cell_at ?l_law_cell_at ?c_law_cell_at ?k_law_cell_at ?a_law_high ?l_law_high ?c_law_high ?k_law_high ?a_law_low ?l_law_low ?c_law_low ?k_law_low ?a_law_kinds ?l_law_kinds ?c_law_kinds ?k_law_kinds ?a_law ?l_law ?c_law ?k_law ?xg_SightError ?xq_SightError ?xk_SightError ?xb_SightError ?xt_SightError ?xh_SightError ?xg_BadHouse ?xq_BadHouse ?xk_BadHouse ?xb_BadHouse ?xt_BadHouse ?xh_BadHouse ?xg_BadRule ?xq_BadRule ?xk_BadRule ?xb_BadRule ?xt_BadRule ?xh_BadRule ?xg_BadState ?xq_BadState ?xk_BadState ?xb_BadState ?xt_BadState ?xh_BadState ?xg_BadPerson ?xq_BadPerson ?xk_BadPerson ?xb_BadPerson ?xt_BadPerson ?xh_BadPerson ?xg_BadFolder ?xq_BadFolder ?xk_BadFolder ?xb_BadFolder ?xt_BadFolder ?xh_BadFolder ?xg_BadDeed ?xq_BadDeed ?xk_BadDeed ?xb_BadDeed ?xt_BadDeed ?xh_BadDeed ?xg_BadDeeds ?xk_BadDeeds ?xb_BadDeeds ?xt_BadDeeds ?xh_BadDeeds ?xg_BadCase ?xq_BadCase ?xk_BadCase ?xb_BadCase ?xt_BadCase ?xh_BadCase ?xg_BadOrder ?xq_BadOrder ?xk_BadOrder ?xb_BadOrder ?xt_BadOrder ?xh_BadOrder ?xg_BadLook ?xq_BadLook ?xk_BadLook ?xb_BadLook ?xt_BadLook ?xh_BadLook ?xg_BadKnown ?xq_BadKnown ?xk_BadKnown ?xb_BadKnown ?xt_BadKnown ?xh_BadKnown ?xg_BadClash ?xq_BadClash ?xk_BadClash ?xb_BadClash ?xt_BadClash ?xh_BadClash ?xg_BadLot ?xq_BadLot ?xk_BadLot ?xb_BadLot ?xt_BadLot ?xh_BadLot ?xg_TooMany ?xq_TooMany ?xk_TooMany ?xb_TooMany ?xt_TooMany ?xh_TooMany ?xg_NotSure ?xq_NotSure ?xk_NotSure ?xb_NotSure ?xt_NotSure ?xh_NotSure ?xg_BadEvent ?xq_BadEvent ?xk_BadEvent ?xb_BadEvent ?xt_BadEvent ?xh_BadEvent ?xg_BadSpread ?xq_BadSpread ?xk_BadSpread ?xb_BadSpread ?xt_BadSpread ?xh_BadSpread ?xg_NothingToUndo ?xq_NothingToUndo ?xk_NothingToUndo ?xb_NothingToUndo ?xt_NothingToUndo ?xh_NothingToUndo ?xg_BadText ?xk_BadText ?xb_BadText ?xt_BadText ?xh_BadText ?xg_BadCommand ?xq_BadCommand ?xk_BadCommand ?xb_BadCommand ?xt_BadCommand ?xh_BadCommand ?xg_NoCase ?xq_NoCase ?xk_NoCase ?xb_NoCase ?xt_NoCase ?xh_NoCase ?xg_BadClaim ?xq_BadClaim ?xk_BadClaim ?xb_BadClaim ?xt_BadClaim ?xh_BadClaim ?xg_BadPeople ?xq_BadPeople ?xk_BadPeople ?xb_BadPeople ?xt_BadPeople ?xh_BadPeople ?xg_Full ?xq_Full ?xk_Full ?xb_Full ?xt_Full ?xh_Full ?xr_SightError ?xr_BadText ?xr_BadDeeds ?ki_ValueError ?ki_Full ?ki_BadPeople ?ki_BadClaim ?ki_NoCase ?ki_BadCommand ?ki_BadText ?ki_NothingToUndo ?ki_BadSpread ?ki_BadEvent ?ki_NotSure ?ki_TooMany ?ki_BadLot ?ki_BadClash ?ki_BadKnown ?ki_BadLook ?ki_BadOrder ?ki_BadCase ?ki_BadDeeds ?ki_BadDeed ?ki_BadFolder ?ki_BadPerson ?ki_BadState ?ki_BadRule ?ki_BadHouse ?xk ?xm_BadDeeds ?xm_BadText ?z_ValueError ?z_bool ?z_int ?z_isinstance ?z_len ?z_range
    (case a_law_cell_at => k_is); (case l_law_cell_at => k_is); (case c_law_cell_at => k_is); (case k_law_cell_at => k_is); (case a_law_high => k_is); (case l_law_high => k_is); (case c_law_high => k_is); (case k_law_high => k_is); (case a_law_low => k_is); (case l_law_low => k_is); (case c_law_low => k_is); (case k_law_low => k_is); (case a_law_kinds => k_is); (case l_law_kinds => k_is); (case c_law_kinds => k_is); (case k_law_kinds => k_is); (case a_law => k_is); (case l_law => k_is); (case c_law => k_is); (case k_law => k_is); (case xg_SightError => k_is); (case xq_SightError => first | k_exc | k_is); (case xk_SightError => k_is); (case xb_SightError => k_is); (case xt_SightError => k_is); (case xh_SightError => k_is); (case xg_BadHouse => k_is); (case xq_BadHouse => first | k_exc | k_is); (case xk_BadHouse => k_is); (case xb_BadHouse => k_is); (case xt_BadHouse => k_is); (case xh_BadHouse => k_is); (case xg_BadRule => k_is); (case xq_BadRule => first | k_exc | k_is); (case xk_BadRule => k_is); (case xb_BadRule => k_is); (case xt_BadRule => k_is); (case xh_BadRule => k_is); (case xg_BadState => k_is); (case xq_BadState => first | k_exc | k_is); (case xk_BadState => k_is); (case xb_BadState => k_is); (case xt_BadState => k_is); (case xh_BadState => k_is); (case xg_BadPerson => k_is); (case xq_BadPerson => first | k_exc | k_is); (case xk_BadPerson => k_is); (case xb_BadPerson => k_is); (case xt_BadPerson => k_is); (case xh_BadPerson => k_is); (case xg_BadFolder => k_is); (case xq_BadFolder => first | k_exc | k_is); (case xk_BadFolder => k_is); (case xb_BadFolder => k_is); (case xt_BadFolder => k_is); (case xh_BadFolder => k_is); (case xg_BadDeed => k_is); (case xq_BadDeed => first | k_exc | k_is); (case xk_BadDeed => k_is); (case xb_BadDeed => k_is); (case xt_BadDeed => k_is); (case xh_BadDeed => k_is); (case xg_BadDeeds => k_is); (case xk_BadDeeds => k_is); (case xb_BadDeeds => k_is); (case xt_BadDeeds => k_is); (case xh_BadDeeds => k_is); (case xg_BadCase => k_is); (case xq_BadCase => first | k_exc | k_is); (case xk_BadCase => k_is); (case xb_BadCase => k_is); (case xt_BadCase => k_is); (case xh_BadCase => k_is); (case xg_BadOrder => k_is); (case xq_BadOrder => first | k_exc | k_is); (case xk_BadOrder => k_is); (case xb_BadOrder => k_is); (case xt_BadOrder => k_is); (case xh_BadOrder => k_is); (case xg_BadLook => k_is); (case xq_BadLook => first | k_exc | k_is); (case xk_BadLook => k_is); (case xb_BadLook => k_is); (case xt_BadLook => k_is); (case xh_BadLook => k_is); (case xg_BadKnown => k_is); (case xq_BadKnown => first | k_exc | k_is); (case xk_BadKnown => k_is); (case xb_BadKnown => k_is); (case xt_BadKnown => k_is); (case xh_BadKnown => k_is); (case xg_BadClash => k_is); (case xq_BadClash => first | k_exc | k_is); (case xk_BadClash => k_is); (case xb_BadClash => k_is); (case xt_BadClash => k_is); (case xh_BadClash => k_is); (case xg_BadLot => k_is); (case xq_BadLot => first | k_exc | k_is); (case xk_BadLot => k_is); (case xb_BadLot => k_is); (case xt_BadLot => k_is); (case xh_BadLot => k_is); (case xg_TooMany => k_is); (case xq_TooMany => first | k_exc | k_is); (case xk_TooMany => k_is); (case xb_TooMany => k_is); (case xt_TooMany => k_is); (case xh_TooMany => k_is); (case xg_NotSure => k_is); (case xq_NotSure => first | k_exc | k_is); (case xk_NotSure => k_is); (case xb_NotSure => k_is); (case xt_NotSure => k_is); (case xh_NotSure => k_is); (case xg_BadEvent => k_is); (case xq_BadEvent => first | k_exc | k_is); (case xk_BadEvent => k_is); (case xb_BadEvent => k_is); (case xt_BadEvent => k_is); (case xh_BadEvent => k_is); (case xg_BadSpread => k_is); (case xq_BadSpread => first | k_exc | k_is); (case xk_BadSpread => k_is); (case xb_BadSpread => k_is); (case xt_BadSpread => k_is); (case xh_BadSpread => k_is); (case xg_NothingToUndo => k_is); (case xq_NothingToUndo => first | k_exc | k_is); (case xk_NothingToUndo => k_is); (case xb_NothingToUndo => k_is); (case xt_NothingToUndo => k_is); (case xh_NothingToUndo => k_is); (case xg_BadText => k_is); (case xk_BadText => k_is); (case xb_BadText => k_is); (case xt_BadText => k_is); (case xh_BadText => k_is); (case xg_BadCommand => k_is); (case xq_BadCommand => first | k_exc | k_is); (case xk_BadCommand => k_is); (case xb_BadCommand => k_is); (case xt_BadCommand => k_is); (case xh_BadCommand => k_is); (case xg_NoCase => k_is); (case xq_NoCase => first | k_exc | k_is); (case xk_NoCase => k_is); (case xb_NoCase => k_is); (case xt_NoCase => k_is); (case xh_NoCase => k_is); (case xg_BadClaim => k_is); (case xq_BadClaim => first | k_exc | k_is); (case xk_BadClaim => k_is); (case xb_BadClaim => k_is); (case xt_BadClaim => k_is); (case xh_BadClaim => k_is); (case xg_BadPeople => k_is); (case xq_BadPeople => first | k_exc | k_is); (case xk_BadPeople => k_is); (case xb_BadPeople => k_is); (case xt_BadPeople => k_is); (case xh_BadPeople => k_is); (case xg_Full => k_is); (case xq_Full => first | k_exc | k_is); (case xk_Full => k_is); (case xb_Full => k_is); (case xt_Full => k_is); (case xh_Full => k_is); (case xr_SightError => kernel_rfl); (case xr_BadText => kernel_rfl); (case xr_BadDeeds => kernel_rfl); (case ki_ValueError => kernel_rfl); (case ki_Full => kernel_rfl); (case ki_BadPeople => kernel_rfl); (case ki_BadClaim => kernel_rfl); (case ki_NoCase => kernel_rfl); (case ki_BadCommand => kernel_rfl); (case ki_BadText => kernel_rfl); (case ki_NothingToUndo => kernel_rfl); (case ki_BadSpread => kernel_rfl); (case ki_BadEvent => kernel_rfl); (case ki_NotSure => kernel_rfl); (case ki_TooMany => kernel_rfl); (case ki_BadLot => kernel_rfl); (case ki_BadClash => kernel_rfl); (case ki_BadKnown => kernel_rfl); (case ki_BadLook => kernel_rfl); (case ki_BadOrder => kernel_rfl); (case ki_BadCase => kernel_rfl); (case ki_BadDeeds => kernel_rfl); (case ki_BadDeed => kernel_rfl); (case ki_BadFolder => kernel_rfl); (case ki_BadPerson => kernel_rfl); (case ki_BadState => kernel_rfl); (case ki_BadRule => kernel_rfl); (case ki_BadHouse => kernel_rfl); (case xk => kernel_rfl); (case xm_BadDeeds => refine' Classical.choice (PL.excM_mk (x := "place") (qual := "BadDeeds.__init__") (st := A.s_x_BadDeeds) KX G ?x_hC ?x_hbm ?x_sa ?x_exC ?x_tyC ?x_kC ?x_iC ?x_tI ?x_lk ?x_hcd ?x_hcell ?x_along ?x_opq ?x_code ?x_vs2 ?x_hsup ?x_hno ?x_xf ?x_S ?x_hbody ?x_hm1 ?x_hp ?x_har ?x_hfile ?x_htop ?x_hks ?x_hx1 ?x_hx2 ?x_he ?x_hs1 ?x_hs2 ?x_hb); (case x_iC => k_is); (case x_lk => k_is); (case x_hcell => k_is); (case x_code => k_is); (case x_hC => k_is); (case x_hbm => kernel_rfl); (case x_sa => k_is); (case x_exC => k_is); (case x_tyC => k_is); (case x_kC => k_is); (case x_tI => k_is); (case x_hcd => k_is); (case x_along => ks_is); (case x_opq => k_is); (case x_vs2 => rfl); (case x_hsup => k_is); (case x_hno => k_is); (case x_xf => kernel_rfl); (case x_S => exact NdefX.nscope_by (by decide +kernel)); (case x_hbody => rfl); (case x_hm1 => decide +kernel); (case x_hp => rfl); (case x_har => rfl); (case x_hfile => rfl); (case x_htop => rfl); (case x_hks => rfl); (case x_hx1 => decide); (case x_hx2 => decide); (case x_he => exact fun _ => rfl); (case x_hs1 => exact fun _ => rfl); (case x_hs2 => exact fun _ => rfl); (case x_hb => exact fun us hl => match us, hl with | [_, _], _ => rfl)); (case xm_BadText => refine' Classical.choice (PL.excM_mk (x := "line") (qual := "BadText.__init__") (st := A.s_x_BadText) KX G ?x_hC ?x_hbm ?x_sa ?x_exC ?x_tyC ?x_kC ?x_iC ?x_tI ?x_lk ?x_hcd ?x_hcell ?x_along ?x_opq ?x_code ?x_vs2 ?x_hsup ?x_hno ?x_xf ?x_S ?x_hbody ?x_hm1 ?x_hp ?x_har ?x_hfile ?x_htop ?x_hks ?x_hx1 ?x_hx2 ?x_he ?x_hs1 ?x_hs2 ?x_hb); (case x_iC => k_is); (case x_lk => k_is); (case x_hcell => k_is); (case x_code => k_is); (case x_hC => k_is); (case x_hbm => kernel_rfl); (case x_sa => k_is); (case x_exC => k_is); (case x_tyC => k_is); (case x_kC => k_is); (case x_tI => k_is); (case x_hcd => k_is); (case x_along => ks_is); (case x_opq => k_is); (case x_vs2 => rfl); (case x_hsup => k_is); (case x_hno => k_is); (case x_xf => kernel_rfl); (case x_S => exact NdefX.nscope_by (by decide +kernel)); (case x_hbody => rfl); (case x_hm1 => decide +kernel); (case x_hp => rfl); (case x_har => rfl); (case x_hfile => rfl); (case x_htop => rfl); (case x_hks => rfl); (case x_hx1 => decide); (case x_hx2 => decide); (case x_he => exact fun _ => rfl); (case x_hs1 => exact fun _ => rfl); (case x_hs2 => exact fun _ => rfl); (case x_hb => exact fun us hl => match us, hl with | [_, _], _ => rfl)); (case z_ValueError => k_is); (case z_bool => k_is); (case z_int => k_is); (case z_isinstance => k_is); (case z_len => k_is); (case z_range => k_is)


theorem PySem.Challenge.cw_sawwhen_k00_whole_errors_holds : PySem.Challenge.rw_sawwhen_k00_whole_errors.Holds :=
  A.done
