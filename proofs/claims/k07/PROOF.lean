import PyProof.Rows.All
import HandS.ForMost
import HandS.IsInst
import HandS.ForExc
import HandS.ExcIs
import HandS.ExcField
import KE.KDictWalk
import KE.KeyNested
import KE.KDictKeyed
import HandS.TupAny
import HandS.TupMul
import HandS.Zip
import KE.SortData
import KE.LtData
import KE.DataCmp
import HandS.Walk
import HandS.Conv
import HandS.CallLocal
import HandS.More
import HandS.HeadHook3
import HandS.Deep
import KE.GoesEnum
import KE.KIndexOf
import HandS.SetFor
import HandS.SetBool
import HandS.Strs
import PySem.Challenge.RW_sawwhen_k07_whole_one_entry_more
set_option Elab.async false
set_option linter.all false
set_option maxRecDepth 100000
set_option maxHeartbeats 4000000
/-! PL1: plain data over the tracked heap; states of plain cells; expressions as functions of such states -/
namespace PL
abbrev St := L2.St
open PySem PySem.Spec PyProof.Rows L2

inductive Rs (α : Type) where
  | ok (a : α) | ex (c : Nat) (fs : List PyData) | no
namespace Rs
def bnd {α β : Type} : Rs α → (α → Rs β) → Rs β
  | .ok a, f => f a
  | .ex c d, _ => .ex c d
  | .no, _ => .no
@[simp] theorem bnd_ok {α β : Type} (a : α) (f : α → Rs β) : (Rs.ok a).bnd f = f a := (Eq.refl _).trans (Eq.refl _)
@[simp] theorem bnd_no {α β : Type} (f : α → Rs β) : (Rs.no : Rs α).bnd f = .no := (Eq.refl _).trans (Eq.refl _)
@[simp] theorem bnd_ex {α β : Type} (c : Nat) (d : List PyData) (f : α → Rs β) : (Rs.ex c d : Rs α).bnd f = .ex c d := (Eq.refl _).trans (Eq.refl _)
theorem bnd_eq {α β : Type} {r : Rs α} {f : α → Rs β} {b : β} (h : r.bnd f = .ok b) : ∃ a, r = .ok a ∧ f a = .ok b := by
  cases r with
  | ok a => exact ⟨a, rfl, h⟩
  | ex c d => exact nomatch h
  | no => exact nomatch h
end Rs

/-- a text stands first -/
def strT : List PyData → Bool
  | .str _ :: _ => true
  | _ => false
/-- the object at a has no dict of its own -/
def NoD (K : PySem.W.Frag) (H : Hp) (a : Addr) : Prop := (∃ (o : Obj) (u : HO), o.dict = none ∧ H a = some (.frz o u)) ∨ ∃ o : Obj, K.lookup a = some o ∧ o.dict = none
theorem NoD.mono {K : PySem.W.Frag} {H H' : Hp} {a : Addr} (h : NoD K H a) (e : Same H H') : NoD K H' a := by
  rcases h with ⟨o, u, h1, h2⟩ | h
  · exact .inl ⟨o, u, h1, e _ _ h2⟩
  · exact .inr h
mutual
/-- the value v is the plain datum, over the tracked heap H -/
def R (K : PySem.W.Frag) (H : Hp) : PyData → V → Prop
  | .none, v => v = .non
  | .bool b, v => v = .bl b
  | .int i, v => v = .int i
  | .str x, v => v = .str x ∧ PyData.strOk x = true
  | .list ds, v => ds.length ≤ sizeLine ∧ ∃ a xs, v = .ref a ∧ SqL K H a xs ∧ RA K H ds xs
  | .tuple ds, v => ds.length ≤ sizeLine ∧ ∃ a xs, v = .ref a ∧ SqT K H a xs ∧ RA K H ds xs ∧ (NoD K H a ∨ strT ds = true)
  | .dict kvs, v => kvs = [] ∧ ∃ a, v = .ref a ∧ H a = some (.dK [])
def RA (K : PySem.W.Frag) (H : Hp) : List PyData → List V → Prop
  | [], xs => xs = []
  | d :: ds, xs => ∃ x r, xs = x :: r ∧ R K H d x ∧ RA K H ds r
end
section
variable {K : PySem.W.Frag} {H H' : Hp}
theorem sqt_mono (e : Same H H') {a : Addr} {xs : List V} (h : SqT K H a xs) : SqT K H' a xs := by
  rcases h with (h | ⟨o, h⟩) | h
  · exact .inl (.inl (e _ _ h))
  · exact .inl (.inr ⟨o, e _ _ h⟩)
  · exact .inr h
mutual
theorem R.mono (e : Same H H') : ∀ {d : PyData} {v : V}, R K H d v → R K H' d v
  | .none, _, h => by simpa [R] using h
  | .bool _, _, h => by simpa [R] using h
  | .int _, _, h => by simpa [R] using h
  | .str _, _, h => by simpa [R] using h
  | .list ds, v, h => by
    rw [R] at h ⊢
    obtain ⟨z, a, xs, e1, e2, e3⟩ := h
    exact ⟨z, a, xs, e1, e.seq e2, RA.mono e e3⟩
  | .tuple ds, v, h => by
    rw [R] at h ⊢
    obtain ⟨z, a, xs, e1, e2, e3⟩ := h
    exact ⟨z, a, xs, e1, sqt_mono e e2, RA.mono e e3.1, e3.2.imp (fun h => h.mono e) id⟩
  | .dict _, _, h => by
    rw [R] at h ⊢
    obtain ⟨z, a, e1, e2⟩ := h
    exact ⟨z, a, e1, e _ _ e2⟩
theorem RA.mono (e : Same H H') : ∀ {ds : List PyData} {vs : List V}, RA K H ds vs → RA K H' ds vs
  | [], _, h => by rw [RA] at h ⊢; exact h
  | d :: ds, vs, h => by
    rw [RA] at h ⊢
    obtain ⟨x, r, e1, e2, e3⟩ := h
    exact ⟨x, r, e1, R.mono e e2, RA.mono e e3⟩
end
theorem RA.len : ∀ {ds : List PyData} {vs : List V}, RA K H ds vs → vs.length = ds.length
  | [], _, h => by rw [RA] at h; rw [h]; rfl
  | d :: ds, vs, h => by
    rw [RA] at h
    obtain ⟨x, r, e1, e2, e3⟩ := h
    rw [e1, List.length_cons, List.length_cons, RA.len e3]
theorem RA.nil : RA K H [] [] := by rw [RA]
theorem RA.cons {d : PyData} {ds : List PyData} {x : V} {xs : List V} (h : R K H d x) (t : RA K H ds xs) : RA K H (d :: ds) (x :: xs) := by
  rw [RA]; exact ⟨x, xs, rfl, h, t⟩
theorem RA.inv {d : PyData} {ds : List PyData} {vs : List V} (h : RA K H (d :: ds) vs) : ∃ x r, vs = x :: r ∧ R K H d x ∧ RA K H ds r := by rw [RA] at h; exact h
theorem RA.inv0 {vs : List V} (h : RA K H [] vs) : vs = [] := by rw [RA] at h; exact h
theorem RA.inv1 {d : PyData} {vs : List V} (h : RA K H [d] vs) : ∃ x, vs = [x] ∧ R K H d x := by
  obtain ⟨x, r, e, h1, h2⟩ := h.inv
  exact ⟨x, by rw [e, h2.inv0], h1⟩
theorem RA.inv2 {d e : PyData} {vs : List V} (h : RA K H [d, e] vs) : ∃ x y, vs = [x, y] ∧ R K H d x ∧ R K H e y := by
  obtain ⟨x, r, e, h1, h2⟩ := h.inv
  obtain ⟨y, e2, h3⟩ := h2.inv1
  exact ⟨x, y, by rw [e, e2], h1, h3⟩
theorem RA.append : ∀ {ds es : List PyData} {vs ws : List V}, RA K H ds vs → RA K H es ws → RA K H (ds ++ es) (vs ++ ws)
  | [], _, _, _, h, t => by rw [h.inv0]; exact t
  | d :: ds, _, _, _, h, t => by
    obtain ⟨x, r, e, h1, h2⟩ := h.inv
    rw [e]
    exact .cons h1 (h2.append t)
theorem RA.get : ∀ {ds : List PyData} {vs : List V} {i : Nat} {d : PyData}, RA K H ds vs → ds[i]? = some d → ∃ x, vs[i]? = some x ∧ R K H d x
  | [], _, _, _, _, e => by simp at e
  | d :: ds, vs, 0, d', h, e => by
    obtain ⟨x, r, rfl, h1, h2⟩ := h.inv
    simp at e; subst e
    exact ⟨x, rfl, h1⟩
  | d :: ds, vs, i + 1, d', h, e => by
    obtain ⟨x, r, rfl, h1, h2⟩ := h.inv
    obtain ⟨y, e1, e2⟩ := h2.get (i := i) (by simpa using e)
    exact ⟨y, by simpa using e1, e2⟩
theorem RA.getV : ∀ {ds : List PyData} {vs : List V} {i : Nat} {x : V}, RA K H ds vs → vs[i]? = some x → ∃ d, ds[i]? = some d ∧ R K H d x
  | [], _, _, _, h, e => by rw [h.inv0] at e; simp at e
  | d :: ds, vs, 0, x', h, e => by
    obtain ⟨x, r, rfl, h1, h2⟩ := h.inv
    simp at e; subst e
    exact ⟨d, rfl, h1⟩
  | d :: ds, vs, i + 1, x', h, e => by
    obtain ⟨x, r, rfl, h1, h2⟩ := h.inv
    obtain ⟨y, e1, e2⟩ := h2.getV (i := i) (by simpa using e)
    exact ⟨y, by simpa using e1, e2⟩
theorem RA.set {d : PyData} {x : V} (r : R K H d x) : ∀ {ds : List PyData} {vs : List V} (i : Nat), RA K H ds vs → RA K H (ds.set i d) (vs.set i x)
  | [], _, _, h => by rw [h.inv0]; exact .nil
  | _ :: _, _, 0, h => by
    obtain ⟨y, q, rfl, h1, h2⟩ := h.inv
    exact .cons r h2
  | _ :: _, _, i + 1, h => by
    obtain ⟨y, q, rfl, h1, h2⟩ := h.inv
    exact .cons h1 (h2.set r i)
theorem RA.drop : ∀ {ds : List PyData} {vs : List V} (n : Nat), RA K H ds vs → RA K H (ds.drop n) (vs.drop n)
  | _, _, 0, h => h
  | [], _, _ + 1, h => by rw [h.inv0]; exact .nil
  | _ :: _, _, n + 1, h => by
    obtain ⟨y, q, rfl, h1, h2⟩ := h.inv
    exact h2.drop n
theorem RA.take : ∀ {ds : List PyData} {vs : List V} (n : Nat), RA K H ds vs → RA K H (ds.take n) (vs.take n)
  | _, _, 0, h => .nil
  | [], _, _ + 1, h => by rw [h.inv0]; exact .nil
  | _ :: _, _, n + 1, h => by
    obtain ⟨y, q, rfl, h1, h2⟩ := h.inv
    exact .cons h1 (h2.take n)
theorem RA.eraseIdx : ∀ {ds : List PyData} {vs : List V} (n : Nat), RA K H ds vs → RA K H (ds.eraseIdx n) (vs.eraseIdx n)
  | [], _, _, h => by rw [h.inv0]; exact .nil
  | _ :: _, _, 0, h => by
    obtain ⟨y, q, rfl, h1, h2⟩ := h.inv
    exact h2
  | _ :: _, _, n + 1, h => by
    obtain ⟨y, q, rfl, h1, h2⟩ := h.inv
    exact .cons h1 (h2.eraseIdx n)
theorem RA.reverse : ∀ {ds : List PyData} {vs : List V}, RA K H ds vs → RA K H ds.reverse vs.reverse
  | [], _, h => by rw [h.inv0]; exact .nil
  | d :: ds, _, h => by
    obtain ⟨y, q, rfl, h1, h2⟩ := h.inv
    rw [List.reverse_cons, List.reverse_cons]
    exact h2.reverse.append (.cons h1 .nil)
theorem RA.rep {ds : List PyData} {vs : List V} (h : RA K H ds vs) : ∀ k : Nat, RA K H (List.replicate k ds).flatten (List.replicate k vs).flatten
  | 0 => .nil
  | k + 1 => by rw [List.replicate_succ, List.replicate_succ, List.flatten_cons, List.flatten_cons]; exact h.append (h.rep k)
theorem RA.ints : ∀ {ns : List Int}, RA K H (ns.map .int) (ns.map .int)
  | [] => .nil
  | n :: ns => .cons (by rw [R]) RA.ints
mutual
/-- no dict in it -/
def nod : PyData → Bool
  | .list ds => nodAll ds
  | .tuple ds => nodAll ds
  | .dict _ => false
  | _ => true
def nodAll : List PyData → Bool
  | [] => true
  | d :: ds => nod d && nodAll ds
end
mutual
theorem R.dp : ∀ {d : PyData} {v : V}, R K H d v → nod d = true → Dp K H v d
  | .none, _, h, _ => by rw [R] at h; rw [h]; exact .non
  | .bool _, _, h, _ => by rw [R] at h; rw [h]; exact .bl _
  | .int _, _, h, _ => by rw [R] at h; rw [h]; exact .int _
  | .str _, _, h, _ => by rw [R] at h; rw [h.1]; exact .str _
  | .list ds, v, h, n => by
    rw [R] at h
    obtain ⟨z, a, xs, e1, e2, e3⟩ := h
    rw [e1]
    exact .lst e2 (RA.dp e3 (by simpa [nod] using n))
  | .tuple ds, v, h, n => by
    rw [R] at h
    obtain ⟨z, a, xs, e1, e2, e3⟩ := h
    rw [e1]
    exact .tup e2 (RA.dp e3.1 (by simpa [nod] using n))
  | .dict _, _, h, n => by simp [nod] at n
theorem RA.dp : ∀ {ds : List PyData} {vs : List V}, RA K H ds vs → nodAll ds = true → DpAll K H vs ds
  | [], _, h, _ => by rw [h.inv0]; exact .nil
  | d :: ds, vs, h, n => by
    obtain ⟨x, r, e1, e2, e3⟩ := h.inv
    rw [e1]
    rw [nodAll, Bool.and_eq_true] at n
    exact .cons (R.dp e2 n.1) (RA.dp e3 n.2)
end
mutual
theorem R.canLay : ∀ {d : PyData} {v : V}, R K H d v → nod d = true → d.canLay0 = true
  | .none, _, _, _ => by simp [PyData.canLay0]
  | .bool _, _, _, _ => by simp [PyData.canLay0]
  | .int _, _, _, _ => by simp [PyData.canLay0]
  | .str _, _, h, _ => by rw [R] at h; simp [PyData.canLay0, h.2]
  | .list ds, v, h, n => by
    rw [R] at h
    obtain ⟨z, a, xs, e1, e2, e3⟩ := h
    simpa [PyData.canLay0] using RA.canLay e3 (by simpa [nod] using n)
  | .tuple ds, v, h, n => by
    rw [R] at h
    obtain ⟨z, a, xs, e1, e2, e3⟩ := h
    simpa [PyData.canLay0] using RA.canLay e3.1 (by simpa [nod] using n)
  | .dict _, _, h, n => by simp [nod] at n
theorem RA.canLay : ∀ {ds : List PyData} {vs : List V}, RA K H ds vs → nodAll ds = true → PyData.canLayAll0 ds = true
  | [], _, _, _ => by simp [PyData.canLayAll0]
  | d :: ds, vs, h, n => by
    obtain ⟨x, r, e1, e2, e3⟩ := h.inv
    rw [nodAll, Bool.and_eq_true] at n
    simp [PyData.canLayAll0, R.canLay e2 n.1, RA.canLay e3 n.2]
end
end

/-! ### hiding -/
open Classical in
noncomputable def hide (N : Addr → Prop) (H : Hp) : Hp := fun a => if N a then none else H a
section
variable {N N' : Addr → Prop} {H H' : Hp}
theorem hide_some {a : Addr} {o : HO} (h : hide N H a = some o) : ¬ N a ∧ H a = some o := by
  unfold hide at h
  split at h
  · exact nomatch h
  · exact ⟨by assumption, h⟩
theorem hide_of {a : Addr} {o : HO} (n : ¬ N a) (h : H a = some o) : hide N H a = some o := by
  unfold hide; rw [if_neg n]; exact h
theorem hide_le : Same (hide N H) H := fun _ _ h => (hide_some h).2
theorem hide_same (e : Same H H') : Same (hide N H) (hide N H') := fun _ _ h => hide_of (hide_some h).1 (e _ _ (hide_some h).2)
theorem hide_anti (e : ∀ a, N' a → N a) : Same (hide N H) (hide N' H) := fun _ _ h => hide_of (fun z => (hide_some h).1 (e _ z)) (hide_some h).2
end

/-! ### states -/
/-- what a slot has for itself, as a tree: plain values, lists, dicts, objects by their class and fields -/
inductive OC where
  | p (d : PyData)
  | l (cs : List OC)
  | d (kvs : List (PyData × PyData))
  | o (c : Str) (ns : List Str) (cs : List OC)
inductive Cell where
  | pub (d : PyData)
  | own (ds : List PyData)
  | odc (kvs : List (PyData × PyData))
  | dsp (D s : Str)
  | hot
  | obj (c : OC)
  | prf (j k : Nat)
abbrev Ev := List (Option Cell)
/-- the written part, the program, the world -/
structure KB where
  K : PySem.W.Frag
  P : Program
  w : World
abbrev _root_.L2.Cx.kb (X : Cx) : KB := ⟨X.K, X.prog, X.w⟩
/-- what is hidden from the def at its entry, and the heap then -/
structure FC where
  hid : Addr → Prop
  H0 : Hp
  /-- the exception that is in hand -/
  ht : Option Addr := none
  /-- the classes of exceptions that may leave, with the field that they have -/
  xm : Nat → Option (Addr × Option Str) := fun _ => none
  /-- what is wished of them -/
  W : WX := fun _ _ _ _ => False
  /-- the things that were handed in -/
  fix : Nat → Option Addr := fun _ => none
abbrev Own := Nat → Option Addr
def NN (F : FC) (O : Own) : Addr → Prop := fun a => F.hid a ∨ ∃ i, O i = some a
/-! keys of dicts; what a dict of one's own holds -/
mutual
def nkOf : PyData → Option NestedKey
  | .none => some .none
  | .bool b => some (.num (if b = true then 1 else 0))
  | .int i => some (.num i)
  | .str x => some (.text x)
  | .tuple ds => (nkAll ds).map .tup
  | _ => none
def nkAll : List PyData → Option (List NestedKey)
  | [] => some []
  | d :: ds => (nkOf d).bind fun k => (nkAll ds).map fun ks => k :: ks
end
abbrev EntK := NestedKey × Addr × Value
def DK (K : PySem.W.Frag) (G : Hp) : List (PyData × PyData) → List EntK → Prop
  | [], xs => xs = []
  | p :: r, xs => ∃ (nk : NestedKey) (ad : Addr) (vl : Value) (v : V) (t : List EntK), xs = (nk, ad, vl) :: t ∧ nkOf p.1 = some nk ∧ nk.depth ≤ 8 ∧ R K G p.1 (.ref ad) ∧ RelV v vl ∧ R K G p.2 v ∧ DK K G r t
theorem DK.mono {K : PySem.W.Frag} {G G' : Hp} (e : Same G G') : ∀ {kvs : List (PyData × PyData)} {xs : List EntK}, DK K G kvs xs → DK K G' kvs xs
  | [], _, h => h
  | _ :: _, _, ⟨nk, ad, vl, v, t, h1, h2, h3, h4, h5, h6, h7⟩ => ⟨nk, ad, vl, v, t, h1, h2, h3, h4.mono e, h5, h6.mono e, DK.mono e h7⟩
theorem DK.len {K : PySem.W.Frag} {G : Hp} : ∀ {kvs : List (PyData × PyData)} {xs : List EntK}, DK K G kvs xs → xs.length = kvs.length
  | [], _, h => by rw [show _ = [] from h]; rfl
  | _ :: _, _, ⟨nk, ad, vl, v, t, h1, h2, h3, h4, h5, h6, h7⟩ => by rw [h1, List.length_cons, List.length_cons, DK.len h7]
/-- a dict by its entries -/
def dicO (a : Addr) (es : Array DictEntry) (ep : Nat) : HO := .ext fun h => h.DictRaw a es ep
/-- the table D of the top has the object a at s -/
def dspAt (K : KB) (D s : Str) (a : Addr) : Prop := ∃ p, PySem.W.nsIn K.K mainGlobals D = some (some (.ref p)) ∧ PySem.W.nsIn K.K p s = some (some (.ref a))
mutual
/-- the value v is the thing; A: the addresses that it takes -/
def CellAt (K : KB) (N : Addr → Prop) (H : Hp) : OC → V → List Addr → Prop
  | .p d, v, A => A = [] ∧ R K.K (hide N H) d v
  | .l cs, v, A => ∃ a xs B, A = a :: B ∧ v = .ref a ∧ cs.length ≤ sizeLine ∧ H a = some (.lst xs) ∧ CellsAt K N H cs xs B
  | .d kvs, v, A => kvs.length ≤ sizeLine ∧ ∃ a es ep xs, A = [a] ∧ v = .ref a ∧ H a = some (dicO a es ep) ∧ (a == sysModules) = false ∧ es.toList = xs.map (entryOfKey (nestedKind K.P K.w)) ∧ (xs.map (·.1)).Nodup ∧ DK K.K (hide N H) kvs xs
  | .o c ns cs, v, A => ∃ a dx C xs B, A = a :: dx :: B ∧ v = .ref a ∧ PySem.W.nsIn K.K mainGlobals c = some (some (.ref C)) ∧ ns.length = cs.length ∧ H a = some (.ins C dx (ns.zip xs)) ∧ H dx = some (.own a) ∧ CellsAt K N H cs xs B
def CellsAt (K : KB) (N : Addr → Prop) (H : Hp) : List OC → List V → List Addr → Prop
  | [], xs, A => xs = [] ∧ A = []
  | c :: cs, xs, A => ∃ x r A1 A2, xs = x :: r ∧ A = A1 ++ A2 ∧ CellAt K N H c x A1 ∧ CellsAt K N H cs r A2
end
section
variable {K : KB} {N N' : Addr → Prop} {H H' : Hp}
mutual
theorem CellAt.move (v : Same (hide N H) (hide N' H')) : ∀ {c : OC} {x : V} {A : List Addr}, CellAt K N H c x A → (∀ a ∈ A, ∀ o, H a = some o → H' a = some o) → CellAt K N' H' c x A
  | .p d, x, A, h, _ => by rw [CellAt] at h ⊢; exact ⟨h.1, h.2.mono v⟩
  | .l cs, x, A, h, e => by
    rw [CellAt] at h ⊢
    obtain ⟨a, xs, B, rfl, h2, h3, h4, h5⟩ := h
    exact ⟨a, xs, B, rfl, h2, h3, e a (by simp) _ h4, CellsAt.move v h5 fun b hb => e b (List.mem_cons_of_mem _ hb)⟩
  | .d kvs, x, A, h, e => by
    rw [CellAt] at h ⊢
    obtain ⟨z, a, es, ep, xs, rfl, h2, h3, h4, h5, h6, h7⟩ := h
    exact ⟨z, a, es, ep, xs, rfl, h2, e a (by simp) _ h3, h4, h5, h6, h7.mono v⟩
  | .o c ns cs, x, A, h, e => by
    rw [CellAt] at h ⊢
    obtain ⟨a, dx, C, xs, B, rfl, h2, h3, h4, h5, h6, h7⟩ := h
    exact ⟨a, dx, C, xs, B, rfl, h2, h3, h4, e a (by simp) _ h5, e dx (by simp) _ h6, CellsAt.move v h7 fun b hb => e b (by simp [hb])⟩
theorem CellsAt.move (v : Same (hide N H) (hide N' H')) : ∀ {cs : List OC} {xs : List V} {A : List Addr}, CellsAt K N H cs xs A → (∀ a ∈ A, ∀ o, H a = some o → H' a = some o) → CellsAt K N' H' cs xs A
  | [], xs, A, h, _ => by rw [CellsAt] at h ⊢; exact h
  | c :: cs, xs, A, h, e => by
    rw [CellsAt] at h ⊢
    obtain ⟨x, r, A1, A2, h1, rfl, h3, h4⟩ := h
    exact ⟨x, r, A1, A2, h1, rfl, CellAt.move v h3 fun a ha => e a (List.mem_append_left _ ha), CellsAt.move v h4 fun a ha => e a (List.mem_append_right _ ha)⟩
end
end
/-- where the addresses of slot i's thing are kept -/
def ox (i k : Nat) : Nat := 1000 + i + 1000 * k
theorem ox_big (i k : Nat) : 1000 ≤ ox i k := by unfold ox; omega
theorem ox_inj {i j k l : Nat} (hi : i < 1000) (hj : j < 1000) (h : ox i k = ox j l) : i = j ∧ k = l := by unfold ox at h; omega
def SlotOk (K : KB) (ht : Option Addr) (N : Addr → Prop) (O : Own) (H : Hp) (i : Nat) (σ : St) : Cell → Prop
  | .pub d => ∃ v, σ[i]? = some (some v) ∧ R K.K (hide N H) d v
  | .own ds => ds.length ≤ sizeLine ∧ ∃ a xs, O i = some a ∧ σ[i]? = some (some (.ref a)) ∧ H a = some (.lst xs) ∧ RA K.K (hide N H) ds xs
  | .odc kvs => kvs.length ≤ sizeLine ∧ ∃ a es ep xs, O i = some a ∧ σ[i]? = some (some (.ref a)) ∧ H a = some (dicO a es ep) ∧ (a == sysModules) = false ∧ es.toList = xs.map (entryOfKey (nestedKind K.P K.w)) ∧ (xs.map (·.1)).Nodup ∧ DK K.K (hide N H) kvs xs
  | .dsp D s => ∃ a, dspAt K D s a ∧ σ[i]? = some (some (.ref a))
  | .hot => ∃ a, ht = some a ∧ σ[i]? = some (some (.ref a))
  | .obj c => ∃ v A, σ[i]? = some (some v) ∧ A ≠ [] ∧ (∀ k, O (ox i k) = A[k]?) ∧ CellAt K N H c v A
  | .prf _ _ => True
structure Obs (fix : Nat → Option Addr) (O : Own) (ρ : Ev) (σ : St) : Prop where
  sz : ρ.length ≤ 1000
  fx : ∀ (i : Nat) (a : Addr) (c : OC), fix i = some a → ρ[i]? = some (some (Cell.obj c)) → O (ox i 0) = some a
  als : ∀ (i j k : Nat) (c : OC), ρ[i]? = some (some (Cell.prf j k)) → ρ[j]? = some (some (Cell.obj c)) → ∃ a : Addr, O (ox j k) = some a ∧ σ[i]? = some (some (V.ref a))
structure Rel (K : KB) (F : FC) (O : Own) (ρ : Ev) (σ : St) (H : Hp) : Prop where
  len : σ.length = ρ.length
  inj : ∀ i j a, O i = some a → O j = some a → i = j
  live : ∀ i a, O i = some a → H a ≠ none
  hidl : ∀ a, F.hid a → F.H0 a ≠ none
  base : ∀ a x, F.H0 a = some x → H a = some x ∧ ∀ i, O i ≠ some a
  slots : ∀ i c, ρ[i]? = some (some c) → SlotOk K F.ht (NN F O) O H i σ c
  obs : Obs F.fix O ρ σ
section
variable {K : KB} {F : FC} {O : Own} {ρ : Ev} {σ : St} {H H' : Hp}
theorem own_big {i j : Nat} (h : j = i ∨ ∃ k, j = ox i k) : j = i ∨ 1000 ≤ j := h.imp id fun ⟨k, e⟩ => by rw [e]; exact ox_big i k
theorem SlotOk.move {ht : Option Addr} {N N' : Addr → Prop} {O' : Own} {i : Nat} {c : Cell} {σ' : St} (h : SlotOk K ht N O H i σ c) (v : Same (hide N H) (hide N' H')) (eo : ∀ j, (j = i ∨ ∃ k, j = ox i k) → O' j = O j) (es : σ'[i]? = σ[i]?) (ea : ∀ j a x, (j = i ∨ ∃ k, j = ox i k) → O j = some a → H a = some x → H' a = some x) : SlotOk K ht N' O' H' i σ' c := by
  cases c with
  | pub d => obtain ⟨w, h1, h2⟩ := h; exact ⟨w, es.trans h1, h2.mono v⟩
  | own ds => obtain ⟨z, a, xs, h1, h2, h3, h4⟩ := h; exact ⟨z, a, xs, (eo i (.inl rfl)).trans h1, es.trans h2, ea i a _ (.inl rfl) h1 h3, h4.mono v⟩
  | odc kvs => obtain ⟨z, a, en, ep, xs, h1, h2, h3, h4, h5, h6, h7⟩ := h; exact ⟨z, a, en, ep, xs, (eo i (.inl rfl)).trans h1, es.trans h2, ea i a _ (.inl rfl) h1 h3, h4, h5, h6, h7.mono v⟩
  | dsp D s => obtain ⟨a, h1, h2⟩ := h; exact ⟨a, h1, es.trans h2⟩
  | hot => obtain ⟨a, h1, h2⟩ := h; exact ⟨a, h1, es.trans h2⟩
  | obj oc =>
    obtain ⟨w, A, h1, h2, h3, h4⟩ := h
    refine ⟨w, A, es.trans h1, h2, fun k => (eo _ (.inr ⟨k, rfl⟩)).trans (h3 k), h4.move v fun a ha o q => ?_⟩
    obtain ⟨k, hk, e⟩ := List.mem_iff_getElem.mp ha
    exact ea (ox i k) a o (.inr ⟨k, rfl⟩) ((h3 k).trans (by rw [List.getElem?_eq_getElem hk, e])) q
  | prf j k => trivial
theorem SlotOk.mono {ht : Option Addr} {N : Addr → Prop} {i : Nat} {c : Cell} (e : Same H H') (h : SlotOk K ht N O H i σ c) : SlotOk K ht N O H' i σ c := h.move (hide_same e) (fun _ _ => rfl) rfl fun _ a x _ _ q => e a x q
theorem Obs.set {fix : Nat → Option Addr} {O O' : Own} {ρ : Ev} {σ σ' : St} (h : Obs fix O ρ σ) {i : Nat} {c : Option Cell} (ho : ∀ j, 1000 ≤ j → O' j = O j) (hs : ∀ j, j ≠ i → σ'[j]? = σ[j]?) (hc : ∀ oc, c ≠ some (.obj oc)) (hp : ∀ j k, c ≠ some (.prf j k)) : Obs fix O' (ρ.set i c) σ' := by
  have ne : ∀ {j : Nat} {c' : Cell}, (ρ.set i c)[j]? = some (some c') → (j ≠ i ∧ ρ[j]? = some (some c')) ∨ (j = i ∧ c = some c') := fun {j c'} e => by
    by_cases q : j = i
    · subst q
      by_cases hl : j < ρ.length
      · rw [List.getElem?_set_self hl] at e
        exact .inr ⟨rfl, Option.some.inj e⟩
      · rw [List.getElem?_eq_none (by simpa using hl)] at e; exact nomatch e
    · rw [List.getElem?_set_ne (Ne.symm q)] at e
      exact .inl ⟨q, e⟩
  refine ⟨by rw [List.length_set]; exact h.sz, fun j a oc e1 e2 => ?_, fun j1 j k oc e1 e2 => ?_⟩
  · rcases ne e2 with ⟨_, e⟩ | ⟨_, e⟩
    · rw [ho _ (ox_big _ _)]; exact h.fx j a oc e1 e
    · exact absurd e (hc oc)
  · rcases ne e1 with ⟨n1, e1⟩ | ⟨_, e⟩
    · rcases ne e2 with ⟨_, e2⟩ | ⟨_, e⟩
      · obtain ⟨a, h1, h2⟩ := h.als j1 j k oc e1 e2
        exact ⟨a, by rw [ho _ (ox_big _ _)]; exact h1, by rw [hs j1 n1]; exact h2⟩
      · exact absurd e (hc oc)
    · exact absurd e (hp _ _)
theorem same_ne {a : Addr} (e : Same H H') (h : H a ≠ none) : H' a ≠ none := by
  cases q : H a with
  | none => exact absurd q h
  | some o => rw [e _ _ q]; simp
theorem Rel.mono (h : Rel K F O ρ σ H) (e : Same H H') : Rel K F O ρ σ H' :=
  ⟨h.len, h.inj, fun i a q => same_ne e (h.live i a q), h.hidl, fun a x q => ⟨e _ _ (h.base a x q).1, (h.base a x q).2⟩, fun i c q => (h.slots i c q).mono e, h.obs⟩
theorem Rel.nlive (h : Rel K F O ρ σ H) {a : Addr} (n : NN F O a) : H a ≠ none := by
  rcases n with n | ⟨i, n⟩
  · cases q : F.H0 a with
    | none => exact absurd q (h.hidl a n)
    | some o => rw [(h.base a o q).1]; simp
  · exact h.live i a n
theorem Rel.nfresh (h : Rel K F O ρ σ H) {a : Addr} (n : H a = none) : ¬ NN F O a := fun z => h.nlive z n
end

/-! ### readings by functions -/
def tP (K : KB) (F : FC) (f : Ev → Rs PyData) : TE := fun σ H Q => ∃ O ρ d, Rel K F O ρ σ H ∧ f ρ = .ok d ∧ ∀ v H', Same H H' → R K.K (hide (NN F O) H') d v → Q v H'
def tT (K : KB) (F : FC) (g : Ev → Rs Bool) : TT := fun σ H Q => ∃ O ρ b, Rel K F O ρ σ H ∧ g ρ = .ok b ∧ ∀ H', Same H H' → Q b H'
def tA (K : KB) (F : FC) (g : Ev → Rs (List PyData)) : TA := fun σ H Q => ∃ O ρ ds, Rel K F O ρ σ H ∧ g ρ = .ok ds ∧ ∀ vs H', Same H H' → RA K.K (hide (NN F O) H') ds vs → Q vs H'
abbrev EP' (X : Cx) (F : FC) (e : Expr) (f : Ev → Rs PyData) : Prop := PE X e (tP X.kb F f)
abbrev TP' (X : Cx) (F : FC) (e : Expr) (g : Ev → Rs Bool) : Prop := PT X e (tT X.kb F g)
abbrev AP' (X : Cx) (F : FC) (es : List Expr) (g : Ev → Rs (List PyData)) : Prop := PA X es (tA X.kb F g)
theorem wkE {X : Cx} {e : Expr} {t t' : TE} (h : PE X e t) (w : ∀ σ H Q, t' σ H Q → t σ H Q) : PE X e t' := ⟨fun pins s σ H Q I q => h.run pins s σ H Q I (w _ _ _ q)⟩
theorem wkT {X : Cx} {e : Expr} {t t' : TT} (h : PT X e t) (w : ∀ σ H Q, t' σ H Q → t σ H Q) : PT X e t' := ⟨fun pins s σ H Q I q => h.run pins s σ H Q I (w _ _ _ q)⟩
theorem wkW {X : Cx} {e : Expr} {t t' : TT} (h : PW X e t) (w : ∀ σ H Q, t' σ H Q → t σ H Q) : PW X e t' := ⟨fun wh pins s σ H Q I q => h.run wh pins s σ H Q I (w _ _ _ q)⟩
theorem wkA {X : Cx} {es : List Expr} {t t' : TA} (h : PA X es t) (w : ∀ σ H Q, t' σ H Q → t σ H Q) : PA X es t' := ⟨fun pos pins s σ H Q I q => h.run pos pins s σ H Q I (w _ _ _ q)⟩
theorem wkS {X : Cx} {st : Stmt} {t t' : TS} (h : PS X st t) (w : ∀ D σ H, t' D σ H → t D σ H) : PS X st t' := ⟨fun pins s σ H D I q => h.run pins s σ H D I (w _ _ _ q)⟩
theorem wkSs {X : Cx} {st : List Stmt} {t t' : TS} (h : PSs X st t) (w : ∀ D σ H, t' D σ H → t D σ H) : PSs X st t' := ⟨fun pins s σ H D I q => h.run pins s σ H D I (w _ _ _ q)⟩

def getC : Ev → Nat → Option Cell
  | [], _ => none
  | c :: _, 0 => c
  | _ :: r, i + 1 => getC r i
theorem getC_iff : ∀ {ρ : Ev} {i : Nat} {c : Cell}, getC ρ i = some c ↔ ρ[i]? = some (some c)
  | [], _, _ => by simp [getC]
  | c :: _, 0, c' => by simp [getC]
  | _ :: r, i + 1, c => by simpa [getC] using getC_iff (ρ := r) (i := i)
def vr (i : Nat) : Ev → Rs PyData := fun ρ => match getC ρ i with | some (.pub d) => .ok d | _ => .no
def cn (d : PyData) : Ev → Rs PyData := fun _ => .ok d
def ap1 (op : PyData → Rs PyData) (f : Ev → Rs PyData) : Ev → Rs PyData := fun ρ => (f ρ).bnd op
def ap2 (op : PyData → PyData → Rs PyData) (f g : Ev → Rs PyData) : Ev → Rs PyData := fun ρ => (f ρ).bnd fun a => (g ρ).bnd fun b => op a b

section
variable {X : Cx} {F : FC}
theorem p_var {x : Str} {pos : Pos} (i : Nat) (h : PE X (.Name x pos) (tVar i)) : EP' X F (.Name x pos) (vr i) := wkE h fun σ H Q ⟨O, ρ, d, r, e, q⟩ => by
  unfold vr at e
  split at e
  · rename_i d' hd
    cases e
    obtain ⟨v, h1, h2⟩ := r.slots i _ (getC_iff.mp hd)
    exact ⟨v, h1, q v H (Same.refl H) h2⟩
  · exact nomatch e
theorem p_const {e : Expr} {v : V} {d : PyData} (h : PE X e (tC v)) (r : ∀ H, R X.K H d v) : EP' X F e (cn d) := wkE h fun σ H Q ⟨O, ρ, d', rl, he, q⟩ => by
  have e' : d = d' := Rs.ok.inj he
  exact q v H (Same.refl H) (e' ▸ r _)
theorem p_int {i j pos} : EP' X F (.Constant (.int i) j pos) (cn (.int i)) := p_const pe_int fun _ => by rw [R]
theorem p_bool {b j pos} : EP' X F (.Constant (.bool b) j pos) (cn (.bool b)) := p_const pe_bl fun _ => by rw [R]
theorem p_none {j pos} : EP' X F (.Constant .none j pos) (cn .none) := p_const pe_non fun _ => by rw [R]
theorem p_str {x j pos} (hs : PyData.strOk x = true := by decide +kernel) : EP' X F (.Constant (.str x) j pos) (cn (.str x)) := p_const pe_str fun _ => by rw [R]; exact ⟨rfl, hs⟩

/-- what an operator's rule asks, by data -/
def rP2 (K : PySem.W.Frag) (op : PyData → PyData → Rs PyData) : R2 := fun x y H Q => ∃ (N : Addr → Prop) (d1 d2 d : PyData), (∀ a, N a → H a ≠ none) ∧ R K (hide N H) d1 x ∧ R K (hide N H) d2 y ∧ op d1 d2 = .ok d ∧ ∀ v H', Same H H' → R K (hide N H') d v → Q v H'
def rP1 (K : PySem.W.Frag) (op : PyData → Rs PyData) : V → Hp → VK → Prop := fun x H Q => ∃ (N : Addr → Prop) (d1 d : PyData), (∀ a, N a → H a ≠ none) ∧ R K (hide N H) d1 x ∧ op d1 = .ok d ∧ ∀ v H', Same H H' → R K (hide N H') d v → Q v H'
def rPC (K : PySem.W.Frag) (op : List PyData → Rs PyData) : List V → Hp → VK → Prop := fun xs H Q => ∃ (N : Addr → Prop) (ds : List PyData) (d : PyData), (∀ a, N a → H a ≠ none) ∧ RA K (hide N H) ds xs ∧ op ds = .ok d ∧ ∀ v H', Same H H' → R K (hide N H') d v → Q v H'

theorem to2 {K : KB} {op : PyData → PyData → Rs PyData} {fa fb : Ev → Rs PyData} {σ : St} {H : Hp} {Q : VK} (h : tP K F (ap2 op fa fb) σ H Q) : tOp (rP2 K.K op) (tP K F fa) (tP K F fb) σ H Q := by
  obtain ⟨O, ρ, d, r, e, q⟩ := h
  obtain ⟨a, ea, e⟩ := Rs.bnd_eq e
  obtain ⟨b, eb, e⟩ := Rs.bnd_eq e
  refine ⟨O, ρ, a, r, ea, fun x H1 s1 r1 => ⟨O, ρ, b, r.mono s1, eb, fun y H2 s2 r2 => ⟨NN F O, a, b, d, fun z n => ((r.mono s1).mono s2).nlive n, r1.mono (hide_same s2), r2, e, fun v H' s3 r3 => q v H' ((s1.trans s2).trans s3) r3⟩⟩⟩
theorem to1 {K : KB} {op : PyData → Rs PyData} {fa : Ev → Rs PyData} {σ : St} {H : Hp} {Q : VK} (h : tP K F (ap1 op fa) σ H Q) : tUn (rP1 K.K op) (tP K F fa) σ H Q := by
  obtain ⟨O, ρ, d, r, e, q⟩ := h
  obtain ⟨a, ea, e⟩ := Rs.bnd_eq e
  exact ⟨O, ρ, a, r, ea, fun x H1 s1 r1 => ⟨NN F O, a, d, fun z n => (r.mono s1).nlive n, r1, e, fun v H' s3 r3 => q v H' (s1.trans s3) r3⟩⟩
def apC (op : List PyData → Rs PyData) (g : Ev → Rs (List PyData)) : Ev → Rs PyData := fun ρ => (g ρ).bnd op
theorem toC {K : KB} {op : List PyData → Rs PyData} {g : Ev → Rs (List PyData)} {σ : St} {H : Hp} {Q : VK} (h : tP K F (apC op g) σ H Q) : tCB (rPC K.K op) (tA K F g) σ H Q := by
  obtain ⟨O, ρ, d, r, e, q⟩ := h
  obtain ⟨a, ea, e⟩ := Rs.bnd_eq e
  exact ⟨O, ρ, a, r, ea, fun x H1 s1 r1 => ⟨NN F O, a, d, fun z n => (r.mono s1).nlive n, r1, e, fun v H' s3 r3 => q v H' (s1.trans s3) r3⟩⟩

/-! arguments -/
def aN : Ev → Rs (List PyData) := fun _ => .ok []
def aC (f : Ev → Rs PyData) (g : Ev → Rs (List PyData)) : Ev → Rs (List PyData) := fun ρ => (f ρ).bnd fun a => (g ρ).bnd fun b => .ok (a :: b)
theorem pa_n : AP' X F [] aN := wkA pa_nil fun σ H Q ⟨O, ρ, d, r, e, q⟩ => by
  cases e
  exact q [] H (Same.refl H) .nil
theorem pa_c {e : Expr} {es : List Expr} {f : Ev → Rs PyData} {g : Ev → Rs (List PyData)} (h : EP' X F e f) (t : AP' X F es g)
    (hs : starEach (e :: es) X.env = (false, eval e X.env) :: starEach es X.env := by rfl) : AP' X F (e :: es) (aC f g) := wkA (pa_cons h t hs) fun σ H Q ⟨O, ρ, d, r, e, q⟩ => by
  obtain ⟨a, ea, e⟩ := Rs.bnd_eq e
  obtain ⟨b, eb, e⟩ := Rs.bnd_eq e
  cases e
  exact ⟨O, ρ, a, r, ea, fun x H1 s1 r1 => ⟨O, ρ, b, r.mono s1, eb, fun xs H2 s2 r2 => q (x :: xs) H2 (s1.trans s2) (.cons (r1.mono (hide_same s2)) r2)⟩⟩

/-! operators, built-in calls -/
theorem p_op {op : Operator} {o : PyData → PyData → Rs PyData} {a b : Expr} {fa fb : Ev → Rs PyData} {pos : Pos} (ho : OpR X (binaryOp op) (rP2 X.K o)) (ha : EP' X F a fa) (hb : EP' X F b fb) : EP' X F (.BinOp a op b pos) (ap2 o fa fb) :=
  wkE (pe_op ho ha hb) fun _ _ _ h => to2 h
theorem p_un {op : UnaryOp} {o : PyData → Rs PyData} {a : Expr} {fa : Ev → Rs PyData} {pos : Pos} (ho : UnR X (unaryOp op) (rP1 X.K o)) (ha : EP' X F a fa) : EP' X F (.UnaryOp op a pos) (ap1 o fa) :=
  wkE (pe_un ho ha) fun _ _ _ h => to1 h
theorem p_cmp {op : CmpOp} {o : PyData → PyData → Rs PyData} {a b : Expr} {fa fb : Ev → Rs PyData} {pos : Pos} (ho : OpR X (compareOp op) (rP2 X.K o)) (ha : EP' X F a fa) (hb : EP' X F b fb) (hm : behindInMarks op b = false) : EP' X F (.Compare a [op] [b] pos) (ap2 o fa fb) :=
  wkE (pe_cmpR ho ha hb hm) fun _ _ _ h => to2 h
/-- a test that is a bool -/
def isB : PyData → Rs Bool
  | .bool b => .ok b
  | _ => .no
def tB' (f : Ev → Rs PyData) : Ev → Rs Bool := fun ρ => (f ρ).bnd isB
theorem R.isB {K : PySem.W.Frag} {H : Hp} {d : PyData} {v : V} {b : Bool} (r : R K H d v) (e : isB d = .ok b) : v = .bl b := by
  cases d with
  | bool c => rw [R] at r; cases e; exact r
  | _ => exact nomatch e
theorem pt_cmp' {op : CmpOp} {o : PyData → PyData → Rs PyData} {a b : Expr} {fa fb : Ev → Rs PyData} {pos : Pos} (ho : OpR X (compareOp op) (rP2 X.K o)) (ha : EP' X F a fa) (hb : EP' X F b fb) (hm : behindInMarks op b = false) : TP' X F (.Compare a [op] [b] pos) (tB' (ap2 o fa fb)) :=
  wkT (pt_cmpR ho ha hb hm) fun σ H Q ⟨O, ρ, d, r, e, q⟩ => by
    obtain ⟨x, ex, e⟩ := Rs.bnd_eq e
    exact to2 ⟨O, ρ, x, r, ex, fun v H' s r' => ⟨d, r'.isB e, q H' s⟩⟩
theorem p_callB {id : String} {o : List PyData → Rs PyData} {x : Str} {p pos : Pos} {e : Expr} {es : List Expr} {g : Ev → Rs (List PyData)} (hc : CallR X (.builtin id) (rPC X.K o)) (hg : Gl X x) (hm : X.mg x = none) (hv : bootBuiltins x = some (.builtin id)) (ha : AP' X F (e :: es) g) (hn : x ≠ "__name__" := by decide) (hdb : (x == ("__debug__" : Str)) = false := by decide)
    (he : starEach (e :: es) X.env = (false, eval e X.env) :: starEach es X.env := by rfl) (hpl : (backTo pos (starEach es X.env)).any (·.1) = false := by rfl) : EP' X F (.Call (.Name x p) (e :: es) [] pos) (apC o g) :=
  wkE (pe_callB hc hg hm hv ha hn hdb he hpl) fun _ _ _ h => toC h
theorem p_callTy {T : String} {o : List PyData → Rs PyData} {x : Str} {p pos : Pos} {e : Expr} {es : List Expr} {g : Ev → Rs (List PyData)} (hc : CallR X (.type T) (rPC X.K o)) (hg : Gl X x) (hm : X.mg x = none) (hv : bootBuiltins x = some (.type T)) (ha : AP' X F (e :: es) g) (hn : x ≠ "__name__" := by decide) (hdb : (x == ("__debug__" : Str)) = false := by decide)
    (he : starEach (e :: es) X.env = (false, eval e X.env) :: starEach es X.env := by rfl) (hpl : (backTo pos (starEach es X.env)).any (·.1) = false := by rfl) : EP' X F (.Call (.Name x p) (e :: es) [] pos) (apC o g) :=
  wkE (pe_callTy hc hg hm hv ha hn hdb he hpl) fun _ _ _ h => toC h
end
end PL


/-! PLN: new tuples, of which it is known that they have no dict of their own -/
namespace PL
open PySem PySem.Spec PyProof.Rows L2
/-- a fresh tuple -/
def NewT (H : Hp) (xs : List V) (Q : V → Hp → Prop) : Prop := ∀ p (o : Obj), H p = none → o.dict = none → Q (.ref p) (upd H p (.frz o (.tup xs)))
section
variable {X : Cx}
theorem new_ok {pins : List (Addr × Obj)} {σ : St} {H : Hp} {s : Shared} {xs : List V} {its : List Value} {Q : VK} (I : Inv X pins σ H s) (hz : xs.length ≤ sizeLine) (r : Vals xs its) (q : NewT H xs Q) :
    EP X pins σ Q (.ref s.heap.objs.size) { s with heap := s.heap.push { cls := .type "tuple", data := .seq its.toArray } } := by
  refine ⟨.ref s.heap.objs.size, _, I.laid (t' := s.toks) (o := .frz { cls := .type "tuple", data := .seq its.toArray } (.tup xs)) (fun b ob q => Heap.get?_push_of_some _ q) (Nat.le_refl _) ?_, rfl, q _ _ (I.hok.fresh (Nat.le_refl _)) rfl⟩
  exact ⟨Heap.get?_push_size _ rfl, hz, its, r, IsTup.new _ _⟩
def rCatN (K : PySem.W.Frag) : R2 := fun x y H Q => ∃ a b xs ys, x = .ref a ∧ y = .ref b ∧ SqT K H a xs ∧ SqT K H b ys ∧ xs.length + ys.length ≤ sizeLine ∧ (xs = [] → Q (.ref b) H) ∧ (xs ≠ [] → ys = [] → Q (.ref a) H) ∧ (xs ≠ [] → ys ≠ [] → NewT H (xs ++ ys) Q)
theorem op_catN : OpR X (binaryOp .Add) (rCatN X.K) := by
  intro pins s σ H x y v u Q I rx ry h
  obtain ⟨a, b, xs, ys, rfl, rfl, ha, hb, hz, q0, q1, q2⟩ := h
  by_cases hx : xs = []
  · exact op_catA pins s σ H _ _ v u Q I rx ry ⟨a, b, xs, ys, rfl, rfl, ha, hb, hz, q0, q1, fun z => absurd hx z⟩
  · by_cases hy : ys = []
    · exact op_catA pins s σ H _ _ v u Q I rx ry ⟨a, b, xs, ys, rfl, rfl, ha, hb, hz, q0, q1, fun _ z => absurd hy z⟩
    · cases rx
      cases ry
      obtain ⟨its, r1, p1, _⟩ := I.tuple ha
      obtain ⟨its2, r2, p2, _⟩ := I.tuple hb
      refine HT.cat_tup p1 p2 (fun z => hx (r1.nil_iff.mp z)) (fun z => absurd (r2.nil_iff.mp z) hy) (fun z => ?_) (by rw [← r1.length, ← r2.length]; exact hz)
      exact new_ok I (by rw [List.length_append]; exact hz) (r1.append r2) (q2 hx hy)
def rSlN (K : PySem.W.Frag) : V → Option Int → Option Int → Hp → VK → Prop := fun x lo hi H Q => ∃ a xs, x = .ref a ∧ SqT K H a xs ∧
  (HT.sIx xs.length 0 lo = 0 ∧ HT.sIx xs.length xs.length hi = xs.length → Q (.ref a) H) ∧ (¬ (HT.sIx xs.length 0 lo = 0 ∧ HT.sIx xs.length xs.length hi = xs.length) → NewT H (cutV xs lo hi) Q)
theorem sl_tupN : SlR X (rSlN X.K) := by
  intro pins s σ H x v vl vu lo hi sl Q I rx hs pl pu h
  obtain ⟨a, xs, rfl, hx, q1, q2⟩ := h
  by_cases hw : HT.sIx xs.length 0 lo = 0 ∧ HT.sIx xs.length xs.length hi = xs.length
  · exact sl_tupA pins s σ H _ v vl vu lo hi sl Q I rx hs pl pu ⟨a, xs, rfl, hx, q1, fun z => absurd hw z⟩
  · cases rx
    obtain ⟨its, r, ht, hz⟩ := I.tuple hx
    have hlen : its.toArray.size = xs.length := by rw [List.size_toArray]; exact r.length.symm
    refine ⟨"tuple", _, PyProof.Rows.slot_tuple_getitem.lookup, ht.typeIs, ?_⟩
    refine HT.getItem_tuple_cut ht hs pl pu (by rw [hlen]; exact hw) ?_ (by rw [hlen]; exact hz)
    rw [hlen]
    exact new_ok I (Nat.le_trans (cutV_length xs lo hi) hz) ((r.drop (HT.sIx xs.length 0 lo)).take (HT.sIx xs.length xs.length hi - HT.sIx xs.length 0 lo)) (q2 hw)
def tTupN (t : TA) : TE := fun σ H Q => t σ H fun xs H1 => xs.length ≤ sizeLine ∧ NewT H1 xs Q
theorem pe_tupN {es : List Expr} {t : TA} {pos : Pos} {x1} (h : PA X es t) : PE X (.Tuple es x1 pos) (tTupN t) := by
  refine ⟨fun pins s σ H Q I hq => ?_⟩
  refine wpAny_Tuple_spliced (thn (h.run pos pins s σ H _ I hq) fun us s1 ⟨xs, H1, I1, r, z, q⟩ => ⟨by rw [← r.length]; exact z, ?_⟩)
  exact new_ok (s := s1) I1 z r q
theorem call_tupleN : CallR X (.type "tuple") (fun xs H Q => ∃ p ys, xs = [.ref p] ∧ ((SqL X.K H p ys ∧ NewT H ys Q) ∨ (SqT X.K H p ys ∧ Q (.ref p) H))) := by
  intro pins s σ H xs us Q I r h
  obtain ⟨p, ys, rfl, h⟩ := h
  rcases h with ⟨hq, q⟩ | ⟨hq, q⟩
  · obtain ⟨u, rfl, rx⟩ := vals1 r
    cases rx
    obtain ⟨its, r', pl, hz⟩ := I.list hq
    have hlen := r'.length
    refine call_tuple_list pl.isList (fun h' kp => ?_) (by simp only [List.size_toArray] <;> omega)
    have I1 : Inv X pins σ H { s with heap := h' } := I.kept (t' := s.toks) kp
    exact new_ok I1 hz r' q
  · exact call_tuple_of pins s σ H _ us Q I r ⟨p, ys, rfl, .inr ⟨hq, q⟩⟩
end
end PL


/-! PL2: Python's operators and built-in functions as functions of plain data -/
namespace PL
open PySem PySem.Spec PyProof.Rows L2

/-! ### operators -/
def addD : PyData → PyData → Rs PyData
  | .int i, .int j => .ok (.int (i + j))
  | .str x, .str y => if x.length + y.length ≤ sizeLine then .ok (.str (x ++ y)) else .no
  | .list xs, .list ys => if xs.length + ys.length ≤ sizeLine then .ok (.list (xs ++ ys)) else .no
  | .tuple xs, .tuple ys => if xs.length + ys.length ≤ sizeLine then .ok (.tuple (xs ++ ys)) else .no
  | _, _ => .no
def subD : PyData → PyData → Rs PyData
  | .int i, .int j => .ok (.int (i - j))
  | _, _ => .no
def mulOk (i j : Int) : Bool := decide ((-(2 ^ 64) < i ∧ i < 2 ^ 64) ∨ (-(2 ^ 64) < j ∧ j < 2 ^ 64))
theorem mulOk_iff {i j : Int} (h : mulOk i j = true) : CMul i j := by
  unfold mulOk at h
  have h' := of_decide_eq_true h
  exact h'
def mulD : PyData → PyData → Rs PyData
  | .int i, .int j => if mulOk i j then .ok (.int (i * j)) else .no
  | .list xs, .int k => if 0 ≤ k ∧ k ≤ 1000 ∧ xs.length ≤ 1000 then .ok (.list (List.replicate k.toNat xs).flatten) else .no
  | _, _ => .no
def modD : PyData → PyData → Rs PyData
  | .int i, .int j => if 0 < j then .ok (.int (i % j)) else .no
  | _, _ => .no
def divD : PyData → PyData → Rs PyData
  | .int i, .int j => if 0 < j ∧ j < 1073741824 then .ok (.int (i / j)) else .no
  | _, _ => .no
def powD : PyData → PyData → Rs PyData
  | .int i, .int j => if 0 ≤ j ∧ j ≤ 1000000 ∧ i.natAbs < 2 ^ 64 then .ok (.int (i ^ j.toNat)) else .no
  | _, _ => .no
def shlD : PyData → PyData → Rs PyData
  | .int i, .int j => if 0 ≤ j ∧ j ≤ 1000000 ∧ i.natAbs < 2 ^ 64 then .ok (.int (i * 2 ^ j.toNat)) else .no
  | _, _ => .no
def shrD : PyData → PyData → Rs PyData
  | .int i, .int j => if 0 ≤ j then .ok (.int (i / 2 ^ j.toNat)) else .no
  | _, _ => .no
def andD : PyData → PyData → Rs PyData
  | .int i, .int j => .ok (.int (Builtin.bitAnd i j))
  | _, _ => .no
def negD : PyData → Rs PyData
  | .int i => .ok (.int (-i))
  | _ => .no
def shallow (d e : PyData) : Bool := decide (min d.depth e.depth ≤ 60) && (nod d && nod e)
theorem shallow_iff {d e : PyData} (h : shallow d e = true) : min d.depth e.depth ≤ 60 ∧ nod d = true ∧ nod e = true := by
  unfold shallow at h; rw [Bool.and_eq_true, Bool.and_eq_true] at h; exact ⟨of_decide_eq_true h.1, h.2⟩
def eqD (d e : PyData) : Rs PyData := if shallow d e then .ok (.bool (PyData.eqv d e)) else .no
def neD (d e : PyData) : Rs PyData := if shallow d e then .ok (.bool (!PyData.eqv d e)) else .no
def inD (d : PyData) : PyData → Rs PyData
  | .list ds => if min (PyData.depthAll ds) d.depth ≤ 60 ∧ nodAll ds = true ∧ nod d = true then .ok (.bool (ds.any fun z => PyData.eqv z d)) else .no
  | .tuple ds => if min (PyData.depthAll ds) d.depth ≤ 60 ∧ nodAll ds = true ∧ nod d = true then .ok (.bool (ds.any fun z => PyData.eqv z d)) else .no
  | _ => .no
def ninD (d : PyData) : PyData → Rs PyData
  | .list ds => if min (PyData.depthAll ds) d.depth ≤ 60 ∧ nodAll ds = true ∧ nod d = true then .ok (.bool (!ds.any fun z => PyData.eqv z d)) else .no
  | .tuple ds => if min (PyData.depthAll ds) d.depth ≤ 60 ∧ nodAll ds = true ∧ nod d = true then .ok (.bool (!ds.any fun z => PyData.eqv z d)) else .no
  | _ => .no
def notNone : PyData → Bool
  | .none => false
  | _ => true
def ltD : PyData → PyData → Rs PyData
  | .int i, .int j => .ok (.bool (decide (i < j)))
  | d, e => if PySem.W.alike d e && notNone d && shallow d e then .ok (.bool (PySem.W.dataLt d e)) else .no
def leD : PyData → PyData → Rs PyData
  | .int i, .int j => .ok (.bool (decide (i ≤ j)))
  | _, _ => .no
def gtD : PyData → PyData → Rs PyData
  | .int i, .int j => .ok (.bool (decide (j < i)))
  | d, e => if PySem.W.alike d e && notNone d && shallow d e then .ok (.bool (PySem.W.dataLt e d)) else .no
def geD : PyData → PyData → Rs PyData
  | .int i, .int j => .ok (.bool (decide (j ≤ i)))
  | _, _ => .no
/-- is, beside None, True, False -/
def isV : PyData → PyData → Rs Bool
  | .bool b, .bool c => .ok (b == c)
  | .none, .none => .ok true
  | .none, .bool _ => .ok false
  | .bool _, .none => .ok false
  | .int _, .bool _ => .ok false
  | .int _, .none => .ok false
  | .str _, .bool _ => .ok false
  | .str _, .none => .ok false
  | .list _, .bool _ => .ok false
  | .list _, .none => .ok false
  | .tuple _, .bool _ => .ok false
  | .tuple _, .none => .ok false
  | _, _ => .no
def isD (d e : PyData) : Rs PyData := (isV d e).bnd fun b => .ok (.bool b)
def isnD (d e : PyData) : Rs PyData := (isV d e).bnd fun b => .ok (.bool (!b))
/-- a value's truth -/
def truD : PyData → Rs Bool
  | .none => .ok false
  | .bool b => .ok b
  | .int i => .ok (i != 0)
  | .list ds => .ok (!ds.isEmpty)
  | .tuple ds => .ok (!ds.isEmpty)
  | _ => .no

section
variable {X : Cx}
theorem R.intV {K : PySem.W.Frag} {H : Hp} {i : Int} {v : V} (r : R K H (.int i) v) : v = .int i := by rw [R] at r; exact r
theorem R.boolV {K : PySem.W.Frag} {H : Hp} {i : Bool} {v : V} (r : R K H (.bool i) v) : v = .bl i := by rw [R] at r; exact r
theorem R.noneV {K : PySem.W.Frag} {H : Hp} {v : V} (r : R K H .none v) : v = .non := by rw [R] at r; exact r
theorem R.strV {K : PySem.W.Frag} {H : Hp} {i : Str} {v : V} (r : R K H (.str i) v) : v = .str i ∧ PyData.strOk i = true := by rw [R] at r; exact r
theorem R.listV {K : PySem.W.Frag} {H : Hp} {ds : List PyData} {v : V} (r : R K H (.list ds) v) : ds.length ≤ sizeLine ∧ ∃ a xs, v = .ref a ∧ SqL K H a xs ∧ RA K H ds xs := by rw [R] at r; exact r
theorem R.tupV {K : PySem.W.Frag} {H : Hp} {ds : List PyData} {v : V} (r : R K H (.tuple ds) v) : ds.length ≤ sizeLine ∧ ∃ a xs, v = .ref a ∧ SqT K H a xs ∧ RA K H ds xs := by
  rw [R] at r
  obtain ⟨z, a, xs, e1, h1, t1, _⟩ := r
  exact ⟨z, a, xs, e1, h1, t1⟩
theorem R.tupN {K : PySem.W.Frag} {H : Hp} {ds : List PyData} {v : V} (r : R K H (.tuple ds) v) : ds.length ≤ sizeLine ∧ ∃ a xs, v = .ref a ∧ SqT K H a xs ∧ RA K H ds xs ∧ (NoD K H a ∨ strT ds = true) := by rw [R] at r; exact r
theorem R.int {K : PySem.W.Frag} {H : Hp} {i : Int} : R K H (.int i) (.int i) := by rw [R]
theorem R.bool {K : PySem.W.Frag} {H : Hp} {i : Bool} : R K H (.bool i) (.bl i) := by rw [R]
theorem R.none {K : PySem.W.Frag} {H : Hp} : R K H .none .non := by rw [R]
theorem R.str {K : PySem.W.Frag} {H : Hp} {x : Str} (h : PyData.strOk x = true) : R K H (.str x) (.str x) := by rw [R]; exact ⟨rfl, h⟩
theorem R.list {K : PySem.W.Frag} {H : Hp} {ds : List PyData} {a : Addr} {xs : List V} (z : ds.length ≤ sizeLine) (h : SqL K H a xs) (t : RA K H ds xs) : R K H (.list ds) (.ref a) := by rw [R]; exact ⟨z, a, xs, rfl, h, t⟩
theorem R.tup {K : PySem.W.Frag} {H : Hp} {ds : List PyData} {a : Addr} {xs : List V} (z : ds.length ≤ sizeLine) (h : SqT K H a xs) (t : RA K H ds xs) (nd : NoD K H a ∨ strT ds = true) : R K H (.tuple ds) (.ref a) := by rw [R]; exact ⟨z, a, xs, rfl, h, t, nd⟩

theorem same_upd {H : Hp} {p : Addr} {o : HO} (h : H p = none) : Same H (upd H p o) := fun b x e => by
  rw [upd_ne (ne_of_none e h)]
  exact e
/-- a new object, seen where N is hidden -/
theorem hide_upd {N : Addr → Prop} {H : Hp} {p : Addr} {o : HO} (n : ∀ a, N a → H a ≠ none) (h : H p = none) : hide N (upd H p o) p = some o := hide_of (fun z => n _ z h) upd_same
theorem newL {K : PySem.W.Frag} {N : Addr → Prop} {H : Hp} {p : Addr} {ds : List PyData} {xs : List V} (n : ∀ a, N a → H a ≠ none) (h : H p = none) (z : ds.length ≤ sizeLine) (r : RA K (hide N H) ds xs) : R K (hide N (upd H p (.lst xs))) (.list ds) (.ref p) :=
  .list z (.of (hide_upd n h)) (r.mono (hide_same (same_upd h)))
theorem newT {K : PySem.W.Frag} {N : Addr → Prop} {H : Hp} {p : Addr} {ds : List PyData} {xs : List V} {o : Obj} (ho : o.dict = none) (n : ∀ a, N a → H a ≠ none) (h : H p = none) (z : ds.length ≤ sizeLine) (r : RA K (hide N H) ds xs) : R K (hide N (upd H p (.frz o (.tup xs)))) (.tuple ds) (.ref p) :=
  .tup z (.inl (.inr ⟨o, hide_upd n h⟩)) (r.mono (hide_same (same_upd h))) (.inl (.inl ⟨o, _, ho, hide_upd n h⟩))

/-- ints and ints, otherwise by case -/
theorem opII {f : Value → Value → Sem Value} {op : PyData → PyData → Rs PyData} {r : R2} (ho : OpR X f r) (h : ∀ (N : Addr → Prop) (H : Hp) (Q : VK) (d1 d2 d : PyData) (x y : V), (∀ a, N a → H a ≠ none) → R X.K (hide N H) d1 x → R X.K (hide N H) d2 y → op d1 d2 = .ok d →
    (∀ v H', Same H H' → R X.K (hide N H') d v → Q v H') → r x y H Q) : OpR X f (rP2 X.K op) := by
  intro pins s σ H x y v u Q I rx ry ⟨N, d1, d2, d, n, r1, r2, e, q⟩
  exact ho pins s σ H x y v u Q I rx ry (h N H Q d1 d2 d x y n r1 r2 e q)

theorem o_sub : OpR X (binaryOp .Sub) (rP2 X.K subD) := opII op_sub fun N H Q d1 d2 d x y n r1 r2 e q => by
  unfold subD at e
  split at e <;> first | (cases e; done) | skip
  cases e
  exact ⟨_, _, r1.intV, r2.intV, q _ H (Same.refl H) .int⟩
theorem o_mod : OpR X (binaryOp .Mod) (rP2 X.K modD) := opII op_mod fun N H Q d1 d2 d x y n r1 r2 e q => by
  unfold modD at e
  split at e <;> first | (cases e; done) | skip
  split at e <;> first | (cases e; done) | skip
  cases e
  exact ⟨_, _, r1.intV, r2.intV, by assumption, q _ H (Same.refl H) .int⟩
theorem o_div : OpR X (binaryOp .FloorDiv) (rP2 X.K divD) := opII op_fdiv fun N H Q d1 d2 d x y n r1 r2 e q => by
  unfold divD at e
  split at e <;> first | (cases e; done) | skip
  split at e <;> first | (cases e; done) | skip
  cases e
  exact ⟨_, _, r1.intV, r2.intV, by assumption, q _ H (Same.refl H) .int⟩
theorem o_pow : OpR X (binaryOp .Pow) (rP2 X.K powD) := opII op_pow fun N H Q d1 d2 d x y n r1 r2 e q => by
  unfold powD at e
  split at e <;> first | (cases e; done) | skip
  split at e <;> first | (cases e; done) | skip
  cases e
  exact ⟨_, _, r1.intV, r2.intV, by assumption, q _ H (Same.refl H) .int⟩
theorem o_shl : OpR X (binaryOp .LShift) (rP2 X.K shlD) := opII op_shl fun N H Q d1 d2 d x y n r1 r2 e q => by
  unfold shlD at e
  split at e <;> first | (cases e; done) | skip
  split at e <;> first | (cases e; done) | skip
  cases e
  exact ⟨_, _, r1.intV, r2.intV, by assumption, q _ H (Same.refl H) .int⟩
theorem o_shr : OpR X (binaryOp .RShift) (rP2 X.K shrD) := opII op_shr fun N H Q d1 d2 d x y n r1 r2 e q => by
  unfold shrD at e
  split at e <;> first | (cases e; done) | skip
  split at e <;> first | (cases e; done) | skip
  cases e
  exact ⟨_, _, r1.intV, r2.intV, by assumption, q _ H (Same.refl H) .int⟩
theorem o_and : OpR X (binaryOp .BitAnd) (rP2 X.K andD) := opII op_and fun N H Q d1 d2 d x y n r1 r2 e q => by
  unfold andD at e
  split at e <;> first | (cases e; done) | skip
  cases e
  exact ⟨_, _, r1.intV, r2.intV, q _ H (Same.refl H) .int⟩
theorem o_le : OpR X (compareOp .LtE) (rP2 X.K leD) := opII op_le fun N H Q d1 d2 d x y n r1 r2 e q => by
  unfold leD at e
  split at e <;> first | (cases e; done) | skip
  cases e
  exact ⟨_, _, r1.intV, r2.intV, q _ H (Same.refl H) .bool⟩
theorem o_ge : OpR X (compareOp .GtE) (rP2 X.K geD) := opII op_ge fun N H Q d1 d2 d x y n r1 r2 e q => by
  unfold geD at e
  split at e <;> first | (cases e; done) | skip
  cases e
  exact ⟨_, _, r1.intV, r2.intV, q _ H (Same.refl H) .bool⟩
theorem u_neg : UnR X (unaryOp .USub) (rP1 X.K negD) := by
  intro pins s σ H x v Q I rx ⟨N, d1, d, n, r1, e, q⟩
  unfold negD at e
  split at e <;> first | (cases e; done) | skip
  cases e
  exact un_neg pins s σ H x v Q I rx ⟨_, r1.intV, q _ H (Same.refl H) .int⟩

theorem strOk_app {x y : Str} (hx : PyData.strOk x = true) (hy : PyData.strOk y = true) : PyData.strOk (x ++ y) = true := by
  unfold PyData.strOk at *
  show (x.cps ++ y.cps).all _ = true
  rw [Array.all_append, hx, hy]; rfl

theorem Inv.listAny {pins : List (Addr × Obj)} {σ : St} {H : Hp} {s : Shared} {a : Addr} {xs : List V} (I : Inv X pins σ H s) (h : SqL X.K H a xs) :
    ∃ (its : List Value) (n : Nat) (dd : Option Addr) (sl : Array (Option Value)), Vals xs its ∧ s.heap.get? a = some { cls := .type "list", dict := dd, data := .seq its.toArray n, slots := sl } := by
  obtain ⟨its, r, ⟨⟨c, dd, dt, sl⟩, n, e, hc, hd, hs⟩, _⟩ := L2.Inv.list I h
  simp only at hc hd hs
  subst hc hd hs
  exact ⟨its, n, _, sl, r, e⟩
/-- list + list, whatever they are -/
def rCat' (K : PySem.W.Frag) : R2 := fun x y H Q => ∃ l b xs zs, x = .ref l ∧ y = .ref b ∧ SqL K H l xs ∧ SqL K H b zs ∧ xs.length + zs.length ≤ sizeLine ∧ ∀ p, H p = none → Q (.ref p) (upd H p (.lst (xs ++ zs)))
theorem op_cat' : OpR X (binaryOp .Add) (rCat' X.K) := by
  intro pins s σ H x y v u Q I rx ry ⟨l, b, xs, zs, e1, e2, hH, hB, hz, q⟩
  subst e1 e2
  cases rx
  cases ry
  obtain ⟨its, n, dd, sl, r, e⟩ := Inv.listAny I hH
  obtain ⟨its2, n2, dd2, sl2, r2, e2⟩ := Inv.listAny I hB
  have hs : its.toArray.size + its2.toArray.size ≤ sizeLine := by rw [List.size_toArray, List.size_toArray, ← r.length, ← r2.length]; exact hz
  refine concat_meets ⟨_, e, rfl⟩ ⟨_, e2, rfl⟩ noFill_list_add seq_list_add PySem.F.slot_list_add PySem.F.entry_list_add (PySem.F.args_list_add_2 _ _) (list_addW l b its.toArray its2.toArray n n2 dd dd2 sl sl2 hs) ⟨e, e2, ?_⟩
  have ea : its.toArray ++ its2.toArray = (its ++ its2).toArray := by simp
  rw [ea]
  exact ⟨.ref _, _, I.lnew (t' := s.toks) (r.append r2) (by rw [List.length_append]; exact hz), rfl, q _ I.fresh⟩
theorem sqL_le {N : Addr → Prop} {K : PySem.W.Frag} {H : Hp} {a : Addr} {xs : List V} (h : SqL K (hide N H) a xs) : SqL K H a xs := hide_le.seq h
theorem sqT_le {N : Addr → Prop} {K : PySem.W.Frag} {H : Hp} {a : Addr} {xs : List V} (h : SqT K (hide N H) a xs) : SqT K H a xs := sqt_mono hide_le h

theorem o_add : OpR X (binaryOp .Add) (rP2 X.K addD) := by
  intro pins s σ H x y v u Q I rx ry ⟨N, d1, d2, d, n, r1, r2, e, q⟩
  unfold addD at e
  split at e
  · cases e
    exact op_add pins s σ H x y v u Q I rx ry ⟨_, _, r1.intV, r2.intV, q _ H (Same.refl H) .int⟩
  · split at e <;> first | (cases e; done) | skip
    cases e
    exact op_add_str pins s σ H x y v u Q I rx ry ⟨_, _, r1.strV.1, r2.strV.1, by assumption, q _ H (Same.refl H) (.str (strOk_app r1.strV.2 r2.strV.2))⟩
  · split at e <;> first | (cases e; done) | skip
    cases e
    rename_i hz
    obtain ⟨z1, a, xs, e1, h1, t1⟩ := r1.listV
    obtain ⟨z2, b, ys, e2, h2, t2⟩ := r2.listV
    exact op_cat' pins s σ H x y v u Q I rx ry ⟨a, b, xs, ys, e1, e2, sqL_le h1, sqL_le h2, by rw [t1.len, t2.len]; exact hz, fun p hp => q _ _ (same_upd hp) (newL n hp (by rw [List.length_append]; exact hz) (t1.append t2))⟩
  · split at e <;> first | (cases e; done) | skip
    cases e
    rename_i hz
    obtain ⟨z1, a, xs, e1, h1, t1, k1⟩ := r1.tupN
    obtain ⟨z2, b, ys, e2, h2, t2, k2⟩ := r2.tupN
    refine op_catN pins s σ H x y v u Q I rx ry ⟨a, b, xs, ys, e1, e2, sqT_le h1, sqT_le h2, by rw [t1.len, t2.len]; exact hz, fun z => ?_, fun _ z => ?_, fun _ _ p o hp ho => q _ _ (same_upd hp) (newT ho n hp (by rw [List.length_append]; exact hz) (t1.append t2))⟩
    · have z1 := t1.len; rw [z] at z1; have z3 := List.eq_nil_of_length_eq_zero z1.symm
      subst z3
      exact q _ H (Same.refl H) (by rw [List.nil_append]; exact .tup z2 h2 t2 k2)
    · have z1' := t2.len; rw [z] at z1'; have z3 := List.eq_nil_of_length_eq_zero z1'.symm
      subst z3
      exact q _ H (Same.refl H) (by rw [List.append_nil]; exact .tup z1 h1 t1 k1)
  · exact nomatch e

theorem len_rep {α : Type} (k : Nat) (xs : List α) : (List.replicate k xs).flatten.length = k * xs.length := by
  induction k with
  | zero => simp
  | succ k ih => rw [List.replicate_succ, List.flatten_cons, List.length_append, ih, Nat.succ_mul, Nat.add_comm]
theorem rep_small {α : Type} {k : Int} {xs : List α} (h1 : k ≤ 1000) (h2 : xs.length ≤ 1000) : (List.replicate k.toNat xs).flatten.length ≤ sizeLine := by
  rw [len_rep, sizeLine_eq]
  have a1 : k.toNat * xs.length ≤ 1000 * 1000 := Nat.mul_le_mul (by omega) h2
  omega
theorem o_mul (hl : ∀ (pins : List (Addr × Obj)) (s : Shared) (σ : St) (H : Hp) (x y : V) (v u : Value) (Q : VK), Inv X pins σ H s → RelV x v → RelV y u → (∃ l k xs, x = .ref l ∧ y = .int k ∧ SqL X.K H l xs ∧ 0 ≤ k ∧ k ≤ 1000 ∧ xs.length ≤ 1000 ∧
    ∀ p, H p = none → Q (.ref p) (upd H p (.lst (List.replicate k.toNat xs).flatten))) → wpAny (model X.prog X.w) X.A (binaryOp .Mult v u) (EP X pins σ Q) X.xe s) : OpR X (binaryOp .Mult) (rP2 X.K mulD) := by
  intro pins s σ H x y v u Q I rx ry ⟨N, d1, d2, d, n, r1, r2, e, q⟩
  unfold mulD at e
  split at e
  · split at e <;> first | (cases e; done) | skip
    rename_i hc
    cases e
    exact op_mul pins s σ H x y v u Q I rx ry ⟨_, _, r1.intV, r2.intV, mulOk_iff hc, q _ H (Same.refl H) .int⟩
  · split at e <;> first | (cases e; done) | skip
    rename_i hc
    cases e
    obtain ⟨z1, a, xs, e1, h1, t1⟩ := r1.listV
    exact hl pins s σ H x y v u Q I rx ry ⟨a, _, xs, e1, r2.intV, sqL_le h1, hc.1, hc.2.1, by rw [t1.len]; exact hc.2.2, fun p hp => q _ _ (same_upd hp) (newL n hp (rep_small hc.2.1 hc.2.2) (t1.rep _))⟩
  · exact nomatch e

theorem room60 {a b : Nat} (h : min a b ≤ 60) (hu : X.A.units + 64 < cLine) : X.A.units + min a b < cLine := by omega
theorem o_eq (hu : X.A.units + 64 < cLine) : OpR X (compareOp .Eq) (rP2 X.K eqD) := by
  intro pins s σ H x y v u Q I rx ry ⟨N, d1, d2, d, n, r1, r2, e, q⟩
  unfold eqD at e
  split at e <;> first | (cases e; done) | skip
  rename_i hc
  cases e
  obtain ⟨hc, n1, n2⟩ := shallow_iff hc
  obtain ⟨as, q1⟩ := Dp.reads I d1 x v ((r1.mono hide_le).dp n1) rx
  obtain ⟨bs, q2⟩ := Dp.reads I d2 y u ((r2.mono hide_le).dp n2) ry
  exact SeqAt.compareEq_reads q1 q2 (r1.canLay n1) (r2.canLay n2) (room60 hc hu) ⟨.bl _, H, I, rfl, q _ H (Same.refl H) .bool⟩
theorem o_ne (hu : X.A.units + 64 < cLine) : OpR X (compareOp .NotEq) (rP2 X.K neD) := by
  intro pins s σ H x y v u Q I rx ry ⟨N, d1, d2, d, n, r1, r2, e, q⟩
  unfold neD at e
  split at e <;> first | (cases e; done) | skip
  rename_i hc
  cases e
  obtain ⟨hc, n1, n2⟩ := shallow_iff hc
  obtain ⟨as, q1⟩ := Dp.reads I d1 x v ((r1.mono hide_le).dp n1) rx
  obtain ⟨bs, q2⟩ := Dp.reads I d2 y u ((r2.mono hide_le).dp n2) ry
  exact SeqAt.compareNe_reads q1 q2 (r1.canLay n1) (r2.canLay n2) (room60 hc hu) ⟨.bl _, H, I, rfl, q _ H (Same.refl H) .bool⟩
theorem o_in (hu : X.A.units + 64 < cLine) : OpR X (compareOp .In) (rP2 X.K inD) := by
  intro pins s σ H x y v u Q I rx ry ⟨N, d1, d2, d, n, r1, r2, e, q⟩
  unfold inD at e
  split at e
  · split at e <;> first | (cases e; done) | skip
    rename_i hc
    cases e
    obtain ⟨hc, n2, n1⟩ := hc
    have m2 : nod (.list ‹List PyData›) = true := by rw [nod]; exact n2
    obtain ⟨as, q1⟩ := Dp.reads I d1 x v ((r1.mono hide_le).dp n1) rx
    obtain ⟨bs, q2⟩ := Dp.reads I _ y u ((r2.mono hide_le).dp m2) ry
    have c2 := r2.canLay m2
    exact SeqAt.in_list_reads q2 q1 (by simpa [PyData.canLay0] using c2) (r1.canLay n1) (by omega) ⟨.bl _, H, I, rfl, q _ H (Same.refl H) .bool⟩
  · split at e <;> first | (cases e; done) | skip
    rename_i hc
    cases e
    obtain ⟨hc, n2, n1⟩ := hc
    have m2 : nod (.tuple ‹List PyData›) = true := by rw [nod]; exact n2
    obtain ⟨as, q1⟩ := Dp.reads I d1 x v ((r1.mono hide_le).dp n1) rx
    obtain ⟨bs, q2⟩ := Dp.reads I _ y u ((r2.mono hide_le).dp m2) ry
    have c2 := r2.canLay m2
    exact SeqAt.in_tuple_reads q2 q1 (by simpa [PyData.canLay0] using c2) (r1.canLay n1) (by omega) ⟨.bl _, H, I, rfl, q _ H (Same.refl H) .bool⟩
  · exact nomatch e
theorem o_nin (hu : X.A.units + 64 < cLine) : OpR X (compareOp .NotIn) (rP2 X.K ninD) := by
  intro pins s σ H x y v u Q I rx ry ⟨N, d1, d2, d, n, r1, r2, e, q⟩
  unfold ninD at e
  split at e
  · split at e <;> first | (cases e; done) | skip
    rename_i hc
    cases e
    obtain ⟨hc, n2, n1⟩ := hc
    have m2 : nod (.list ‹List PyData›) = true := by rw [nod]; exact n2
    obtain ⟨as, q1⟩ := Dp.reads I d1 x v ((r1.mono hide_le).dp n1) rx
    obtain ⟨bs, q2⟩ := Dp.reads I _ y u ((r2.mono hide_le).dp m2) ry
    have c2 := r2.canLay m2
    exact SeqAt.notIn_list_reads q2 q1 (by simpa [PyData.canLay0] using c2) (r1.canLay n1) (by omega) ⟨.bl _, H, I, rfl, q _ H (Same.refl H) .bool⟩
  · split at e <;> first | (cases e; done) | skip
    rename_i hc
    cases e
    obtain ⟨hc, n2, n1⟩ := hc
    have m2 : nod (.tuple ‹List PyData›) = true := by rw [nod]; exact n2
    obtain ⟨as, q1⟩ := Dp.reads I d1 x v ((r1.mono hide_le).dp n1) rx
    obtain ⟨bs, q2⟩ := Dp.reads I _ y u ((r2.mono hide_le).dp m2) ry
    have c2 := r2.canLay m2
    exact SeqAt.notIn_tuple_reads q2 q1 (by simpa [PyData.canLay0] using c2) (r1.canLay n1) (by omega) ⟨.bl _, H, I, rfl, q _ H (Same.refl H) .bool⟩
  · exact nomatch e
end
end PL


/-! PL3: more operators, subscripts, built-in functions -/
namespace PL
open PySem PySem.Spec PyProof.Rows L2
section
variable {X : Cx}
theorem o_lt (hu : X.A.units + 64 < cLine) : OpR X (compareOp .Lt) (rP2 X.K ltD) := by
  intro pins s σ H x y v u Q I rx ry ⟨N, d1, d2, d, n, r1, r2, e, q⟩
  unfold ltD at e
  split at e
  · cases e
    exact op_lt pins s σ H x y v u Q I rx ry ⟨_, _, r1.intV, r2.intV, q _ H (Same.refl H) .bool⟩
  · split at e <;> first | (cases e; done) | skip
    rename_i hc
    cases e
    simp only [Bool.and_eq_true] at hc
    obtain ⟨⟨hc1, hc2⟩, hc3⟩ := hc
    obtain ⟨hc3, n1, n2⟩ := shallow_iff hc3
    obtain ⟨as, q1⟩ := Dp.reads I d1 x v ((r1.mono hide_le).dp n1) rx
    obtain ⟨bs, q2⟩ := Dp.reads I d2 y u ((r2.mono hide_le).dp n2) ry
    exact PySem.W.rcLt_alike d1 d2 X.A s v u as bs q1 q2 hc1 (fun z => by subst z; exact nomatch hc2) (room60 hc3 hu) X.prog X.w X.xe _ ⟨.bl _, H, I, rfl, q _ H (Same.refl H) .bool⟩
theorem o_gt (hu : X.A.units + 64 < cLine) : OpR X (compareOp .Gt) (rP2 X.K gtD) := by
  intro pins s σ H x y v u Q I rx ry ⟨N, d1, d2, d, n, r1, r2, e, q⟩
  unfold gtD at e
  split at e
  · cases e
    exact op_gt pins s σ H x y v u Q I rx ry ⟨_, _, r1.intV, r2.intV, q _ H (Same.refl H) .bool⟩
  · split at e <;> first | (cases e; done) | skip
    rename_i hc
    cases e
    simp only [Bool.and_eq_true] at hc
    obtain ⟨⟨hc1, hc2⟩, hc3⟩ := hc
    obtain ⟨hc3, n1, n2⟩ := shallow_iff hc3
    obtain ⟨as, q1⟩ := Dp.reads I d1 x v ((r1.mono hide_le).dp n1) rx
    obtain ⟨bs, q2⟩ := Dp.reads I d2 y u ((r2.mono hide_le).dp n2) ry
    exact PySem.W.rcGt_alike d1 d2 X.A s v u as bs q1 q2 hc1 (fun z => by subst z; exact nomatch hc2) (room60 hc3 hu) X.prog X.w X.xe _ ⟨.bl _, H, I, rfl, q _ H (Same.refl H) .bool⟩
theorem isV_ok {K : PySem.W.Frag} {H : Hp} {d e : PyData} {x y : V} {v u : Value} {b : Bool} (r1 : R K H d x) (r2 : R K H e y) (rx : RelV x v) (ry : RelV y u) (h : isV d e = .ok b) : plainIs v u = true ∧ (v == u) = b := by
  unfold isV at h
  split at h <;> first | (cases h; done) | skip
  all_goals cases h
  · cases r1.boolV; cases r2.boolV; cases rx; cases ry; exact ⟨rfl, by rename_i b c; cases b <;> cases c <;> rfl⟩
  · cases r1.noneV; cases r2.noneV; cases rx; cases ry; exact ⟨rfl, rfl⟩
  · cases r1.noneV; cases r2.boolV; cases rx; cases ry; exact ⟨rfl, rfl⟩
  · cases r1.boolV; cases r2.noneV; cases rx; cases ry; exact ⟨rfl, rfl⟩
  · cases r1.intV; cases r2.boolV; obtain ⟨t, rfl⟩ := rx; cases ry; exact ⟨rfl, rfl⟩
  · cases r1.intV; cases r2.noneV; obtain ⟨t, rfl⟩ := rx; cases ry; exact ⟨rfl, rfl⟩
  · cases r1.strV.1; cases r2.boolV; obtain ⟨t, rfl⟩ := rx; cases ry; exact ⟨rfl, rfl⟩
  · cases r1.strV.1; cases r2.noneV; obtain ⟨t, rfl⟩ := rx; cases ry; exact ⟨rfl, rfl⟩
  · obtain ⟨_, a, xs, e1, _⟩ := r1.listV; subst e1; cases r2.boolV; cases rx; cases ry; exact ⟨rfl, rfl⟩
  · obtain ⟨_, a, xs, e1, _⟩ := r1.listV; subst e1; cases r2.noneV; cases rx; cases ry; exact ⟨rfl, rfl⟩
  · obtain ⟨_, a, xs, e1, _⟩ := r1.tupV; subst e1; cases r2.boolV; cases rx; cases ry; exact ⟨rfl, rfl⟩
  · obtain ⟨_, a, xs, e1, _⟩ := r1.tupV; subst e1; cases r2.noneV; cases rx; cases ry; exact ⟨rfl, rfl⟩
theorem o_is : OpR X (compareOp .Is) (rP2 X.K isD) := by
  intro pins s σ H x y v u Q I rx ry ⟨N, d1, d2, d, n, r1, r2, e, q⟩
  obtain ⟨b, hb, e⟩ := Rs.bnd_eq e
  cases e
  obtain ⟨h1, h2⟩ := isV_ok r1 r2 rx ry hb
  exact wpAny_is_plain h1 ⟨.bl b, H, I, by rw [h2]; rfl, q _ H (Same.refl H) .bool⟩
theorem o_isn : OpR X (compareOp .IsNot) (rP2 X.K isnD) := by
  intro pins s σ H x y v u Q I rx ry ⟨N, d1, d2, d, n, r1, r2, e, q⟩
  obtain ⟨b, hb, e⟩ := Rs.bnd_eq e
  cases e
  obtain ⟨h1, h2⟩ := isV_ok r1 r2 rx ry hb
  exact wpAny_isNot_plain h1 ⟨.bl (!b), H, I, by rw [h2]; rfl, q _ H (Same.refl H) .bool⟩

/-! ### a list times an int -/
theorem list_mulG (pins : List (Addr × Obj)) (s : Shared) (σ : St) (H : Hp) (x y : V) (v u : Value) (Q : VK) (I : Inv X pins σ H s) (rx : RelV x v) (ry : RelV y u) (h : ∃ l k xs, x = .ref l ∧ y = .int k ∧ H l = some (.lst xs) ∧ 0 ≤ k ∧ k ≤ 1000 ∧ xs.length ≤ 1000 ∧
    ∀ p, H p = none → Q (.ref p) (upd H p (.lst (List.replicate k.toNat xs).flatten))) : wpAny (model X.prog X.w) X.A (binaryOp .Mult v u) (EP X pins σ Q) X.xe s := by
  obtain ⟨l, k, xs, e1, e2, hH, h1, h2, h3, q⟩ := h
  refine L2.op_rep pins s σ H x y v u Q I rx ry ⟨l, k, xs, e1, e2, hH, by omega, by omega, ?_, q⟩
  rw [sizeLine_eq]
  have a1 : xs.length * k.toNat ≤ 1000 * 1000 := Nat.mul_le_mul h3 (by omega)
  omega
/-- a written list times an int, a tuple times an int, two ints -/
def mulN : PyData → PyData → Rs PyData
  | .int i, .int j => if mulOk i j then .ok (.int (i * j)) else .no
  | _, _ => .no
theorem o_mulN : OpR X (binaryOp .Mult) (rP2 X.K mulN) := by
  intro pins s σ H x y v u Q I rx ry ⟨N, d1, d2, d, n, r1, r2, e, q⟩
  unfold mulN at e
  split at e
  · split at e <;> first | (cases e; done) | skip
    rename_i hc
    cases e
    exact op_mul pins s σ H x y v u Q I rx ry ⟨_, _, r1.intV, r2.intV, mulOk_iff hc, q _ H (Same.refl H) .int⟩
  · exact nomatch e

/-! ### subscripts -/
def ixD : PyData → PyData → Rs PyData
  | .list ds, .int i => match atI ds i with | some d => .ok d | none => .no
  | .tuple ds, .int i => match atI ds i with | some d => .ok d | none => .no
  | _, _ => .no
theorem RA.atI {K : PySem.W.Frag} {H : Hp} {ds : List PyData} {xs : List V} {i : Int} {d : PyData} (t : RA K H ds xs) (h : L2.atI ds i = some d) : ∃ x, L2.atI xs i = some x ∧ R K H d x := by
  unfold L2.atI at h ⊢
  rw [t.len]
  cases q : ixN ds.length i with
  | none => rw [q] at h; exact nomatch h
  | some j =>
    rw [q] at h
    exact t.get h
theorem i_ix : IxR X (rP2 X.K ixD) := by
  intro value slice pins s σ H x y v u Q I rx ry ⟨N, d1, d2, d, n, r1, r2, e, q⟩ hs
  unfold ixD at e
  split at e
  · split at e <;> first | (cases e; done) | skip
    rename_i hc
    cases e
    obtain ⟨z1, a, xs, e1, h1, t1⟩ := r1.listV
    obtain ⟨w, hw, rw'⟩ := t1.atI hc
    exact ix_list value slice pins s σ H x y v u Q I rx ry ⟨a, xs, _, w, e1, r2.intV, sqL_le h1, hw, q _ H (Same.refl H) rw'⟩ hs
  · split at e <;> first | (cases e; done) | skip
    rename_i hc
    cases e
    obtain ⟨z1, a, xs, e1, h1, t1⟩ := r1.tupV
    obtain ⟨w, hw, rw'⟩ := t1.atI hc
    exact ix_tup value slice pins s σ H x y v u Q I rx ry ⟨a, xs, _, w, e1, r2.intV, sqT_le h1, hw, q _ H (Same.refl H) rw'⟩ hs
  · exact nomatch e
theorem p_ix {F : FC} {a b : Expr} {fa fb : Ev → Rs PyData} {pos : Pos} (ha : EP' X F a fa) (hb : EP' X F b fb) (hs : PlainIx b := by exact fun _ _ => rfl) : EP' X F (.Subscript a b pos) (ap2 ixD fa fb) :=
  wkE (pe_ix i_ix ha hb hs) fun _ _ _ h => to2 h
/-- a slice's bound -/
def tO (K : KB) (F : FC) (g : Ev → Rs (Option Int)) : TO := fun σ H Q => ∃ O ρ o, Rel K F O ρ σ H ∧ g ρ = .ok o ∧ ∀ H', Same H H' → Q o H'
def oN : Ev → Rs (Option Int) := fun _ => .ok none
def asI : PyData → Rs Int
  | .int i => .ok i
  | _ => .no
def oS (f : Ev → Rs PyData) : Ev → Rs (Option Int) := fun ρ => (f ρ).bnd fun d => (asI d).bnd fun i => .ok (some i)
theorem wkO {e : Option Expr} {t t' : TO} (h : PO X e t) (w : ∀ σ H Q, t' σ H Q → t σ H Q) : PO X e t' := ⟨fun pins s σ H Q I q => h.run pins s σ H Q I (w _ _ _ q)⟩
theorem p_oN {F : FC} : PO X none (tO X.kb F oN) := wkO po_none fun σ H Q ⟨O, ρ, o, r, e, q⟩ => by
  cases e
  exact q H (Same.refl H)
theorem p_oS {F : FC} {e : Expr} {f : Ev → Rs PyData} (h : EP' X F e f) : PO X (some e) (tO X.kb F (oS f)) := wkO (po_some h) fun σ H Q ⟨O, ρ, o, r, e, q⟩ => by
  obtain ⟨d, ed, e⟩ := Rs.bnd_eq e
  obtain ⟨i, ei, e⟩ := Rs.bnd_eq e
  cases e
  refine ⟨O, ρ, d, r, ed, fun v H' s r' => ?_⟩
  cases d with
  | int j => cases ei; exact ⟨_, r'.intV, q H' s⟩
  | _ => exact nomatch ei
def cutD (xs : List PyData) (lo hi : Option Int) : List PyData := (xs.drop (HT.sIx xs.length 0 lo)).take (HT.sIx xs.length xs.length hi - HT.sIx xs.length 0 lo)
theorem cutD_len (xs : List PyData) (lo hi : Option Int) : (cutD xs lo hi).length ≤ xs.length := by
  unfold cutD
  rw [List.length_take, List.length_drop]
  omega
theorem RA.cut {K : PySem.W.Frag} {H : Hp} {ds : List PyData} {xs : List V} {lo hi : Option Int} (t : RA K H ds xs) : RA K H (cutD ds lo hi) (cutV xs lo hi) := by
  unfold cutD cutV
  rw [t.len]
  exact (t.drop _).take _
def slD (d : PyData) (lo hi : Option Int) : Rs PyData := match d with
  | .list ds => .ok (.list (cutD ds lo hi))
  | .tuple ds => .ok (.tuple (cutD ds lo hi))
  | _ => .no
def slE (f : Ev → Rs PyData) (g h : Ev → Rs (Option Int)) : Ev → Rs PyData := fun ρ => (f ρ).bnd fun d => (g ρ).bnd fun lo => (h ρ).bnd fun hi => slD d lo hi
def rSlD (K : PySem.W.Frag) : V → Option Int → Option Int → Hp → VK → Prop := fun x lo hi H Q => ∃ (N : Addr → Prop) (d1 d : PyData), (∀ a, N a → H a ≠ none) ∧ R K (hide N H) d1 x ∧ slD d1 lo hi = .ok d ∧ ∀ v H', Same H H' → R K (hide N H') d v → Q v H'
theorem i_sl : SlR X (rSlD X.K) := by
  intro pins s σ H x v vl vu lo hi sl Q I rx hs pl pu ⟨N, d1, d, n, r1, e, q⟩
  unfold slD at e
  split at e
  · cases e
    obtain ⟨z1, a, xs, e1, h1, t1⟩ := r1.listV
    exact sl_list pins s σ H x v vl vu lo hi sl Q I rx hs pl pu ⟨a, xs, e1, sqL_le h1, fun p hp => q _ _ (same_upd hp) (newL n hp (Nat.le_trans (cutD_len _ _ _) z1) t1.cut)⟩
  · cases e
    obtain ⟨z1, a, xs, e1, h1, t1, k1⟩ := r1.tupN
    refine sl_tupN pins s σ H x v vl vu lo hi sl Q I rx hs pl pu ⟨a, xs, e1, sqT_le h1, fun z => ?_, fun _ p o hp ho => q _ _ (same_upd hp) (newT ho n hp (Nat.le_trans (cutD_len _ _ _) z1) t1.cut)⟩
    refine q _ H (Same.refl H) (.tup (Nat.le_trans (cutD_len _ _ _) z1) h1 ?_ (by
      refine k1.imp id fun k => ?_
      unfold cutD
      rw [← t1.len, z.1, z.2, List.drop_zero, Nat.sub_zero, t1.len, List.take_length]
      exact k))
    have e3 : cutV xs lo hi = xs := by
      unfold cutV
      rw [z.1, z.2, List.drop_zero, Nat.sub_zero, List.take_length]
    have t2 : RA X.K (hide N H) (cutD _ lo hi) (cutV xs lo hi) := t1.cut
    rw [e3] at t2
    exact t2
  · exact nomatch e
theorem p_sl {F : FC} {a : Expr} {lo hi : Option Expr} {fa : Ev → Rs PyData} {g h : Ev → Rs (Option Int)} {p2 pos : Pos} (ha : EP' X F a fa) (hl : PO X lo (tO X.kb F g)) (hh : PO X hi (tO X.kb F h)) : EP' X F (.Subscript a (.Slice lo hi none p2) pos) (slE fa g h) :=
  wkE (pe_slice i_sl ha hl hh) fun σ H Q ⟨O, ρ, d, r, e, q⟩ => by
    obtain ⟨x, ex, e⟩ := Rs.bnd_eq e
    obtain ⟨l, el, e⟩ := Rs.bnd_eq e
    obtain ⟨u, eu, e⟩ := Rs.bnd_eq e
    exact ⟨O, ρ, x, r, ex, fun v H1 s1 r1 => ⟨O, ρ, l, r.mono s1, el, fun H2 s2 => ⟨O, ρ, u, (r.mono s1).mono s2, eu, fun H3 s3 => ⟨NN F O, x, d, fun a z => (((r.mono s1).mono s2).mono s3).nlive z, r1.mono (hide_same (s2.trans s3)), e, fun w H' s4 r4 => q w H' (((s1.trans s2).trans s3).trans s4) r4⟩⟩⟩⟩

/-! ### displays -/
theorem p_tup {F : FC} {es : List Expr} {k : Nat} {g : Ev → Rs (List PyData)} {pos : Pos} (h : AP' X F es g) (hn : es.length ≤ 1000 := by decide) : EP' X F (.Tuple es k pos) (fun ρ => (g ρ).bnd fun ds => if ds.length ≤ sizeLine then .ok (.tuple ds) else .no) :=
  wkE (pe_tupN h) fun σ H Q ⟨O, ρ, d, r, e, q⟩ => by
    obtain ⟨ds, ex, e⟩ := Rs.bnd_eq e
    split at e <;> first | (cases e; done) | skip
    rename_i hz
    cases e
    exact ⟨O, ρ, ds, r, ex, fun vs H1 s1 r1 => ⟨by rw [r1.len]; exact hz, fun p o hp ho => q _ _ (s1.trans (same_upd hp)) (newT ho (fun a z => (r.mono s1).nlive z) hp hz r1)⟩⟩
theorem p_lst {F : FC} {es : List Expr} {g : Ev → Rs (List PyData)} {pos : Pos} (h : AP' X F es g) : EP' X F (.List es pos) (fun ρ => (g ρ).bnd fun ds => if ds.length ≤ sizeLine then .ok (.list ds) else .no) :=
  wkE (pe_lst h) fun σ H Q ⟨O, ρ, d, r, e, q⟩ => by
    obtain ⟨ds, ex, e⟩ := Rs.bnd_eq e
    split at e <;> first | (cases e; done) | skip
    rename_i hz
    cases e
    exact ⟨O, ρ, ds, r, ex, fun vs H1 s1 r1 => ⟨by rw [r1.len]; exact hz, fun p hp => q _ _ (s1.trans (same_upd hp)) (newL (fun a z => (r.mono s1).nlive z) hp hz r1)⟩⟩

/-! ### built-in functions -/
def lenD : List PyData → Rs PyData
  | [.list ds] => .ok (.int ds.length)
  | [.tuple ds] => .ok (.int ds.length)
  | [.str x] => if x.length ≤ sizeLine then .ok (.int x.length) else .no
  | _ => .no
theorem c_len : CallR X (.builtin "len") (rPC X.K lenD) := by
  intro pins s σ H xs us Q I r ⟨N, ds, d, n, t, e, q⟩
  unfold lenD at e
  split at e
  · cases e
    obtain ⟨x, rfl, r1⟩ := t.inv1
    obtain ⟨z1, a, ys, rfl, h1, t1⟩ := r1.listV
    exact call_len_seq pins s σ H _ us Q I r ⟨a, ys, rfl, .inl (sqL_le h1), by rw [t1.len]; exact q _ H (Same.refl H) .int⟩
  · cases e
    obtain ⟨x, rfl, r1⟩ := t.inv1
    obtain ⟨z1, a, ys, rfl, h1, t1⟩ := r1.tupV
    exact call_len_seq pins s σ H _ us Q I r ⟨a, ys, rfl, .inr (sqT_le h1), by rw [t1.len]; exact q _ H (Same.refl H) .int⟩
  · split at e <;> first | (cases e; done) | skip
    cases e
    obtain ⟨x, rfl, r1⟩ := t.inv1
    obtain ⟨rfl, _⟩ := r1.strV
    exact call_len_str pins s σ H _ us Q I r ⟨_, rfl, by assumption, q _ H (Same.refl H) .int⟩
  · exact nomatch e
def intD : List PyData → Rs PyData
  | [.int i] => .ok (.int i)
  | [.bool b] => .ok (.int (if b then 1 else 0))
  | _ => .no
theorem c_int : CallR X (.type "int") (rPC X.K intD) := by
  intro pins s σ H xs us Q I r ⟨N, ds, d, n, t, e, q⟩
  unfold intD at e
  split at e
  · cases e
    obtain ⟨x, rfl, r1⟩ := t.inv1
    obtain rfl := r1.intV
    exact call_int1 pins s σ H _ us Q I r (.inl ⟨_, rfl, q _ H (Same.refl H) .int⟩)
  · cases e
    obtain ⟨x, rfl, r1⟩ := t.inv1
    obtain rfl := r1.boolV
    exact call_int1 pins s σ H _ us Q I r (.inr ⟨_, rfl, q _ H (Same.refl H) .int⟩)
  · exact nomatch e
def absD : List PyData → Rs PyData
  | [.int i] => .ok (.int (if i < 0 then -i else i))
  | _ => .no
theorem c_abs : CallR X (.builtin "abs") (rPC X.K absD) := by
  intro pins s σ H xs us Q I r ⟨N, ds, d, n, t, e, q⟩
  unfold absD at e
  split at e <;> first | (cases e; done) | skip
  cases e
  obtain ⟨x, rfl, r1⟩ := t.inv1
  obtain rfl := r1.intV
  exact call_abs pins s σ H _ us Q I r ⟨_, rfl, q _ H (Same.refl H) .int⟩
def maxD : List PyData → Rs PyData
  | [.int i, .int j] => .ok (.int (if j > i then j else i))
  | _ => .no
def minD : List PyData → Rs PyData
  | [.int i, .int j] => .ok (.int (if j < i then j else i))
  | _ => .no
theorem c_max (hc : X.calm = true) : CallR X (.builtin "max") (rPC X.K maxD) := by
  intro pins s σ H xs us Q I r ⟨N, ds, d, n, t, e, q⟩
  unfold maxD at e
  split at e <;> first | (cases e; done) | skip
  cases e
  obtain ⟨x, y, rfl, r1, r2⟩ := t.inv2
  obtain rfl := r1.intV
  obtain rfl := r2.intV
  exact call_max2 hc pins s σ H _ us Q I r ⟨_, _, rfl, q _ H (Same.refl H) .int⟩
theorem c_min (hc : X.calm = true) : CallR X (.builtin "min") (rPC X.K minD) := by
  intro pins s σ H xs us Q I r ⟨N, ds, d, n, t, e, q⟩
  unfold minD at e
  split at e <;> first | (cases e; done) | skip
  cases e
  obtain ⟨x, y, rfl, r1, r2⟩ := t.inv2
  obtain rfl := r1.intV
  obtain rfl := r2.intV
  exact call_min2 hc pins s σ H _ us Q I r ⟨_, _, rfl, q _ H (Same.refl H) .int⟩
def listD : List PyData → Rs PyData
  | [.list ds] => .ok (.list ds)
  | [.tuple ds] => .ok (.list ds)
  | _ => .no
theorem c_list : CallR X (.type "list") (rPC X.K listD) := by
  intro pins s σ H xs us Q I r ⟨N, ds, d, n, t, e, q⟩
  unfold listD at e
  split at e
  · cases e
    obtain ⟨x, rfl, r1⟩ := t.inv1
    obtain ⟨z1, a, ys, rfl, h1, t1⟩ := r1.listV
    exact call_list_of pins s σ H _ us Q I r ⟨a, ys, rfl, .inl (sqL_le h1), fun p hp => q _ _ (same_upd hp) (newL n hp z1 t1)⟩
  · cases e
    obtain ⟨x, rfl, r1⟩ := t.inv1
    obtain ⟨z1, a, ys, rfl, h1, t1⟩ := r1.tupV
    exact call_list_of pins s σ H _ us Q I r ⟨a, ys, rfl, .inr (sqT_le h1), fun p hp => q _ _ (same_upd hp) (newL n hp z1 t1)⟩
  · exact nomatch e
def tupleD : List PyData → Rs PyData
  | [.list ds] => .ok (.tuple ds)
  | [.tuple ds] => .ok (.tuple ds)
  | _ => .no
theorem c_tuple : CallR X (.type "tuple") (rPC X.K tupleD) := by
  intro pins s σ H xs us Q I r ⟨N, ds, d, n, t, e, q⟩
  unfold tupleD at e
  split at e
  · cases e
    obtain ⟨x, rfl, r1⟩ := t.inv1
    obtain ⟨z1, a, ys, rfl, h1, t1⟩ := r1.listV
    exact call_tupleN pins s σ H _ us Q I r ⟨a, ys, rfl, .inl ⟨sqL_le h1, fun p o hp ho => q _ _ (same_upd hp) (newT ho n hp z1 t1)⟩⟩
  · cases e
    obtain ⟨x, rfl, r1⟩ := t.inv1
    obtain ⟨z1, a, ys, rfl, h1, t1, k1⟩ := r1.tupN
    exact call_tupleN pins s σ H _ us Q I r ⟨a, ys, rfl, .inr ⟨sqT_le h1, q _ H (Same.refl H) (.tup z1 h1 t1 k1)⟩⟩
  · exact nomatch e
/-- the bools of a list -/
def bools : List PyData → Rs (List Bool)
  | [] => .ok []
  | .bool b :: r => (bools r).bnd fun bs => .ok (b :: bs)
  | _ :: _ => .no
theorem bools_ra {K : PySem.W.Frag} {H : Hp} : ∀ {ds : List PyData} {xs : List V} {bs : List Bool}, RA K H ds xs → bools ds = .ok bs → xs = bs.map V.bl
  | [], _, _, t, e => by cases e; rw [t.inv0]; rfl
  | d :: ds, _, bs, t, e => by
    cases d with
    | bool b =>
      obtain ⟨r, er, e⟩ := Rs.bnd_eq e
      cases e
      obtain ⟨x, q, rfl, h1, h2⟩ := t.inv
      rw [h1.boolV, bools_ra h2 er]; rfl
    | _ => exact nomatch e
def allD : List PyData → Rs PyData
  | [.list ds] => (bools ds).bnd fun bs => .ok (.bool (bs.all id))
  | _ => .no
def anyD : List PyData → Rs PyData
  | [.list ds] => (bools ds).bnd fun bs => .ok (.bool (bs.any id))
  | _ => .no
theorem c_all (hc : X.calm = true) : CallR X (.builtin "all") (rPC X.K allD) := by
  intro pins s σ H xs us Q I r ⟨N, ds, d, n, t, e, q⟩
  unfold allD at e
  split at e <;> first | (cases e; done) | skip
  obtain ⟨bs, eb, e⟩ := Rs.bnd_eq e
  cases e
  obtain ⟨x, rfl, r1⟩ := t.inv1
  obtain ⟨z1, a, ys, rfl, h1, t1⟩ := r1.listV
  exact cr_all hc pins s σ H _ us Q I r ⟨a, bs, rfl, by rw [← bools_ra t1 eb]; exact sqL_le h1, q _ H (Same.refl H) .bool⟩
theorem c_any (hc : X.calm = true) : CallR X (.builtin "any") (rPC X.K anyD) := by
  intro pins s σ H xs us Q I r ⟨N, ds, d, n, t, e, q⟩
  unfold anyD at e
  split at e <;> first | (cases e; done) | skip
  obtain ⟨bs, eb, e⟩ := Rs.bnd_eq e
  cases e
  obtain ⟨x, rfl, r1⟩ := t.inv1
  obtain ⟨z1, a, ys, rfl, h1, t1⟩ := r1.listV
  exact cr_any hc pins s σ H _ us Q I r ⟨a, bs, rfl, by rw [← bools_ra t1 eb]; exact sqL_le h1, q _ H (Same.refl H) .bool⟩

/-! ### isinstance(e, T) -/
def tname : PyData → String
  | .none => "NoneType"
  | .bool _ => "bool"
  | .int _ => "int"
  | .str _ => "str"
  | .list _ => "list"
  | .tuple _ => "tuple"
  | .dict _ => "dict"
def isi (T : String) (d : PyData) : Bool := match d with
  | .bool _ => T == "bool" || T == "int"
  | d => T == tname d
def isiD (T : String) (d : PyData) : Rs PyData := .ok (.bool (isi T d))
theorem ty_of {K : PySem.W.Frag} {H : Hp} {d : PyData} {v : V} (r : R K H d v) : TyX K H v (.type (tname d)) := by
  cases d with
  | none => rw [r.noneV]; exact .base .non
  | bool b => rw [r.boolV]; exact .base (.bl _)
  | int b => rw [r.intV]; exact .base (.int _)
  | str b => rw [r.strV.1]; exact .base (.str _)
  | list ds =>
    obtain ⟨z1, a, ys, rfl, h1, t1⟩ := r.listV
    rcases h1 with (h | ⟨o, h⟩) | ⟨o, its, m, h, hc, _⟩
    · exact .base (.lst h)
    · exact .base (.frz h)
    · exact .kList h hc
  | tuple ds =>
    obtain ⟨z1, a, ys, rfl, h1, t1⟩ := r.tupV
    rcases h1 with (h | ⟨o, h⟩) | ⟨o, its, m, h, hc, _⟩
    · exact .base (.tup h)
    · exact .fTuple h
    · exact .kTuple h hc
  | dict _ => rw [R] at r; obtain ⟨_, a, rfl, h⟩ := r; exact .base (.dK h)
def okT (T : String) : Bool := T == "int" || T == "str" || T == "bool" || T == "list" || T == "tuple" || T == "dict"
theorem kit_isi {T : String} (h : okT T = true) (d : PyData) : kitB (tname d) T = some (isi T d) := by
  simp only [okT, Bool.or_eq_true, beq_iff_eq] at h
  rcases h with ((((rfl | rfl) | rfl) | rfl) | rfl) | rfl <;> cases d <;> (simp only [tname, isi]; decide +kernel)
theorem p_isi {F : FC} {e : Expr} {f : Ev → Rs PyData} {T : String} {x : Str} {p p2 pos : Pos} (he : EP' X F e f) (hT : okT T = true) (hg : Gl X "isinstance") (hm : X.mg "isinstance" = none) (hg2 : Gl X x) (hm2 : X.mg x = none) (hv2 : bootBuiltins x = some (.type T)) (hn2 : x ≠ "__name__" := by decide) (hd2 : (x == ("__debug__" : Str)) = false := by decide)
    (hs : starEach [e, .Name x p2] X.env = (false, eval e X.env) :: starEach [.Name x p2] X.env := by rfl) (hs2 : starEach [.Name x p2] X.env = (false, eval (.Name x p2) X.env) :: starEach [] X.env := by rfl) (hpl : (backTo pos (starEach [.Name x p2] X.env)).any (·.1) = false := by rfl) :
    EP' X F (.Call (.Name "isinstance" p) [e, .Name x p2] [] pos) (ap1 (isiD T) f) :=
  wkE (pe_callB call_isi hg hm (by decide +kernel) (pa_cons he (pa_cons (pe_bltn (v := .ty T) hg2 hm2 hv2 rfl hn2 hd2) pa_nil hs2) hs) (he := hs) (hpl := hpl)) fun σ H Q ⟨O, ρ, d, r, e, q⟩ => by
    obtain ⟨a, ea, e⟩ := Rs.bnd_eq e
    cases e
    exact ⟨O, ρ, a, r, ea, fun v H1 s1 r1 => ⟨v, .ty T, _, _, _, rfl, .ty T, ty_of (r1.mono hide_le), kit_ty (kit_isi hT a), q _ H1 s1 .bool⟩⟩
end
end PL


/-! PL4: fresh lists, targets, walks, comprehensions -/
namespace PL
open PySem PySem.Spec PyProof.Rows L2

/-! ### a new list -/
def nP (N : Addr → Prop) (p : Addr) : Addr → Prop := fun a => N a ∨ a = p
def tN (K : KB) (F : FC) (f : Ev → Rs (List PyData)) : TE := fun σ H Q => ∃ O ρ ds, Rel K F O ρ σ H ∧ f ρ = .ok ds ∧ ∀ p xs H', Same H H' → H p = none → H' p = some (.lst xs) → ds.length ≤ sizeLine → RA K.K (hide (nP (NN F O) p) H') ds xs → Q (.ref p) H'
abbrev NP' (X : Cx) (F : FC) (e : Expr) (f : Ev → Rs (List PyData)) : Prop := PE X e (tN X.kb F f)
/-- as any value -/
def lst (f : Ev → Rs (List PyData)) : Ev → Rs PyData := fun ρ => (f ρ).bnd fun ds => .ok (.list ds)
theorem np_le {N : Addr → Prop} {p : Addr} {H : Hp} : Same (hide (nP N p) H) (hide N H) := hide_anti fun _ h => .inl h
theorem p_new {X : Cx} {F : FC} {e : Expr} {f : Ev → Rs (List PyData)} (h : NP' X F e f) : EP' X F e (lst f) := wkE h fun σ H Q ⟨O, ρ, d, r, e, q⟩ => by
  obtain ⟨ds, ed, e⟩ := Rs.bnd_eq e
  cases e
  refine ⟨O, ρ, ds, r, ed, fun p xs H' s hp hl hz ra => q _ H' s (.list hz (.of (hide_of (fun z => ?_) hl)) (ra.mono np_le))⟩
  exact r.nlive z hp
theorem newP {K : PySem.W.Frag} {N : Addr → Prop} {H : Hp} {p : Addr} {ds : List PyData} {xs : List V} (h : H p = none) (r : RA K (hide N H) ds xs) : RA K (hide (nP N p) (upd H p (.lst xs))) ds xs := by
  refine r.mono fun a o e => ?_
  obtain ⟨e1, e2⟩ := hide_some e
  have e3 := same_upd (o := .lst xs) h _ _ e2
  exact hide_of (fun z => z.elim e1 fun z => by subst z; rw [h] at e2; exact nomatch e2) e3

section
variable {X : Cx} {F : FC}
theorem n_lst {es : List Expr} {g : Ev → Rs (List PyData)} {pos : Pos} (h : AP' X F es g) : NP' X F (.List es pos) (fun ρ => (g ρ).bnd fun ds => if ds.length ≤ sizeLine then .ok ds else .no) :=
  wkE (pe_lst h) fun σ H Q ⟨O, ρ, d, r, e, q⟩ => by
    obtain ⟨ds, ex, e⟩ := Rs.bnd_eq e
    split at e <;> first | (cases e; done) | skip
    rename_i hz
    cases e
    exact ⟨O, ρ, _, r, ex, fun vs H1 s1 r1 => ⟨by rw [r1.len]; exact hz, fun p hp => q p vs _ (s1.trans (same_upd hp)) (s1.free hp) upd_same hz (newP hp r1)⟩⟩
/-- calls that give a new list -/
def rPN (K : PySem.W.Frag) (op : List PyData → Rs (List PyData)) : List V → Hp → VK → Prop := fun xs H Q => ∃ (N : Addr → Prop) (ds es : List PyData), (∀ a, N a → H a ≠ none) ∧ RA K (hide N H) ds xs ∧ op ds = .ok es ∧
  ∀ p ys H', Same H H' → H p = none → H' p = some (.lst ys) → es.length ≤ sizeLine → RA K (hide (nP N p) H') es ys → Q (.ref p) H'
def apN (op : List PyData → Rs (List PyData)) (g : Ev → Rs (List PyData)) : Ev → Rs (List PyData) := fun ρ => (g ρ).bnd op
theorem toN {K : KB} {op : List PyData → Rs (List PyData)} {g : Ev → Rs (List PyData)} {σ : St} {H : Hp} {Q : VK} (h : tN K F (apN op g) σ H Q) : tCB (rPN K.K op) (tA K F g) σ H Q := by
  obtain ⟨O, ρ, d, r, e, q⟩ := h
  obtain ⟨a, ea, e⟩ := Rs.bnd_eq e
  exact ⟨O, ρ, a, r, ea, fun x H1 s1 r1 => ⟨NN F O, a, d, fun z n => (r.mono s1).nlive n, r1, e, fun p ys H' s3 hp hl hz r3 => q p ys H' (s1.trans s3) (s1.free hp) hl hz r3⟩⟩
theorem n_callB {id : String} {o : List PyData → Rs (List PyData)} {x : Str} {p pos : Pos} {e : Expr} {es : List Expr} {g : Ev → Rs (List PyData)} (hc : CallR X (.builtin id) (rPN X.K o)) (hg : Gl X x) (hm : X.mg x = none) (hv : bootBuiltins x = some (.builtin id)) (ha : AP' X F (e :: es) g) (hn : x ≠ "__name__" := by decide) (hdb : (x == ("__debug__" : Str)) = false := by decide)
    (he : starEach (e :: es) X.env = (false, eval e X.env) :: starEach es X.env := by rfl) (hpl : (backTo pos (starEach es X.env)).any (·.1) = false := by rfl) : NP' X F (.Call (.Name x p) (e :: es) [] pos) (apN o g) :=
  wkE (pe_callB hc hg hm hv ha hn hdb he hpl) fun _ _ _ h => toN h
theorem n_callTy {T : String} {o : List PyData → Rs (List PyData)} {x : Str} {p pos : Pos} {e : Expr} {es : List Expr} {g : Ev → Rs (List PyData)} (hc : CallR X (.type T) (rPN X.K o)) (hg : Gl X x) (hm : X.mg x = none) (hv : bootBuiltins x = some (.type T)) (ha : AP' X F (e :: es) g) (hn : x ≠ "__name__" := by decide) (hdb : (x == ("__debug__" : Str)) = false := by decide)
    (he : starEach (e :: es) X.env = (false, eval e X.env) :: starEach es X.env := by rfl) (hpl : (backTo pos (starEach es X.env)).any (·.1) = false := by rfl) : NP' X F (.Call (.Name x p) (e :: es) [] pos) (apN o g) :=
  wkE (pe_callTy hc hg hm hv ha hn hdb he hpl) fun _ _ _ h => toN h
def seqOf : PyData → Rs (List PyData)
  | .list ds => .ok ds
  | .tuple ds => .ok ds
  | _ => .no
def listN : List PyData → Rs (List PyData)
  | [d] => seqOf d
  | _ => .no
theorem c_listN : CallR X (.type "list") (rPN X.K listN) := by
  intro pins s σ H xs us Q I r ⟨N, ds, d, n, t, e, q⟩
  unfold listN at e
  split at e <;> first | (cases e; done) | skip
  obtain ⟨x, rfl, r1⟩ := t.inv1
  unfold seqOf at e
  split at e <;> first | (cases e; done) | skip
  · cases e
    obtain ⟨z1, a, ys, rfl, h1, t1⟩ := r1.listV
    exact call_list_of pins s σ H _ us Q I r ⟨a, ys, rfl, .inl (sqL_le h1), fun p hp => q p ys _ (same_upd hp) hp upd_same z1 (newP hp t1)⟩
  · cases e
    obtain ⟨z1, a, ys, rfl, h1, t1⟩ := r1.tupV
    exact call_list_of pins s σ H _ us Q I r ⟨a, ys, rfl, .inr (sqT_le h1), fun p hp => q p ys _ (same_upd hp) hp upd_same z1 (newP hp t1)⟩
/-! sorted -/
def allAlike (ds : List PyData) : Bool := ds.all fun d => ds.all fun e => PySem.W.alike d e
def isTup1 : PyData → Bool
  | .tuple (_ :: _) => true
  | _ => false
def isFlat : PyData → Bool
  | .none => false
  | .tuple _ => false
  | _ => true
def sortD (ds : List PyData) : List PyData := ds.mergeSort (PySem.W.dataLe false fun d : PyData => d)
def sortOk (ds : List PyData) : Bool := allAlike ds && (ds.all isTup1 || ds.all isFlat) && ds.all fun d => decide (d.depth ≤ 60) && nod d
def sortedN : List PyData → Rs (List PyData)
  | [.list ds] => if sortOk ds then .ok (sortD ds) else .no
  | [.tuple ds] => if sortOk ds then .ok (sortD ds) else .no
  | _ => .no
theorem each_of {K : PySem.W.Frag} {H : Hp} : ∀ {ds : List PyData} {xs : List V} {us : List Value}, RA K H ds xs → Vals xs us → PySem.W.EachIs (fun v d => ∃ x, RelV x v ∧ R K H d x) us ds
  | [], _, _, t, r => by rw [t.inv0] at r; cases r; exact .nil
  | d :: ds, _, _, t, r => by
    obtain ⟨x, q, rfl, h1, h2⟩ := t.inv
    cases r with
    | cons r1 r2 => exact .cons ⟨x, r1, h1⟩ (each_of h2 r2)
theorem of_each {K : PySem.W.Frag} {H : Hp} : ∀ {ds : List PyData} {us : List Value}, PySem.W.EachIs (fun v d => ∃ x, RelV x v ∧ R K H d x) us ds → ∃ xs, RA K H ds xs ∧ Vals xs us
  | _, _, .nil => ⟨[], .nil, .nil⟩
  | _, _, .cons ⟨x, r1, h1⟩ t => by
    obtain ⟨xs, h2, r2⟩ := of_each t
    exact ⟨x :: xs, .cons h1 h2, .cons r1 r2⟩
theorem sortD_len (ds : List PyData) : (sortD ds).length = ds.length := List.length_mergeSort ds
section
open PySem.Calls PySem.W
variable {prog : Program} {w : World} {A : Around} {E : Value → Shared → Prop} {s : Shared}
/-- the items of a tuple, one after the other -/
theorem coll_tup {t0 : Addr} {us : List Value} {Q : List Value → Shared → Prop} (ht0 : s.heap.IsTuple t0 us.toArray) (zz : us.length ≤ sizeLine) (qq : Q us { s with heap := (s.heap.push (seqObj "list" #[] 0)).update s.heap.objs.size (Obj.mapSeq (· ++ us.toArray)) }) : wpAny (model prog w) A (collect (.ref t0)) Q E s := by
  obtain ⟨o, ho, hc, n, hd⟩ := id ht0
  unfold collect; refine wpAny_bind (wpAny_runValue (codeAny_builtin entry_proto_collect' ?_))
  show wpAny _ _ (do again (.builtin "list.__iadd__" ⟨[← newList [], .ref t0], []⟩)) _ _ s; refine wpAny_bind (wpAny_newList (wpAny_pure ⟨Code.quiet_builtin _ (by decide +kernel), codeAny_builtin entry_list_iadd' ?_⟩))
  show wpAny _ _ (Builtin.List.listExtendWith (.ref s.heap.objs.size) (.ref t0) (.ref s.heap.objs.size)) _ _ { s with heap := s.heap.push (seqObj "list" #[] 0) }; unfold Builtin.List.listExtendWith
  have ho1 : (s.heap.push (seqObj "list" #[] 0)).get? t0 = some o := Heap.get?_push_of_some _ ho
  have nw : (s.heap.push (seqObj "list" #[] 0)).get? s.heap.objs.size = some (seqObj "list" #[] 0) := Heap.get?_push_size _ rfl
  refine wpAny_bind (wpAny_typeOf (T := "tuple") ⟨o, ho1, hc⟩ ?_)
  have tt : (Value.type "tuple" == Value.type "tuple") = true := by rfl
  rw [if_pos (by rw [tt]; simp)]; refine wpAny_bind (listItems_at ho1 hd ?_); refine wpAny_bind (listItems_at (xs := #[]) (n := 0) nw rfl ?_)
  rw [if_neg (by simp)]; refine wpAny_bind (listUpdate_at (xs := #[]) (n := 0) nw rfl ?_ (Nat.zero_le _) (by simpa using Nat.le_succ_of_le zz)); refine wpAny_pure ?_
  show wpAny (model prog w) A (do let o ← load s.heap.objs.size; match o.data with | .seq xs _ => pure xs.toList | _ => unsupported "internal:collect") Q E { s with heap := (s.heap.push (seqObj "list" #[] 0)).update s.heap.objs.size (Obj.mapSeq (· ++ us.toArray)) }
  refine wpAny_bind (wpAny_load (get?_update_seq nw _) ?_)
  show wpAny _ _ (pure ((#[] : Array Value) ++ us.toArray).toList) Q E _; rw [show ((#[] : Array Value) ++ us.toArray).toList = us by simp]; exact wpAny_pure qq
theorem sort_tup {t0 : Addr} {us : List Value} {Q : Value → Shared → Prop} {κ : KeyKind} (ht0 : s.heap.IsTuple t0 us.toArray) (S : SortsAt prog w A.in1.in1 { s with heap := sortingHeap (copyHeap s.heap us) (s.heap.objs.size + 1) us } κ us) (zz : us.length ≤ sizeLine)
    (qq : Q (.ref (s.heap.objs.size + 1)) { s with heap := sortedAll s.heap us (sortVals κ false us us).toArray }) : wpAny (model prog w) A (call (.builtin "sorted") [.ref t0]) Q E s := by
  refine call_function_entry kind_sorted plain_sorted entry_sorted (args_sorted1 _) ?_
  unfold Builtin.«sorted»; refine wpAny_bind (m := checkCount "sorted" 1 1 _) (wpAny_pure ?_); refine wpAny_bind (coll_tup ht0 zz ?_); refine wpAny_bind (wpAny_newList ?_ zz)
  have sz1 : ((s.heap.push (seqObj "list" #[] 0)).update s.heap.objs.size (Obj.mapSeq (· ++ us.toArray))).objs.size = s.heap.objs.size + 1 := by rw [Heap.size_update, size_push']
  show wpAny _ _ _ _ _ { s with heap := copyHeap s.heap us }; rw [sz1]
  refine wpAny_bind (wpAny_holding (wpAny_call_entry slot_list_sort ⟨_, copyHeap_at s.heap us, rfl⟩ entry_list_sort ?body (args_list_sort _)))
  case body => exact wpAny_mono (list_sort_vals (P := fun f s' => f = .done (.ret .none) ∧ Q (.ref (s.heap.objs.size + 1)) s') (s := { s with heap := copyHeap s.heap us }) (copyHeap_at s.heap us) S zz ⟨rfl, qq⟩) (fun f s' hf => by obtain ⟨rfl, hq⟩ := hf; exact ⟨_, rfl, wpAny_pure ⟨_, rfl, hq⟩⟩) fun _ _ e => e
theorem sort_tup_data {β : Type} {us : List Value} {bs : List β} {enc : β → PyData} {R : Value → β → Prop} {t0 : Addr} {Q : Value → Shared → Prop} (ht0 : s.heap.IsTuple t0 us.toArray) (e : EachIs R us bs) (er : EachIs (fun v b => ∃ as, Reads s.heap v (enc b) as) us bs) (hal : AllAlike (bs.map enc)) (hk : Sortable (bs.map enc)) (zz : bs.length ≤ sizeLine)
    (hu : ∀ b, b ∈ bs → A.units + 2 + (enc b).depth < cLine) (qq : ∀ out, out.length = bs.length → EachIs R out (bs.mergeSort (dataLe false enc)) → Q (.ref (s.heap.objs.size + 1)) { s with heap := sortedAll s.heap us (List.toArray out) }) : wpAny (model prog w) A (call (.builtin "sorted") [.ref t0]) Q E s := by
  have er1 : EachIs (fun v b => ∃ as, Reads (sortingHeap (copyHeap s.heap us) (s.heap.objs.size + 1) us) v (enc b) as) us bs := er.mono fun _ _ ⟨as, r⟩ => ⟨as, PyProof.Rows.Reads.keeps (fun _ _ => sorting_copy_old) r⟩
  exact sort_tup ht0 (SortsAt.data (s := { s with heap := sortingHeap (copyHeap s.heap us) (s.heap.objs.size + 1) us }) (each_map (R := fun v d => ∃ as, Reads (sortingHeap (copyHeap s.heap us) (s.heap.objs.size + 1) us) v d as) enc er1) hal hk (bound_map hu)) (by rw [e.length]; exact zz) (qq _ (by rw [sortVals_length false rfl]; exact e.length) (sortVals_data false e er1 hal))
end
theorem c_sortedN (hu : X.A.units + 64 < cLine) : CallR X (.builtin "sorted") (rPN X.K sortedN) := by
  intro pins s σ H xs us Q I r ⟨N, ds, es, n, t, e, q⟩
  obtain ⟨dl, hk, rfl, a, ys, its, rfl, z1, t1, rv, hl⟩ : ∃ dl, sortOk dl = true ∧ es = sortD dl ∧ ∃ a ys its, xs = [.ref a] ∧ dl.length ≤ sizeLine ∧ RA X.K (hide N H) dl ys ∧ Vals ys its ∧ (s.heap.IsList a its.toArray ∨ s.heap.IsTuple a its.toArray) := by
    unfold sortedN at e
    split at e <;> first | (cases e; done) | skip
    · rename_i dl
      split at e <;> first | (cases e; done) | skip
      rename_i hk
      cases e
      obtain ⟨x, rfl, r1⟩ := t.inv1
      obtain ⟨z1, a, ys, rfl, h1, t1⟩ := r1.listV
      obtain ⟨its, rv, hl, _⟩ := L2.Inv.list I (sqL_le h1)
      exact ⟨dl, hk, rfl, a, ys, its, rfl, z1, t1, rv, .inl hl.isList⟩
    · rename_i dl
      split at e <;> first | (cases e; done) | skip
      rename_i hk
      cases e
      obtain ⟨x, rfl, r1⟩ := t.inv1
      obtain ⟨z1, a, ys, rfl, h1, t1⟩ := r1.tupV
      obtain ⟨its, rv, hl, _⟩ := L2.Inv.tuple I (sqT_le h1)
      exact ⟨dl, hk, rfl, a, ys, its, rfl, z1, t1, rv, .inr hl⟩
  rw [Vals.ref1 r]
  unfold sortOk at hk
  simp only [Bool.and_eq_true, Bool.or_eq_true, List.all_eq_true, decide_eq_true_eq] at hk
  obtain ⟨⟨hal, hso⟩, hdp⟩ := hk
  have hal' : PySem.W.AllAlike (dl.map fun d : PyData => d) := by
    rw [List.map_id']
    intro d hd d' hd'
    unfold allAlike at hal
    simp only [List.all_eq_true] at hal
    exact hal d hd d' hd'
  have hso' : PySem.W.Sortable (dl.map fun d : PyData => d) := by
    rw [List.map_id']
    rcases hso with h | h
    · refine .inl fun d hd => ?_
      have := h d hd
      unfold isTup1 at this
      split at this
      · exact ⟨_, _, rfl⟩
      · exact nomatch this
    · refine .inr fun d hd => ?_
      have := h d hd
      unfold isFlat at this
      split at this <;> first | (cases this; done) | skip
      rename_i k1 k2
      exact ⟨k1, k2⟩
  have ee := each_of t1 rv
  have eb := (PySem.W.each_mem ee).mono fun v b ⟨⟨x, h1, h2⟩, hb⟩ => Dp.reads I b x v ((h2.mono hide_le).dp (hdp b hb).2) h1
  rcases hl with hl | hl
  · refine PySem.W.sorted_data (R := fun v d => ∃ x, RelV x v ∧ R X.K (hide N H) d x) (enc := fun d : PyData => d) hl ee eb hal' hso' z1
      (fun b hb => by have := (hdp b hb).1; show _ + b.depth < _; omega) fun out ho eo => ?_
    obtain ⟨ep, he'⟩ := PyProof.Rows.sortedAll_at s.heap its out.toArray
    obtain ⟨ws, h2, r2⟩ := of_each eo
    have hw : ws.length ≤ sizeLine := by rw [h2.len]; exact Nat.le_trans (Nat.le_of_eq (sortD_len dl)) z1
    have hf := I.hok.fresh (Nat.le_succ s.heap.objs.size)
    exact ⟨.ref _, upd H (s.heap.objs.size + 1) (.lst ws), I.laid (t' := s.toks) (fun _ _ => PyProof.Rows.sortedAll_old) (Nat.le_succ _) ⟨hw, out, ep, r2, he'⟩, rfl, q _ _ _ (same_upd hf) hf upd_same (by show (sortD dl).length ≤ _; rw [sortD_len]; exact z1) (newP hf h2)⟩
  · refine sort_tup_data (R := fun v d => ∃ x, RelV x v ∧ R X.K (hide N H) d x) (enc := fun d : PyData => d) hl ee eb hal' hso' z1
      (fun b hb => by have := (hdp b hb).1; show _ + b.depth < _; omega) fun out ho eo => ?_
    obtain ⟨ep, he'⟩ := PyProof.Rows.sortedAll_at s.heap its out.toArray
    obtain ⟨ws, h2, r2⟩ := of_each eo
    have hw : ws.length ≤ sizeLine := by rw [h2.len]; exact Nat.le_trans (Nat.le_of_eq (sortD_len dl)) z1
    have hf := I.hok.fresh (Nat.le_succ s.heap.objs.size)
    exact ⟨.ref _, upd H (s.heap.objs.size + 1) (.lst ws), I.laid (t' := s.toks) (fun _ _ => PyProof.Rows.sortedAll_old) (Nat.le_succ _) ⟨hw, out, ep, r2, he'⟩, rfl, q _ _ _ (same_upd hf) hf upd_same (by show (sortD dl).length ≤ _; rw [sortD_len]; exact z1) (newP hf h2)⟩

/-! a display times an int, list + list, a slice of a list -/
def mulL (f : Ev → Rs (List PyData)) (g : Ev → Rs PyData) : Ev → Rs (List PyData) := fun ρ => (f ρ).bnd fun ds => (g ρ).bnd fun k => match k with
  | .int k => if 0 ≤ k ∧ k ≤ 1000 ∧ ds.length ≤ 1000 then .ok (List.replicate k.toNat ds).flatten else .no
  | _ => .no
theorem n_mul {a b : Expr} {f : Ev → Rs (List PyData)} {g : Ev → Rs PyData} {pos : Pos} (ha : NP' X F a f) (hb : EP' X F b g) : NP' X F (.BinOp a .Mult b pos) (mulL f g) :=
  wkE (pe_op L2.op_rep ha hb) fun σ H Q ⟨O, ρ, d, r, e, q⟩ => by
    obtain ⟨ds, ed, e⟩ := Rs.bnd_eq e
    obtain ⟨k, ek, e⟩ := Rs.bnd_eq e
    split at e <;> first | (cases e; done) | skip
    split at e <;> first | (cases e; done) | skip
    rename_i kk hk
    cases e
    refine ⟨O, ρ, ds, r, ed, fun p xs H1 s1 hp hl hz ra => ⟨O, ρ, _, r.mono s1, ek, fun v H2 s2 r2 => ⟨p, _, xs, rfl, r2.intV, s2 _ _ hl, by omega, by omega, ?_, fun p' hp' => ?_⟩⟩⟩
    · have h2 := ra.len
      rw [sizeLine_eq]
      have a1 : xs.length * Int.toNat kk ≤ 1000 * 1000 := Nat.mul_le_mul (by rw [h2]; exact hk.2.2) (show Int.toNat kk ≤ 1000 by omega)
      omega
    · refine q p' _ _ ((s1.trans s2).trans (same_upd hp')) ((s1.trans s2).free hp') upd_same (rep_small hk.2.1 hk.2.2) (newP hp' ((ra.mono ?_).rep _))
      exact np_le.trans (hide_same s2)
def addL (f g : Ev → Rs PyData) : Ev → Rs (List PyData) := fun ρ => (f ρ).bnd fun a => (g ρ).bnd fun b => match a, b with
  | .list xs, .list ys => if xs.length + ys.length ≤ sizeLine then .ok (xs ++ ys) else .no
  | _, _ => .no
theorem n_add {a b : Expr} {f g : Ev → Rs PyData} {pos : Pos} (ha : EP' X F a f) (hb : EP' X F b g) : NP' X F (.BinOp a .Add b pos) (addL f g) :=
  wkE (pe_op op_cat' ha hb) fun σ H Q ⟨O, ρ, d, r, e, q⟩ => by
    obtain ⟨d1, e1, e⟩ := Rs.bnd_eq e
    obtain ⟨d2, e2, e⟩ := Rs.bnd_eq e
    split at e <;> first | (cases e; done) | skip
    split at e <;> first | (cases e; done) | skip
    rename_i hz
    cases e
    refine ⟨O, ρ, _, r, e1, fun x H1 s1 r1 => ⟨O, ρ, _, r.mono s1, e2, fun y H2 s2 r2 => ?_⟩⟩
    obtain ⟨z1, a, xs, e1, h1, t1⟩ := r1.listV
    obtain ⟨z2, b, ys, e2, h2, t2⟩ := r2.listV
    have t1' := t1.mono (hide_same s2)
    exact ⟨a, b, xs, ys, e1, e2, s2.seq (sqL_le h1), sqL_le h2, by rw [t1.len, t2.len]; exact hz, fun p hp => q p _ _ ((s1.trans s2).trans (same_upd hp)) ((s1.trans s2).free hp) upd_same (by rw [List.length_append]; exact hz) (newP hp (t1'.append t2))⟩
end

/-! ### slots changed -/
def minusO (O : Own) (i : Nat) : Own := fun j => if j = i ∧ j < 1000 then none else O j
def plusO (O : Own) (i : Nat) (p : Addr) : Own := fun j => if j = i ∧ j < 1000 then some p else O j
theorem minusO_out {O : Own} {i j : Nat} (h : j ≠ i ∨ 1000 ≤ j) : minusO O i j = O j := if_neg fun z => h.elim (fun h => h z.1) fun h => absurd z.2 (by omega)
theorem plusO_out {O : Own} {i j : Nat} {p : Addr} (h : j ≠ i ∨ 1000 ≤ j) : plusO O i p j = O j := if_neg fun z => h.elim (fun h => h z.1) fun h => absurd z.2 (by omega)
theorem out_of {i j j' : Nat} (h : j ≠ i) (h' : j' = j ∨ 1000 ≤ j') : j' ≠ i ∨ 1000 ≤ j' := h'.imp (fun e => by rw [e]; exact h) id
section
variable {K : KB} {F : FC} {O : Own} {ρ : Ev} {σ : St} {H H' : Hp}
theorem minusO_some {i j : Nat} {a : Addr} (h : minusO O i j = some a) : ¬ (j = i ∧ j < 1000) ∧ O j = some a := by
  unfold minusO at h
  split at h
  · exact nomatch h
  · exact ⟨by assumption, h⟩
theorem minusO_le {i : Nat} : ∀ a, NN F (minusO O i) a → NN F O a := fun a h => h.imp id fun ⟨j, q⟩ => ⟨j, (minusO_some q).2⟩
theorem SlotOk.vis {ht : Option Addr} {N N' : Addr → Prop} {O' : Own} {i : Nat} {c : Cell} (h : SlotOk K ht N O H i σ c) (e : ∀ a, N' a → N a) (eo : ∀ j, (j = i ∨ ∃ k, j = ox i k) → O' j = O j) : SlotOk K ht N' O' H i σ c := h.move (hide_anti e) eo rfl fun _ _ _ _ _ q => q
theorem SlotOk.st {ht : Option Addr} {N : Addr → Prop} {i : Nat} {c : Cell} {σ' : St} (h : SlotOk K ht N O H i σ c) (e : σ'[i]? = σ[i]?) : SlotOk K ht N O H i σ' c := h.move (Same.refl _) (fun _ _ => rfl) e fun _ _ _ _ _ q => q
theorem set_get {α : Type} {l : List α} {i j : Nat} {x y : α} (h : (l.set i x)[j]? = some y) : (j = i ∧ y = x ∧ i < l.length) ∨ (j ≠ i ∧ l[j]? = some y) := by
  by_cases e : j = i
  · subst e
    by_cases hl : j < l.length
    · rw [List.getElem?_set_self hl] at h
      exact .inl ⟨rfl, (Option.some.inj h).symm, hl⟩
    · rw [List.getElem?_eq_none (by simpa using hl)] at h; exact nomatch h
  · rw [List.getElem?_set_ne (Ne.symm e)] at h
    exact .inr ⟨e, h⟩
/-- slot i takes a value; what it owned is let go -/
theorem Rel.setPub (r : Rel K F O ρ σ H) {i : Nat} {d : PyData} {v : V} (h : R K.K (hide (NN F O) H) d v) : Rel K F (minusO O i) (ρ.set i (some (.pub d))) (σ.set i (some v)) H := by
  refine ⟨by rw [List.length_set, List.length_set]; exact r.len, fun j k a h1 h2 => r.inj j k a (minusO_some h1).2 (minusO_some h2).2, fun j a h1 => r.live j a (minusO_some h1).2, r.hidl, fun a x q => ⟨(r.base a x q).1, fun j h1 => (r.base a x q).2 j (minusO_some h1).2⟩, fun j c q => ?_, r.obs.set (fun j h => minusO_out (.inr h)) (fun j hj => by first | rfl | exact List.getElem?_set_ne (Ne.symm hj)) (by simp) (by simp)⟩
  rcases set_get q with ⟨rfl, e, hl⟩ | ⟨hj, q⟩
  · cases e
    exact ⟨v, by rw [List.getElem?_set_self (by rw [r.len]; exact hl)], h.mono (hide_anti minusO_le)⟩
  · exact ((r.slots j c q).vis minusO_le fun j' h' => minusO_out (out_of hj (own_big h'))).st (List.getElem?_set_ne (Ne.symm hj))
/-- slot i is forgotten -/
theorem Rel.setNone (r : Rel K F O ρ σ H) {i : Nat} {o : Option V} : Rel K F O (ρ.set i none) (σ.set i o) H := by
  refine ⟨by rw [List.length_set, List.length_set]; exact r.len, r.inj, r.live, r.hidl, r.base, fun j c q => ?_, r.obs.set (fun _ _ => rfl) (fun j hj => List.getElem?_set_ne (Ne.symm hj)) (by simp) (by simp)⟩
  rcases set_get q with ⟨rfl, e, hl⟩ | ⟨hj, q⟩
  · exact nomatch e
  · exact (r.slots j c q).st (List.getElem?_set_ne (Ne.symm hj))
/-- what slot i owns is published -/
theorem Rel.pubOwn (r : Rel K F O ρ σ H) {i : Nat} {ds : List PyData} (h : ρ[i]? = some (some (.own ds))) : Rel K F (minusO O i) (ρ.set i (some (.pub (.list ds)))) σ H := by
  obtain ⟨z, a, xs, h1, h2, h3, h4⟩ := r.slots i _ h
  refine ⟨by rw [List.length_set]; exact r.len, fun j k a h1 h2 => r.inj j k a (minusO_some h1).2 (minusO_some h2).2, fun j a h1 => r.live j a (minusO_some h1).2, r.hidl, fun a x q => ⟨(r.base a x q).1, fun j h1 => (r.base a x q).2 j (minusO_some h1).2⟩, fun j c q => ?_, r.obs.set (fun j h => minusO_out (.inr h)) (fun j hj => by first | rfl | exact List.getElem?_set_ne (Ne.symm hj)) (by simp) (by simp)⟩
  rcases set_get q with ⟨rfl, e, hl⟩ | ⟨hj, q⟩
  · cases e
    refine ⟨_, h2, .list z (.of (hide_of (fun n => ?_) h3)) (h4.mono (hide_anti minusO_le))⟩
    rcases n with n | ⟨k, n⟩
    · cases q : F.H0 a with
      | none => exact r.hidl a n q
      | some o => exact (r.base a o q).2 j h1
    · obtain ⟨n1, n2⟩ := minusO_some n
      have e1 := r.inj _ _ _ n2 h1
      exact n1 ⟨e1, by have := r.obs.sz; omega⟩
  · exact (r.slots j c q).vis minusO_le fun j' h' => minusO_out (out_of hj (own_big h'))
/-- slot i takes a new list of its own -/
theorem Rel.setOwn (r : Rel K F O ρ σ H) {H' : Hp} (s : Same H H') {p : Addr} {xs : List V} {ds : List PyData} {i : Nat} (hp : H p = none) (hl : H' p = some (.lst xs)) (hz : ds.length ≤ sizeLine) (ra : RA K.K (hide (nP (NN F O) p) H') ds xs) :
    Rel K F (plusO O i p) (ρ.set i (some (.own ds))) (σ.set i (some (.ref p))) H' := by
  have old : ∀ j a, O j = some a → a ≠ p := fun j a h1 z => r.live j a h1 (by rw [z]; exact hp)
  have pl : ∀ {j a}, plusO O i p j = some a → (j = i ∧ a = p) ∨ (¬ (j = i ∧ j < 1000) ∧ O j = some a) := fun {j a} h => by
    unfold plusO at h
    split at h
    · rename_i q; exact .inl ⟨q.1, (Option.some.inj h).symm⟩
    · rename_i q; exact .inr ⟨q, h⟩
  have nn : ∀ a, NN F (plusO O i p) a → nP (NN F O) p a := fun a h => by
    rcases h with h | ⟨j, h⟩
    · exact .inl (.inl h)
    · rcases pl h with ⟨_, e⟩ | ⟨_, e⟩
      · exact .inr e
      · exact .inl (.inr ⟨j, e⟩)
  refine ⟨by rw [List.length_set, List.length_set]; exact r.len, fun j k a h1 h2 => ?_, fun j a h1 => ?_, r.hidl, fun a x q => ⟨s _ _ (r.base a x q).1, fun j h1 => ?_⟩, fun j c q => ?_, r.obs.set (fun j h => plusO_out (.inr h)) (fun j hj => List.getElem?_set_ne (Ne.symm hj)) (by simp) (by simp)⟩
  · rcases pl h1 with ⟨e1, e2⟩ | ⟨e1, e2⟩ <;> rcases pl h2 with ⟨e3, e4⟩ | ⟨e3, e4⟩
    · rw [e1, e3]
    · exact absurd e2 (old _ _ e4)
    · exact absurd e4 (old _ _ e2)
    · exact r.inj _ _ _ e2 e4
  · rcases pl h1 with ⟨_, e⟩ | ⟨_, e⟩
    · rw [e, hl]; simp
    · exact same_ne s (r.live j a e)
  · rcases pl h1 with ⟨_, e⟩ | ⟨_, e⟩
    · have := (r.base a x q).1
      rw [e, hp] at this; exact nomatch this
    · exact (r.base a x q).2 j e
  · rcases set_get q with ⟨rfl, e, hi⟩ | ⟨hj, q⟩
    · cases e
      exact ⟨hz, p, xs, if_pos ⟨rfl, by have := r.obs.sz; omega⟩, by rw [List.getElem?_set_self (by rw [r.len]; exact hi)], hl, ra.mono (hide_anti nn)⟩
    · have base := r.slots j c q
      have mv : Same (hide (NN F O) H) (hide (NN F (plusO O i p)) H') := fun a o e => by
        obtain ⟨e1, e2⟩ := hide_some e
        exact hide_of (fun z => (nn a z).elim e1 fun z => by rw [z, hp] at e2; exact nomatch e2) (s _ _ e2)
      exact base.move mv (fun j' h' => plusO_out (out_of hj (own_big h'))) (List.getElem?_set_ne (Ne.symm hj)) fun _ a x _ _ q => s a x q
theorem own_vis (r : Rel K F O ρ σ H) {H' : Hp} (s : Same H H') {p : Addr} {i : Nat} (hp : H p = none) : Same (hide (NN F O) H) (hide (NN F (plusO O i p)) H') := fun a o e => by
  obtain ⟨e1, e2⟩ := hide_some e
  refine hide_of (fun z => ?_) (s _ _ e2)
  rcases z with z | ⟨j, z⟩
  · exact e1 (.inl z)
  · unfold plusO at z
    split at z
    · cases z; rw [hp] at e2; exact nomatch e2
    · exact e1 (.inr ⟨j, z⟩)
theorem own_ne (r : Rel K F O ρ σ H) {i j j' : Nat} (hj : j ≠ i) (hi : i < ρ.length) (h : j' = j ∨ ∃ k, j' = ox j k) (e : j' = i) : False := by
  have := r.obs.sz
  rcases h with h | ⟨k, h⟩
  · exact hj (h.symm.trans e)
  · have := ox_big j k; omega
/-- the list that slot i owns is changed -/
theorem Rel.mut (r : Rel K F O ρ σ H) {i : Nat} {a : Addr} {xs : List V} {ds es : List PyData} (h0 : ρ[i]? = some (some (.own ds))) (ha : O i = some a) (hz : es.length ≤ sizeLine) (ra : RA K.K (hide (NN F O) H) es xs) :
    Rel K F O (ρ.set i (some (.own es))) σ (upd H a (.lst xs)) ∧ Same (hide (NN F O) H) (hide (NN F O) (upd H a (.lst xs))) := by
  have vis : Same (hide (NN F O) H) (hide (NN F O) (upd H a (.lst xs))) := fun b o e => by
    obtain ⟨e1, e2⟩ := hide_some e
    exact hide_of e1 (by rw [upd_ne (fun z => e1 (.inr ⟨i, by rw [z]; exact ha⟩))]; exact e2)
  refine ⟨⟨by rw [List.length_set]; exact r.len, r.inj, fun j b h1 => ?_, r.hidl, fun b x q => ⟨?_, (r.base b x q).2⟩, fun j c q => ?_, r.obs.set (fun _ _ => rfl) (fun _ _ => rfl) (by simp) (by simp)⟩, vis⟩
  · by_cases e : b = a
    · rw [e, upd_same]; simp
    · rw [upd_ne e]; exact r.live j b h1
  · rw [upd_ne (fun z => (r.base b x q).2 i (by rw [z]; exact ha))]; exact (r.base b x q).1
  · rcases set_get q with ⟨rfl, e, hi⟩ | ⟨hj, q⟩
    · cases e
      obtain ⟨_, b, ys, h1, h2, _, _⟩ := r.slots j _ h0
      rw [ha] at h1
      cases h1
      exact ⟨hz, a, xs, ha, h2, upd_same, ra.mono vis⟩
    · have base := r.slots j c q
      exact base.move vis (fun _ _ => rfl) rfl fun j' b x hj' h1 h3 => by rw [upd_ne (fun z => own_ne r hj (List.getElem?_eq_some_iff.mp h0).1 hj' (r.inj _ _ _ h1 (by rw [z]; exact ha)))]; exact h3
end
end PL


/-! PL5: targets, walks, comprehensions -/
namespace PL
open PySem PySem.Spec PyProof.Rows L2

/-! ### targets -/
inductive Tg where
  | one (i : Nat)
  | many (is : List Nat)
def Tg.slots : Tg → List Nat
  | .one i => [i]
  | .many is => is
def setAll : List Nat → List PyData → Ev → Rs Ev
  | [], [], ρ => .ok ρ
  | i :: is, d :: ds, ρ => setAll is ds (ρ.set i (some (.pub d)))
  | _, _, _ => .no
def tgt : Tg → PyData → Ev → Rs Ev
  | .one i, d, ρ => .ok (ρ.set i (some (.pub d)))
  | .many is, .tuple ds, ρ => setAll is ds ρ
  | _, _, _ => .no
/-- behind a target -/
structure Got (K : KB) (F : FC) (O : Own) (σ : St) (H : Hp) (is : List Nat) (O' : Own) (ρ' : Ev) (σ' : St) : Prop where
  rel : Rel K F O' ρ' σ' H
  vis : Same (hide (NN F O) H) (hide (NN F O') H)
  out : ∀ j, j ∉ is → σ'[j]? = σ[j]?
  len : σ'.length = σ.length
  own : (∀ j ∈ is, j < 1000 → O j = none) → O' = O
/-- what a target asks of a value -/
def RQ (t : Tg) (K : PySem.W.Frag) (H : Hp) (d : PyData) (v : V) : Prop := match t with
  | .one _ => R K H d v
  | .many _ => ∀ ds, d = .tuple ds → ∃ a xs, v = .ref a ∧ SqT K H a xs ∧ RA K H ds xs
theorem RQ.of {t : Tg} {K : PySem.W.Frag} {H : Hp} {d : PyData} {v : V} (r : R K H d v) : RQ t K H d v := by
  cases t with
  | one i => exact r
  | many is =>
    intro ds e
    subst e
    obtain ⟨z, a, xs, e1, h1, t1⟩ := r.tupV
    exact ⟨a, xs, e1, h1, t1⟩
def gP (K : KB) (F : FC) (t : Tg) : TG := fun v σ H Q => ∃ O ρ d ρ', Rel K F O ρ σ H ∧ RQ t K.K (hide (NN F O) H) d v ∧ tgt t d ρ = .ok ρ' ∧ ∀ O' σ', Got K F O σ H t.slots O' ρ' σ' → Q σ' H
def gsP (K : KB) (F : FC) (is : List Nat) : TGs := fun vs σ H Q => ∃ O ρ ds ρ', Rel K F O ρ σ H ∧ RA K.K (hide (NN F O) H) ds vs ∧ setAll is ds ρ = .ok ρ' ∧ ∀ O' σ', Got K F O σ H is O' ρ' σ' → Q σ' H
theorem wkG {X : Cx} {e : Expr} {t t' : TG} (h : PG X e t) (w : ∀ v σ H Q, t' v σ H Q → t v σ H Q) : PG X e t' := ⟨fun pins s σ H v u Q I r q => h.run pins s σ H v u Q I r (w _ _ _ _ q)⟩
theorem wkGs {X : Cx} {e : List Expr} {t t' : TGs} (h : PGs X e t) (w : ∀ v σ H Q, t' v σ H Q → t v σ H Q) : PGs X e t' := ⟨fun pins s σ H v u Q I r q => h.run pins s σ H v u Q I r (w _ _ _ _ q)⟩
theorem minusO_none {O : Own} {i : Nat} (h : i < 1000 → O i = none) : minusO O i = O := by
  funext j
  unfold minusO
  split
  · rename_i e; rw [e.1, h (e.1 ▸ e.2)]
  · rfl
theorem got_one {K : KB} {F : FC} {O : Own} {ρ : Ev} {σ : St} {H : Hp} {d : PyData} {v : V} {i : Nat} (r : Rel K F O ρ σ H) (h : R K.K (hide (NN F O) H) d v) : Got K F O σ H [i] (minusO O i) (ρ.set i (some (.pub d))) (σ.set i (some v)) :=
  ⟨r.setPub h, hide_anti minusO_le, fun j hj => List.getElem?_set_ne (fun z => hj (by rw [z]; simp)), by simp, fun h => minusO_none (h i (by simp))⟩
section
variable {X : Cx} {F : FC}
theorem g_one {x : Str} {pos : Pos} {i : Nat} (h : PG X (.Name x pos) (gName i)) : PG X (.Name x pos) (gP X.kb F (.one i)) := wkG h fun v σ H Q ⟨O, ρ, d, ρ', r, h, e, q⟩ => by
  cases e
  exact q _ _ (got_one r h)
theorem gs_nil : PGs X [] (gsP X.kb F []) := wkGs pgs_nil fun vs σ H Q ⟨O, ρ, ds, ρ', r, h, e, q⟩ => by
  cases ds with
  | nil => cases e; exact ⟨h.inv0, q O σ ⟨r, Same.refl _, fun _ _ => rfl, rfl, fun _ => rfl⟩⟩
  | cons d ds => exact nomatch e
theorem gs_cons {e : Expr} {es : List Expr} {i : Nat} {is : List Nat} (h1 : PG X e (gName i)) (h2 : PGs X es (gsP X.kb F is))
    (hs : (assignEach (e :: es) X.env).map (·.2) = assign e X.env :: (assignEach es X.env).map (·.2) := by rfl) : PGs X (e :: es) (gsP X.kb F (i :: is)) := wkGs (pgs_cons h1 h2 hs) fun vs σ H Q ⟨O, ρ, ds, ρ', r, h, e, q⟩ => by
  cases ds with
  | nil => exact nomatch e
  | cons d ds =>
    obtain ⟨v, vr, rfl, h1, h2⟩ := h.inv
    have g := got_one (i := i) r h1
    refine ⟨v, vr, rfl, minusO O i, _, ds, ρ', g.rel, h2.mono g.vis, e, fun O' σ' g' => q O' σ' ⟨g'.rel, g.vis.trans g'.vis, fun j hj => ?_, g'.len.trans g.len, fun hn => ?_⟩⟩
    · rw [g'.out j (fun z => hj (by simp [z])), g.out j (fun z => hj (by simp at z; simp [z]))]
    · rw [g'.own, g.own fun j hj => hn j (by simp at hj; simp [hj])]
      intro j hj
      rw [g.own fun j hj => hn j (by simp at hj; simp [hj])]
      exact hn j (by simp [hj])
theorem g_many {es : List Expr} {k : Nat} {is : List Nat} {n : Nat} {pos : Pos} (hc : X.calm = true) (h : PGs X es (gsP X.kb F is)) (hl : is.length = n := by rfl)
    (hn : (assignEach es X.env).length = n := by rfl) (hst : (assignEach es X.env).findIdx? (·.1) = none := by rfl) : PG X (.Tuple es k pos) (gP X.kb F (.many is)) := wkG (pg_tup hc h hn hst) fun v σ H Q ⟨O, ρ, d, ρ', r, h, e, q⟩ => by
  have ln : ∀ {is : List Nat} {ds : List PyData} {ρ ρ' : Ev}, setAll is ds ρ = .ok ρ' → ds.length = is.length := by
    intro is
    induction is with
    | nil => intro ds ρ ρ' e; cases ds with | nil => rfl | cons _ _ => exact nomatch e
    | cons i is ih => intro ds ρ ρ' e; cases ds with | nil => exact nomatch e | cons d ds => rw [List.length_cons, List.length_cons, ih e]
  cases d with
  | tuple ds =>
    obtain ⟨a, xs, e1, h1, t1⟩ := h ds rfl
    exact ⟨a, xs, e1, sqT_le h1, by rw [t1.len, ln e, hl], O, ρ, ds, ρ', r, t1, e, q⟩
  | _ => exact nomatch e
end

/-! ### walks -/
structure Wk (t : Tg) (K : PySem.W.Frag) (B E : Hp) (J : It) (ds : List PyData) : Prop where
  sz : ds.length ≤ sizeLine
  go : ∀ H i, Same B H → i < ds.length → J.go i H
  stop : ∀ H, Same B H → J.stop ds.length H
  yld : ∀ H i x H', Same B H → i < ds.length → J.yld i H x H' → Same H H' ∧ ∃ d, ds[i]? = some d ∧ ∀ N, (∀ a, N a → H a ≠ none) → Same E (hide N H) → RQ t K (hide N H') d x
def tI (K : KB) (F : FC) (t : Tg) (g : Ev → Rs (List PyData)) : TI := fun σ H RR => ∃ O ρ ds, Rel K F O ρ σ H ∧ g ρ = .ok ds ∧ ∀ J H', Same H H' → Wk t K.K (hide (NN F O) H') (hide (NN F O) H') J ds → RR J H'
def tJ (K : KB) (F : FC) (t : Tg) (g : Ev → Rs (List PyData)) : TI := fun σ H RR => ∃ O ρ ds, Rel K F O ρ σ H ∧ g ρ = .ok ds ∧ ∀ J H', Same H H' → Wk t K.K H' (hide (NN F O) H') J ds → RR J H'
theorem wkI {X : Cx} {tg e : Expr} {t t' : TI} (h : PI X tg e t) (w : ∀ σ H Q, t' σ H Q → t σ H Q) : PI X tg e t' := ⟨fun pins s σ H Q I q => h.run pins s σ H Q I (w _ _ _ q)⟩
theorem Wk.big {t : Tg} {K : PySem.W.Frag} {B B' E : Hp} {J : It} {ds : List PyData} (w : Wk t K B E J ds) (s : Same B B') : Wk t K B' E J ds :=
  ⟨w.sz, fun H i h => w.go H i (s.trans h), fun H h => w.stop H (s.trans h), fun H i x H' h => w.yld H i x H' (s.trans h)⟩
theorem i_j {X : Cx} {F : FC} {t : Tg} {tg e : Expr} {g : Ev → Rs (List PyData)} (h : PI X tg e (tI X.kb F t g)) : PI X tg e (tJ X.kb F t g) := wkI h fun σ H Q ⟨O, ρ, ds, r, e, q⟩ => ⟨O, ρ, ds, r, e, fun J H' s w => q J H' s (w.big hide_le)⟩
theorem wk_list {tq : Tg} {K : PySem.W.Frag} {B E : Hp} {a : Addr} {ds : List PyData} {xs : List V} (z : ds.length ≤ sizeLine) (h : SqL K B a xs) (t : RA K E ds xs) : Wk tq K B E (Itl K a) ds := by
  refine ⟨z, fun H i s hi => ?_, fun H s => ⟨xs, s.seq h, by rw [t.len]; exact Nat.le_refl _⟩, fun H i x H' s hi y => ?_⟩
  · obtain ⟨x, e1, e2⟩ := t.get (List.getElem?_eq_getElem hi)
    exact ⟨xs, x, s.seq h, e1⟩
  · obtain ⟨e, y⟩ := y
    subst e
    obtain ⟨d, e1, e2⟩ := t.getV (y xs (s.seq h))
    exact ⟨Same.refl _, d, e1, fun N hn se => .of (e2.mono se)⟩
theorem wk_tup {tq : Tg} {K : PySem.W.Frag} {B E : Hp} {a : Addr} {ds : List PyData} {xs : List V} (z : ds.length ≤ sizeLine) (h : SqT K B a xs) (t : RA K E ds xs) : Wk tq K B E (Itt K a) ds := by
  refine ⟨z, fun H i s hi => ?_, fun H s => ⟨xs, sqt_mono s h, by rw [t.len]; exact Nat.le_refl _⟩, fun H i x H' s hi y => ?_⟩
  · obtain ⟨x, e1, e2⟩ := t.get (List.getElem?_eq_getElem hi)
    exact ⟨xs, x, sqt_mono s h, e1⟩
  · obtain ⟨e, y⟩ := y
    subst e
    obtain ⟨d, e1, e2⟩ := t.getV (y xs (sqt_mono s h))
    exact ⟨Same.refl _, d, e1, fun N hn se => .of (e2.mono se)⟩
def rangeL (lo : Int) (n : Nat) : List PyData := (List.range n).map fun (k : Nat) => .int (lo + (k : Int))
theorem wk_range {tq : Tg} {K : PySem.W.Frag} {B E : Hp} {lo : Int} {n : Nat} (z : n ≤ sizeLine) : Wk tq K B E (Itr lo n) (rangeL lo n) := by
  have ln : (rangeL lo n).length = n := by simp [rangeL]
  refine ⟨by rw [ln]; exact z, fun H i s hi => by rw [ln] at hi; exact hi, fun H s => by rw [ln]; exact Nat.le_refl _, fun H i x H' s hi y => ?_⟩
  obtain ⟨e1, e2⟩ := y
  subst e1 e2
  rw [ln] at hi
  exact ⟨Same.refl _, .int (lo + i), by simp [rangeL, hi], fun N hn se => .of .int⟩
section
variable {X : Cx} {F : FC} {tg : Expr}
/-- what a list or a tuple gives -/
def seqE (f : Ev → Rs PyData) : Ev → Rs (List PyData) := fun ρ => (f ρ).bnd seqOf
theorem i_seq {t : Tg} {e : Expr} {f : Ev → Rs PyData} (h : EP' X F e f) : PI X tg e (tI X.kb F t (seqE f)) := by
  refine ⟨fun pins s σ H Q I ⟨O, ρ, ds, r, e, q⟩ => ?_⟩
  obtain ⟨d, ed, e⟩ := Rs.bnd_eq e
  unfold seqOf at e
  split at e <;> first | (cases e; done) | skip
  · cases e
    refine (pi_list h).run pins s σ H Q I ⟨O, ρ, _, r, ed, fun v H' s1 r1 => ?_⟩
    obtain ⟨z, a, xs, e1, h1, t1⟩ := r1.listV
    exact ⟨a, e1, ⟨xs, sqL_le h1⟩, q _ H' s1 (wk_list z h1 t1)⟩
  · cases e
    refine (pi_tup h).run pins s σ H Q I ⟨O, ρ, _, r, ed, fun v H' s1 r1 => ?_⟩
    obtain ⟨z, a, xs, e1, h1, t1⟩ := r1.tupV
    exact ⟨a, e1, ⟨xs, sqT_le h1⟩, q _ H' s1 (wk_tup z h1 t1)⟩
/-- the list that a slot owns -/
def ownL (i : Nat) : Ev → Rs (List PyData) := fun ρ => match getC ρ i with | some (.own ds) => .ok ds | _ => .no
theorem j_own {t : Tg} {x : Str} {pos : Pos} (i : Nat) (h : PE X (.Name x pos) (tVar i)) : PI X tg (.Name x pos) (tJ X.kb F t (ownL i)) := wkI (pi_list h) fun σ H Q ⟨O, ρ, ds, r, e, q⟩ => by
  unfold ownL at e
  split at e <;> first | (cases e; done) | skip
  rename_i hc
  cases e
  obtain ⟨z, a, xs, h1, h2, h3, h4⟩ := r.slots i _ (getC_iff.mp hc)
  exact ⟨_, h2, a, rfl, ⟨xs, .of h3⟩, q _ H (Same.refl H) (wk_list z (.of h3) h4)⟩
/-- the longest range as a pair, read by rgMax_eq -/
def rgMax : { n : Int // n = 16777216 } := ⟨16777216, rfl⟩
theorem rgMax_eq : rgMax.1 = 16777216 := rgMax.2
def rng1 : List PyData → Rs (List PyData)
  | [.int j] => if j ≤ rgMax.1 ∧ -(2 ^ 62) ≤ j then .ok (rangeL 0 j.toNat) else .no
  | _ => .no
def rng2 : List PyData → Rs (List PyData)
  | [.int i, .int j] => if -(2 ^ 61) ≤ i ∧ i < 2 ^ 61 ∧ -(2 ^ 61) ≤ j ∧ j < 2 ^ 61 ∧ j - i ≤ rgMax.1 then .ok (rangeL i (j - i).toNat) else .no
  | _ => .no
theorem i_range1 {t : Tg} {a : Expr} {g : Ev → Rs (List PyData)} {p pos : Pos} (hg : Gl X "range") (hm : X.mg "range" = none) (ha : AP' X F [a] g) (hs : starEach [a] X.env = [(false, eval a X.env)] := by rfl) : PI X tg (.Call (.Name "range" p) [a] [] pos) (tI X.kb F t (apN rng1 g)) :=
  wkI (pi_range1 hg hm ha hs) fun σ H Q ⟨O, ρ, ds, r, e, q⟩ => by
    obtain ⟨l, el, e⟩ := Rs.bnd_eq e
    unfold rng1 at e
    split at e <;> first | (cases e; done) | skip
    split at e <;> first | (cases e; done) | skip
    rename_i hc
    rw [rgMax_eq] at hc
    cases e
    refine ⟨O, ρ, _, r, el, fun vs H' s t => ?_⟩
    obtain ⟨x, rfl, r1⟩ := t.inv1
    exact ⟨_, by rw [r1.intV], hc.2, by omega, q _ H' s (wk_range (by rw [sizeLine_eq]; omega))⟩
theorem i_range2 {t : Tg} {a b : Expr} {g : Ev → Rs (List PyData)} {p pos : Pos} (hg : Gl X "range") (hm : X.mg "range" = none) (ha : AP' X F [a, b] g) (hs : starEach [a, b] X.env = [(false, eval a X.env), (false, eval b X.env)] := by rfl) (hs2 : starEach [b] X.env = [(false, eval b X.env)] := by rfl) : PI X tg (.Call (.Name "range" p) [a, b] [] pos) (tI X.kb F t (apN rng2 g)) :=
  wkI (pi_range2 hg hm ha hs hs2) fun σ H Q ⟨O, ρ, ds, r, e, q⟩ => by
    obtain ⟨l, el, e⟩ := Rs.bnd_eq e
    unfold rng2 at e
    split at e <;> first | (cases e; done) | skip
    split at e <;> first | (cases e; done) | skip
    rename_i hc
    rw [rgMax_eq] at hc
    cases e
    refine ⟨O, ρ, _, r, el, fun vs H' s t => ?_⟩
    obtain ⟨x, y, rfl, r1, r2⟩ := t.inv2
    exact ⟨_, _, by rw [r1.intV, r2.intV], ⟨by omega, by omega, by omega, by omega⟩, q _ H' s (wk_range (by rw [sizeLine_eq]; omega))⟩
end

/-! ### comprehensions -/
def wipeE (ρ : Ev) : List Nat → Ev
  | [] => ρ
  | v :: vs => (wipeE ρ vs).set v none
theorem Rel.wipe {K : KB} {F : FC} {O : Own} {ρ : Ev} {σ : St} {H : Hp} (r : Rel K F O ρ σ H) : ∀ vs : List Nat, Rel K F O (wipeE ρ vs) (L2.wipe σ vs) H
  | [] => r
  | v :: vs => by unfold wipeE L2.wipe; exact (r.wipe vs).setNone
theorem wipe_get (σ : St) (j : Nat) : ∀ vs : List Nat, (L2.wipe σ vs)[j]? = if j ∈ vs then (if j < σ.length then some none else none) else σ[j]?
  | [] => by simp [L2.wipe]
  | v :: vs => by
    unfold L2.wipe
    by_cases e : v = j
    · subst e
      by_cases hl : v < σ.length
      · rw [List.getElem?_set_self (by rw [wipe_length]; exact hl)]; simp [hl]
      · rw [List.getElem?_eq_none (by rw [List.length_set, wipe_length]; omega)]; simp [hl]
    · rw [List.getElem?_set_ne e, wipe_get σ j vs]
      have : (j ∈ v :: vs) ↔ j ∈ vs := by simp [Ne.symm e]
      simp only [this]
theorem wipe_eq {σ σ' : St} {vs : List Nat} (h : ∀ j, j ∉ vs → σ'[j]? = σ[j]?) (hl : σ'.length = σ.length) : L2.wipe σ' vs = L2.wipe σ vs := by
  refine List.ext_getElem? fun j => ?_
  rw [wipe_get, wipe_get, hl]
  split
  · rfl
  · exact h j (by assumption)
theorem wipe_wipe (σ : St) (vs : List Nat) : L2.wipe (L2.wipe σ vs) vs = L2.wipe σ vs := wipe_eq (fun j hj => by rw [wipe_get, if_neg hj]) (wipe_length _ _)
def compL (t : Tg) (cond : Ev → Rs Bool) (elt : Ev → Rs PyData) (ρ : Ev) : List PyData → Rs (List PyData)
  | [] => .ok []
  | d :: r => (tgt t d ρ).bnd fun ρ1 => (cond ρ1).bnd fun b => if b = true then (elt ρ1).bnd fun y => (compL t cond elt ρ r).bnd fun ys => .ok (y :: ys) else compL t cond elt ρ r
def comp (it : Ev → Rs (List PyData)) (t : Tg) (own : List Nat) (cond : Ev → Rs Bool) (elt : Ev → Rs PyData) : Ev → Rs (List PyData) := fun ρ => (it ρ).bnd fun ds => compL t cond elt (wipeE ρ own) ds
theorem compL_len {t : Tg} {cond : Ev → Rs Bool} {elt : Ev → Rs PyData} {ρ : Ev} : ∀ {ds ys : List PyData}, compL t cond elt ρ ds = .ok ys → ys.length ≤ ds.length
  | [], _, e => by cases e; exact Nat.le_refl _
  | d :: ds, ys, e => by
    unfold compL at e
    obtain ⟨ρ1, e1, e⟩ := Rs.bnd_eq e
    obtain ⟨b, e2, e⟩ := Rs.bnd_eq e
    split at e
    · obtain ⟨y, e3, e⟩ := Rs.bnd_eq e
      obtain ⟨zs, e4, e⟩ := Rs.bnd_eq e
      cases e
      have := compL_len e4
      simp only [List.length_cons]; omega
    · have := compL_len e
      simp only [List.length_cons]; omega
def noIf : Ev → Rs Bool := fun _ => .ok true
def gE (K : KB) (t : Tg) : TG := fun v σ H Q => ∃ F, gP K F t v σ H Q
def tTE (K : KB) (g : Ev → Rs Bool) : TT := fun σ H Q => ∃ F, tT K F g σ H Q
def tPE (K : KB) (f : Ev → Rs PyData) : TE := fun σ H Q => ∃ F, tP K F f σ H Q
theorem all_g {X : Cx} {e : Expr} {t : Tg} (h : ∀ F, PG X e (gP X.kb F t)) : PG X e (gE X.kb t) := ⟨fun pins s σ H v u Q I r ⟨F, q⟩ => (h F).run pins s σ H v u Q I r q⟩
theorem all_p {X : Cx} {e : Expr} {f : Ev → Rs PyData} (h : ∀ F, EP' X F e f) : PE X e (tPE X.kb f) := ⟨fun pins s σ H Q I ⟨F, q⟩ => (h F).run pins s σ H Q I q⟩
theorem pts_no {X : Cx} : PTs X [] (tTE X.kb noIf) := ⟨fun pins s σ H Q I ⟨F, O, ρ, b, r, e, q⟩ => by cases e; exact pts_nil.run pins s σ H Q I (q H (Same.refl H))⟩
theorem pts_if {X : Cx} {c : Expr} {g : Ev → Rs Bool} (h : ∀ F, TP' X F c g) : PTs X [c] (tTE X.kb g) := ⟨fun pins s σ H Q I ⟨F, q⟩ => (pts_one (h F)).run pins s σ H Q I q⟩

/-- the context of the elements: what is hidden, and what the block's own names held, and the new list -/
noncomputable def fcAt (F : FC) (O : Own) (vs : List Nat) (H : Hp) (D : Addr) : FC where
  hid := fun a => F.hid a ∨ a = D ∨ ∃ i, (i ∈ vs ∧ i < 1000) ∧ O i = some a
  H0 := fun a => if a = D then H D else match F.H0 a with | some x => some x | none => (open Classical in if ∃ i, (i ∈ vs ∧ i < 1000) ∧ O i = some a then H a else none)
  ht := F.ht
def outO (O : Own) (vs : List Nat) : Own := fun i => if i ∈ vs ∧ i < 1000 then none else O i
theorem nn_at {F : FC} {O : Own} {vs : List Nat} {H : Hp} {D : Addr} (a : Addr) : NN (fcAt F O vs H D) (outO O vs) a ↔ nP (NN F O) D a := by
  constructor
  · rintro ((h | h | ⟨i, h1, h2⟩) | ⟨i, h⟩)
    · exact .inl (.inl h)
    · exact .inr h
    · exact .inl (.inr ⟨i, h2⟩)
    · unfold outO at h
      split at h
      · exact nomatch h
      · exact .inl (.inr ⟨i, h⟩)
  · rintro ((h | ⟨i, h⟩) | h)
    · exact .inl (.inl h)
    · by_cases hi : i ∈ vs ∧ i < 1000
      · exact .inl (.inr (.inr ⟨i, hi, h⟩))
      · exact .inr ⟨i, by unfold outO; rw [if_neg hi]; exact h⟩
    · exact .inl (.inr (.inl h))
theorem same_nn {F F' : FC} {O O' : Own} {H : Hp} (h : ∀ a, NN F O a ↔ NN F' O' a) : hide (NN F O) H = hide (NN F' O') H := by
  have e : NN F O = NN F' O' := funext fun a => propext (h a)
  rw [e]
theorem rel_at {K : KB} {F : FC} {O : Own} {ρ : Ev} {σ : St} {H1 H : Hp} {D : Addr} {vs : List Nat} {acc : List V} (r : Rel K F O ρ σ H1) (hD : H1 D = none) (s : Same H1 H) (hl : H D = some (.lst acc)) : Rel K (fcAt F O vs H D) (outO O vs) (wipeE ρ vs) (L2.wipe σ vs) H := by
  have r' := (r.mono s).wipe vs
  have oD : ∀ i a, O i = some a → a ≠ D := fun i a h z => r.live i a h (by rw [z]; exact hD)
  have hs : ∀ {i a}, outO O vs i = some a → ¬ (i ∈ vs ∧ i < 1000) ∧ O i = some a := fun {i a} h => by
    unfold outO at h
    split at h
    · exact nomatch h
    · exact ⟨by assumption, h⟩
  refine ⟨r'.len, fun i j a h1 h2 => r.inj i j a (hs h1).2 (hs h2).2, fun i a h => r'.live i a (hs h).2, fun a h => ?_, fun a x h => ?_, fun i c q => ?_, ?_⟩
  · show (if a = D then H D else match F.H0 a with | some x => some x | none => _) ≠ none
    by_cases e : a = D
    · rw [if_pos e, hl]; simp
    · rw [if_neg e]
      cases q : F.H0 a with
      | some x => simp
      | none =>
        simp only
        rcases h with h | h | h
        · exact absurd q (r.hidl a h)
        · exact absurd h e
        · rw [if_pos h]
          obtain ⟨i, _, h⟩ := h
          exact r'.live i a h
  · have h' : (if a = D then H D else match F.H0 a with | some x => some x | none => (open Classical in if ∃ i, (i ∈ vs ∧ i < 1000) ∧ O i = some a then H a else none)) = some x := h
    by_cases e : a = D
    · rw [if_pos e] at h'
      exact ⟨by rw [e]; exact h', fun i z => oD i a (hs z).2 e⟩
    · rw [if_neg e] at h'
      cases q : F.H0 a with
      | some y =>
        rw [q] at h'
        simp only at h'
        cases h'
        exact ⟨(r'.base a _ q).1, fun i z => (r'.base a _ q).2 i (hs z).2⟩
      | none =>
        rw [q] at h'
        simp only at h'
        split at h'
        · rename_i hx
          obtain ⟨i, h1, h2⟩ := hx
          exact ⟨h', fun j z => (hs z).1 (by rw [r.inj _ _ _ (hs z).2 h2]; exact h1)⟩
        · exact nomatch h'
  · -- the slots hold what they held: nothing in them is D
    have base : SlotOk K F.ht (NN F O) O H1 i (L2.wipe σ vs) c := (r.wipe vs).slots i c q
    have mv : Same (hide (NN F O) H1) (hide (NN (fcAt F O vs H D) (outO O vs)) H) := fun a o e => by
      obtain ⟨e1, e2⟩ := hide_some e
      exact hide_of (fun z => ((nn_at a).mp z).elim e1 fun z => by rw [z, hD] at e2; exact nomatch e2) (s _ _ e2)
    have hi : i ∉ vs := fun z => by
      have len : ∀ (l : List Nat), i ∈ l → (wipeE ρ l)[i]? ≠ some (some c) := by
        intro l
        induction l with
        | nil => intro h; exact nomatch h
        | cons v l ih =>
          intro h e
          unfold wipeE at e
          rcases set_get e with ⟨_, e, _⟩ | ⟨hj, e⟩
          · exact nomatch e
          · exact ih ((List.mem_cons.mp h).resolve_left hj) e
      exact len vs z q
    exact base.move mv (fun j q => by unfold outO; rw [if_neg (fun z => (own_big q).elim (fun e => hi (e ▸ z.1)) fun e => absurd z.2 (by omega))]) rfl fun _ a x _ _ q => s a x q

  · have ob := r'.obs
    refine ⟨ob.sz, fun i a c e => (nomatch (show (none : Option Addr) = some a from e)), fun i j k c e1 e2 => ?_⟩
    obtain ⟨a, h1, h2⟩ := ob.als i j k c e1 e2
    exact ⟨a, by unfold outO; rw [if_neg (fun z => absurd z.2 (by have := ox_big j k; omega))]; exact h1, h2⟩
section
variable {X : Cx} {F : FC}
theorem lc_read {it : Ev → Rs (List PyData)} {t : Tg} {vs : List Nat} {cond : Ev → Rs Bool} {elt : Ev → Rs PyData} (hsl : ∀ i ∈ t.slots, i ∈ vs) (σ : St) (H : Hp) (Q : VK) (h : tN X.kb F (comp it t vs cond elt) σ H Q) :
    tLc (tJ X.kb F t it) (gE X.kb t) (tTE X.kb cond) (tPE X.kb elt) vs σ H Q := by
  obtain ⟨O, ρ, ys, r, e, q⟩ := h
  obtain ⟨ds, ed, e⟩ := Rs.bnd_eq e
  refine ⟨O, ρ, ds, r, ed, fun J H1 s1 w D hD => ?_⟩
  have r1 := r.mono s1
  -- the state of a turn
  let P : Nat → Hp → Prop := fun i H => ∃ acc yd yr, H D = some (.lst acc) ∧ Same H1 H ∧ RA X.K (hide (nP (NN F O) D) H) yd acc ∧ compL t cond elt (wipeE ρ vs) (ds.drop i) = .ok yr ∧ ys = yd ++ yr ∧ acc.length ≤ i ∧ i ≤ ds.length
  have s0 : Same H1 (upd H1 D (.lst [])) := same_upd hD
  refine ⟨fun i m H => m = ds.length - i ∧ P i H, ⟨_, rfl, [], [], ys, upd_same, s0, .nil, by rw [List.drop_zero]; exact e, rfl, Nat.le_refl _, Nat.zero_le _⟩, ?_⟩
  rintro i m H2 ⟨rfl, acc, yd, yr, hl, sm, ra, ec, ey, ha, hi⟩
  by_cases hlt : i < ds.length
  · refine .inr ⟨w.go H2 i sm hlt, P (i + 1), fun H' p => ⟨ds.length - (i + 1), by omega, rfl, p⟩, fun x H3 y => ?_⟩
    obtain ⟨s3, d, edd, rd⟩ := w.yld H2 i x H3 sm hlt y
    have hl3 := s3 _ _ hl
    have rel3 := rel_at (vs := vs) (H := H3) r1 hD (sm.trans s3) hl3
    have edrop : ds.drop i = d :: ds.drop (i + 1) := by
      rw [List.drop_eq_getElem_cons hlt]
      rw [List.getElem?_eq_getElem hlt] at edd
      rw [Option.some.inj edd]
    rw [edrop] at ec
    unfold compL at ec
    obtain ⟨ρ1, e1, ec⟩ := Rs.bnd_eq ec
    obtain ⟨b, e2, ec⟩ := Rs.bnd_eq ec
    have live2 : ∀ a, NN (fcAt F O vs H3 D) (outO O vs) a → H2 a ≠ none := fun a z => by
      rcases (nn_at a).mp z with z | z
      · exact same_ne sm (r1.nlive z)
      · rw [z, hl]; simp
    have seen : Same (hide (NN F O) H1) (hide (NN (fcAt F O vs H3 D) (outO O vs)) H2) := fun a o e => by
      obtain ⟨e1, e2⟩ := hide_some e
      exact hide_of (fun z => ((nn_at a).mp z).elim e1 fun z => by rw [z, hD] at e2; exact nomatch e2) (sm _ _ e2)
    refine ⟨fcAt F O vs H3 D, outO O vs, wipeE ρ vs, d, ρ1, rel3, rd _ live2 seen, e1, fun O' σ' g => ?_⟩
    have eO : O' = outO O vs := g.own fun j hj => fun hb => by unfold outO; rw [if_pos ⟨hsl j hj, hb⟩]
    subst eO
    refine ⟨?_, fcAt F O vs H3 D, outO O vs, ρ1, b, g.rel, e2, fun H4 s4 => ?_⟩
    · rw [wipe_eq (σ := L2.wipe σ vs) (fun j hj => g.out j fun z => hj (hsl j z)) g.len, wipe_wipe]
    · have rel4 := g.rel.mono s4
      cases b with
      | true =>
        simp only [if_true] at ec ⊢
        obtain ⟨y', e3, ec⟩ := Rs.bnd_eq ec
        obtain ⟨zs, e4, ec⟩ := Rs.bnd_eq ec
        cases ec
        refine ⟨fcAt F O vs H3 D, outO O vs, ρ1, y', rel4, e3, fun v H5 s5 r5 => ⟨acc, s5 _ _ (s4 _ _ hl3), Nat.lt_of_le_of_lt ha (Nat.lt_of_lt_of_le hlt w.sz), ?_⟩⟩
        have s25 : Same H2 H5 := (s3.trans s4).trans s5
        have hl5 := s25 _ _ hl
        have r5' : R X.K (hide (nP (NN F O) D) H5) y' v := by
          have e : hide (NN (fcAt F O vs H3 D) (outO O vs)) H5 = hide (nP (NN F O) D) H5 := by
            have e' : NN (fcAt F O vs H3 D) (outO O vs) = nP (NN F O) D := funext fun a => propext (nn_at a)
            rw [e']
          rw [← e]; exact r5
        have keep : Same (hide (nP (NN F O) D) H5) (hide (nP (NN F O) D) (upd H5 D (.lst (acc ++ [v])))) := fun a o e => by
          obtain ⟨n1, n2⟩ := hide_some e
          exact hide_of n1 (by rw [upd_ne (fun z => n1 (.inr z))]; exact n2)
        refine ⟨acc ++ [v], yd ++ [y'], zs, upd_same, fun a o e => ?_, ?_, e4, by rw [ey, List.append_assoc]; rfl, by rw [List.length_append, List.length_singleton]; omega, hlt⟩
        · rw [upd_ne (fun z => by rw [z, hD] at e; exact nomatch e)]
          exact s25 _ _ (sm _ _ e)
        · exact ((ra.mono (hide_same s25)).append (.cons r5' .nil)).mono keep
      | false =>
        simp only [Bool.false_eq_true, if_false] at ec ⊢
        have s24 : Same H2 H4 := s3.trans s4
        exact ⟨acc, yd, yr, s24 _ _ hl, sm.trans s24, ra.mono (hide_same s24), ec, ey, Nat.le_succ_of_le ha, hlt⟩
  · have ei : i = ds.length := by omega
    subst ei
    refine .inl ⟨w.stop H2 sm, ?_⟩
    rw [List.drop_length] at ec
    cases ec
    rw [List.append_nil] at ey
    subst ey
    have lenY : ys.length ≤ sizeLine := by rw [← ra.len]; exact Nat.le_trans ha w.sz
    exact q D acc H2 (s1.trans sm) (s1.free hD) hl lenY ra
theorem n_comp {el tg iter : Expr} {ifs : List Expr} {scope : Scope} {own : List (Str × Nat)} {pos : Pos} {it : Ev → Rs (List PyData)} {t : Tg} {cond : Ev → Rs Bool} {elt : Ev → Rs PyData} (hc : X.calm = true) (hN : X.N.Nodup) (hi : PI X tg iter (tJ X.kb F t it)) (ok : BlkOk X.N X.env.scope scope own) (hsl : ∀ i ∈ t.slots, i ∈ own.map (·.2))
    (hg : ∀ (F : FC) (s : Shared) (H : Hp) (C : Addr) (cl : List (Str × Addr)) (fp : List Addr), PG (X.blk s H scope (compEnvC scope cl C X.env) fp) tg (gP X.kb F t))
    (ht : ∀ (s : Shared) (H : Hp) (C : Addr) (cl : List (Str × Addr)) (fp : List Addr), PTs (X.blk s H scope (compEnvC scope cl C X.env) fp) ifs (tTE X.kb cond))
    (he : ∀ (F : FC) (s : Shared) (H : Hp) (C : Addr) (cl : List (Str × Addr)) (fp : List Addr), PE (X.blk s H scope (compEnvC scope cl C X.env) fp) el (tP X.kb F elt)) (hs : ∀ x, foldedSetIterable iter X.env x = pure x := by intro _; rfl) :
    NP' X F (.ListComp el [⟨tg, iter, ifs, 0⟩] scope pos) (comp it t (own.map (·.2)) cond elt) :=
  wkE (pe_lc hc hN hi ok (fun s H C cl fp => all_g fun F => hg F s H C cl fp) ht (fun s H C cl fp => all_p fun F => he F s H C cl fp) hs) fun σ H Q h => lc_read hsl σ H Q h
end
end PL


/-! PL6: statements -/
namespace PL
open PySem PySem.Spec PyProof.Rows L2

inductive Out where
  | nx (ρ : Ev) | rt (d : PyData) | bk (ρ : Ev) | ct (ρ : Ev) | xc (ρ : Ev) (c : Nat) (fs : List PyData) | rn (ds : List PyData) | ro (ρ : Ev) (d : PyData)
/-- an exception of the class c with these fields -/
def ExOk (xm : Nat → Option (Addr × Option Str)) (nw : Addr → Prop) (H : Hp) (c : Nat) (fs : List PyData) (cls : Value) (d : Option Addr) : Prop :=
  ∃ C fn, xm c = some (C, fn) ∧ cls = .ref C ∧ match fn, fs with
    | none, [] => d = none
    | some f, [.int i] => ∃ dd, d = some dd ∧ nw dd ∧ H dd = some (.xd [(f, .int i)])
    | _, _ => False
/-- what is new, seen from a def's body -/
def Nw (F : FC) (O : Own) : Addr → Prop := fun a => ¬ NN F O a ∧ F.H0 a = none
theorem ExOk.imp {xm : Nat → Option (Addr × Option Str)} {nw nw' : Addr → Prop} {H : Hp} {c : Nat} {fs : List PyData} {cls : Value} {d : Option Addr} (h : ExOk xm nw H c fs cls d) (w : ∀ a, nw a → nw' a) : ExOk xm nw' H c fs cls d := by
  obtain ⟨C, fn, h1, h2, h3⟩ := h
  refine ⟨C, fn, h1, h2, ?_⟩
  split at h3
  · exact h3
  · obtain ⟨dd, e1, e2, e3⟩ := h3
    exact ⟨dd, e1, w _ e2, e3⟩
  · exact h3.elim
def Post (K : KB) (F : FC) (D : Ends) (O : Own) (H : Hp) : Out → Prop
  | .nx ρ' => ∀ O' σ' H', Rel K F O' ρ' σ' H' → Same (hide (NN F O) H) (hide (NN F O') H') → D.nx σ' H'
  | .bk ρ' => ∀ O' σ' H', Rel K F O' ρ' σ' H' → Same (hide (NN F O) H) (hide (NN F O') H') → D.bk σ' H'
  | .ct ρ' => ∀ O' σ' H', Rel K F O' ρ' σ' H' → Same (hide (NN F O) H) (hide (NN F O') H') → D.ct σ' H'
  | .rt d => ∀ v H', Same F.H0 H' → R K.K (hide F.hid H') d v → D.rt v H'
  | .xc ρ' c fs => (F.xm c).isSome = true ∧ ∀ O' σ' H' cls d, Rel K F O' ρ' σ' H' → Same (hide (NN F O) H) (hide (NN F O') H') → ExOk F.xm (Nw F O') H' c fs cls d → F.W cls d σ' H'
  | .rn ds => ∀ p xs H', Same F.H0 H' → F.H0 p = none → ¬ F.hid p → H' p = some (.lst xs) → ds.length ≤ sizeLine → RA K.K (hide (nP F.hid p) H') ds xs → D.rt (.ref p) H'
  | .ro ρ' d => ∀ O' σ' H' v, Rel K F O' ρ' σ' H' → R K.K (hide (NN F O') H') d v → D.rt v H'
def tS (K : KB) (F : FC) (f : Ev → Rs Out) : TS := fun D σ H => ∃ O ρ o, Rel K F O ρ σ H ∧ f ρ = .ok o ∧ Post K F D O H o
abbrev SP' (X : Cx) (F : FC) (st : Stmt) (f : Ev → Rs Out) : Prop := PS X st (tS X.kb F f)
abbrev SSP' (X : Cx) (F : FC) (st : List Stmt) (f : Ev → Rs Out) : Prop := PSs X st (tS X.kb F f)
theorem Post.from {K : KB} {F : FC} {D : Ends} {O O1 : Own} {H H1 : Hp} {o : Out} (p : Post K F D O H o) (s : Same (hide (NN F O) H) (hide (NN F O1) H1)) : Post K F D O1 H1 o := by
  cases o with
  | nx ρ => exact fun O' σ' H' r q => p O' σ' H' r (s.trans q)
  | bk ρ => exact fun O' σ' H' r q => p O' σ' H' r (s.trans q)
  | ct ρ => exact fun O' σ' H' r q => p O' σ' H' r (s.trans q)
  | rt d => exact p
  | xc ρ c fs => exact ⟨p.1, fun O' σ' H' cls d r q => p.2 O' σ' H' cls d r (s.trans q)⟩
  | rn ds => exact p
  | ro ρ d => exact p
theorem Rel.h0 {K : KB} {F : FC} {O : Own} {ρ : Ev} {σ : St} {H : Hp} (r : Rel K F O ρ σ H) : Same F.H0 H := fun a x e => (r.base a x e).1
theorem hid_le {F : FC} {O : Own} {H : Hp} : Same (hide (NN F O) H) (hide F.hid H) := hide_anti fun _ h => .inl h

/-- what an expression gives, or the exception that it lets out -/
def lft {α : Type} (r : Rs α) (ρ : Ev) (k : α → Rs Out) : Rs Out := match r with
  | .ok a => k a
  | .ex c fs => .ok (.xc ρ c fs)
  | .no => .no
@[simp] theorem lft_ok {α : Type} (a : α) (ρ : Ev) (k : α → Rs Out) : lft (.ok a) ρ k = k a := (Eq.refl _).trans (Eq.refl _)
@[simp] theorem lft_ex {α : Type} (c : Nat) (fs : List PyData) (ρ : Ev) (k : α → Rs Out) : lft (.ex c fs : Rs α) ρ k = .ok (.xc ρ c fs) := (Eq.refl _).trans (Eq.refl _)
/-- where no exception may leave -/
def Calm (F : FC) : Prop := F.xm = fun _ => none
def sNil : Ev → Rs Out := fun ρ => .ok (.nx ρ)
def sq (f g : Ev → Rs Out) : Ev → Rs Out := fun ρ => (f ρ).bnd fun o => match o with | .nx ρ' => g ρ' | o => .ok o
def sIf (g : Ev → Rs Bool) (a b : Ev → Rs Out) : Ev → Rs Out := fun ρ => (g ρ).bnd fun c => if c = true then a ρ else b ρ
def sRet (f : Ev → Rs PyData) : Ev → Rs Out := fun ρ => (f ρ).bnd fun d => .ok (.rt d)
def sAsg (t : Tg) (f : Ev → Rs PyData) : Ev → Rs Out := fun ρ => (f ρ).bnd fun d => (tgt t d ρ).bnd fun ρ' => .ok (.nx ρ')
def sSet (i : Nat) (f : Ev → Rs PyData) : Ev → Rs Out := fun ρ => (f ρ).bnd fun d => .ok (.nx (ρ.set i (some (.pub d))))
def sOwn (i : Nat) (f : Ev → Rs (List PyData)) : Ev → Rs Out := fun ρ => (f ρ).bnd fun ds => .ok (.nx (ρ.set i (some (.own ds))))
def pubE (i : Nat) (ρ : Ev) : Ev := match getC ρ i with | some (.own ds) => ρ.set i (some (.pub (.list ds))) | _ => ρ
def sApp (i : Nat) (f : Ev → Rs PyData) : Ev → Rs Out := fun ρ => match getC ρ i with
  | some (.own ds) => (f ρ).bnd fun d => if ds.length < sizeLine then .ok (.nx (ρ.set i (some (.own (ds ++ [d]))))) else .no
  | _ => .no
def sSetIx (i : Nat) (fi fe : Ev → Rs PyData) : Ev → Rs Out := fun ρ => match getC ρ i with
  | some (.own ds) => (fe ρ).bnd fun d => (fi ρ).bnd fun k => (asI k).bnd fun k => match ixN ds.length k with | some j => .ok (.nx (ρ.set i (some (.own (ds.set j d))))) | none => .no
  | _ => .no
/-- a place of a list for pop: the place, what stands there -/
def popAt (ds : List PyData) (k : Int) : Rs (PyData × List PyData) := if -(2 ^ 63) ≤ k ∧ k < 2 ^ 63 then match seqIndex? k ds.length with | some m => (match ds[m]? with | some d => .ok (d, ds.eraseIdx m) | none => .no) | none => .no else .no
def sPopAt (j i : Nat) (f : Ev → Rs PyData) : Ev → Rs Out := fun ρ => match getC ρ i with
  | some (.own ds) => (f ρ).bnd fun k => (asI k).bnd fun k => (popAt ds k).bnd fun p => .ok (.nx ((ρ.set i (some (.own p.2))).set j (some (.pub p.1))))
  | _ => .no
def sAppPopAt (j i : Nat) (f : Ev → Rs PyData) : Ev → Rs Out := fun ρ => match getC ρ j with
  | some (.own es) => (match getC ρ i with
    | some (.own ds) => (f ρ).bnd fun k => (asI k).bnd fun k => (popAt ds k).bnd fun p => if es.length < sizeLine ∧ i ≠ j then .ok (.nx ((ρ.set i (some (.own p.2))).set j (some (.own (es ++ [p.1]))))) else .no
    | _ => .no)
  | _ => .no
def sAug (i : Nat) (op : Int → Int → Int) (f : Ev → Rs PyData) : Ev → Rs Out := fun ρ => match getC ρ i with
  | some (.pub (.int a)) => (f ρ).bnd fun d => (asI d).bnd fun b => .ok (.nx (ρ.set i (some (.pub (.int (op a b))))))
  | _ => .no
def forL (t : Tg) (f : Ev → Rs Out) : List PyData → Ev → Rs Out
  | [], ρ => .ok (.nx ρ)
  | d :: r, ρ => (tgt t d ρ).bnd fun ρ1 => (f ρ1).bnd fun o => match o with
    | .nx ρ2 => forL t f r ρ2
    | .ct ρ2 => forL t f r ρ2
    | .bk ρ2 => .ok (.nx ρ2)
    | .rt d => .ok (.rt d)
    | .xc ρ c fs => .ok (.xc ρ c fs)
    | .rn ds => .ok (.rn ds)
    | .ro ρ d => .ok (.ro ρ d)
def sFor (it : Ev → Rs (List PyData)) (t : Tg) (f : Ev → Rs Out) : Ev → Rs Out := fun ρ => (it ρ).bnd fun ds => forL t f ds ρ
def whL (g : Ev → Rs Bool) (f : Ev → Rs Out) : Nat → Ev → Rs Out
  | 0, _ => .no
  | n + 1, ρ => (g ρ).bnd fun b => if b = true then (f ρ).bnd fun o => match o with
    | .nx ρ2 => whL g f n ρ2
    | .ct ρ2 => whL g f n ρ2
    | .bk ρ2 => .ok (.nx ρ2)
    | .rt d => .ok (.rt d)
    | .xc ρ c fs => .ok (.xc ρ c fs)
    | .rn ds => .ok (.rn ds)
    | .ro ρ d => .ok (.ro ρ d)
    else .ok (.nx ρ)

section
variable {X : Cx} {F : FC}
theorem s_nil : SSP' X F [] sNil := wkSs pss_nil fun D σ H ⟨O, ρ, o, r, e, p⟩ => by
  cases e
  exact p O σ H r (Same.refl _)
theorem s_cons {st : Stmt} {rest : List Stmt} {f g : Ev → Rs Out} (h1 : SP' X F st f) (h2 : SSP' X F rest g) : SSP' X F (st :: rest) (sq f g) := wkSs (pss_cons h1 h2) fun D σ H ⟨O, ρ, o, r, e, p⟩ => by
  obtain ⟨o1, e1, e⟩ := Rs.bnd_eq e
  refine ⟨O, ρ, o1, r, e1, ?_⟩
  cases o1 with
  | nx ρ1 => exact fun O' σ' H' r' s' => ⟨O', ρ1, o, r', e, p.from s'⟩
  | bk ρ1 => cases e; exact p
  | ct ρ1 => cases e; exact p
  | rt d => cases e; exact p
  | xc ρ c fs => cases e; exact p
  | rn ds => cases e; exact p
  | ro ρ d => cases e; exact p
theorem s_one {st : Stmt} {f : Ev → Rs Out} (h1 : SP' X F st f) : SSP' X F [st] f := wkSs (pss_one h1) fun _ _ _ h => h
theorem s_pub {st : Stmt} {f : Ev → Rs Out} (i : Nat) (h : SP' X F st f) : SP' X F st (fun ρ => f (pubE i ρ)) := wkS h fun D σ H ⟨O, ρ, o, r, e, p⟩ => by
  have e' : f (pubE i ρ) = .ok o := e
  unfold pubE at e'
  split at e'
  · rename_i ds hc
    exact ⟨minusO O i, _, o, r.pubOwn (getC_iff.mp hc), e', p.from (hide_anti minusO_le)⟩
  · exact ⟨O, ρ, o, r, e', p⟩
theorem s_if {c : Expr} {a b : List Stmt} {g : Ev → Rs Bool} {f1 f2 : Ev → Rs Out} {pos : Pos} (hc : TP' X F c g) (ha : SSP' X F a f1) (hb : SSP' X F b f2) : SP' X F (.If c a b pos) (sIf g f1 f2) := wkS (ps_if hc ha hb) fun D σ H ⟨O, ρ, o, r, e, p⟩ => by
  obtain ⟨b, eb, e⟩ := Rs.bnd_eq e
  refine ⟨O, ρ, b, r, eb, fun H' s => ?_⟩
  cases b with
  | true => exact ⟨O, ρ, o, r.mono s, e, p.from (hide_same s)⟩
  | false => exact ⟨O, ρ, o, r.mono s, e, p.from (hide_same s)⟩
theorem s_ret {e : Expr} {f : Ev → Rs PyData} {pos : Pos} (h : EP' X F e f) : SP' X F (.Return (some e) pos) (sRet f) := wkS (ps_ret h) fun D σ H ⟨O, ρ, o, r, e, p⟩ => by
  obtain ⟨d, ed, e⟩ := Rs.bnd_eq e
  cases e
  exact ⟨O, ρ, d, r, ed, fun v H' s r' => p v H' (r.mono s).h0 (r'.mono hid_le)⟩
/-- return of a new list -/
def sRetL (f : Ev → Rs (List PyData)) : Ev → Rs Out := fun ρ => (f ρ).bnd fun ds => .ok (.rn ds)
theorem s_retL {e : Expr} {f : Ev → Rs (List PyData)} {pos : Pos} (h : NP' X F e f) : SP' X F (.Return (some e) pos) (sRetL f) := wkS (ps_ret h) fun D σ H ⟨O, ρ, o, r, e, p⟩ => by
  obtain ⟨ds, ed, e⟩ := Rs.bnd_eq e
  cases e
  refine ⟨O, ρ, ds, r, ed, fun q xs H' s hp hl hz ra => ?_⟩
  have h0 : F.H0 q = none := by
    cases w : F.H0 q with
    | none => rfl
    | some x => rw [(r.base q x w).1] at hp; exact nomatch hp
  exact p q xs H' ((r.mono s).h0) h0 (fun z => r.nlive (.inl z) hp) hl hz (ra.mono (hide_anti fun a z => z.imp (fun z => .inl z) id))
/-- return of a slot's own list -/
def sRetO (i : Nat) : Ev → Rs Out := fun ρ => match getC ρ i with | some (.own ds) => .ok (.rn ds) | _ => .no
theorem s_retO {e : Expr} {i : Nat} {pos : Pos} (h : PE X e (tVar i)) : SP' X F (.Return (some e) pos) (sRetO i) := wkS (ps_ret h) fun D σ H ⟨O, ρ, o, r, e, p⟩ => by
  unfold sRetO at e
  split at e <;> first | (cases e; done) | skip
  rename_i hc
  cases e
  obtain ⟨hz, a, xs, h1, h2, h3, h4⟩ := r.slots i _ (getC_iff.mp hc)
  have h0 : F.H0 a = none := by
    cases w : F.H0 a with
    | none => rfl
    | some x => exact absurd h1 ((r.base a x w).2 i)
  refine ⟨_, h2, p a xs H r.h0 h0 (fun z => r.hidl a z h0) h3 hz (h4.mono (hide_anti fun b z => ?_))⟩
  rcases z with z | z
  · exact .inl z
  · exact .inr ⟨i, by rw [z]; exact h1⟩
theorem s_retN {pos : Pos} : SP' X F (.Return none pos) (sRet (cn .none)) := wkS ps_retN fun D σ H ⟨O, ρ, o, r, e, p⟩ => by
  cases e
  exact p _ H r.h0 .none
theorem s_pass {pos : Pos} : SP' X F (.Pass pos) sNil := wkS ps_pass fun D σ H ⟨O, ρ, o, r, e, p⟩ => by
  cases e
  exact p O σ H r (Same.refl _)
theorem s_break {pos : Pos} : SP' X F (.Break pos) (fun ρ => .ok (.bk ρ)) := wkS ps_break fun D σ H ⟨O, ρ, o, r, e, p⟩ => by
  cases e
  exact p O σ H r (Same.refl _)
theorem s_cont {pos : Pos} : SP' X F (.Continue pos) (fun ρ => .ok (.ct ρ)) := wkS ps_continue fun D σ H ⟨O, ρ, o, r, e, p⟩ => by
  cases e
  exact p O σ H r (Same.refl _)
theorem s_never {st : Stmt} : SP' X F st (fun _ => .no) := wkS ps_never fun D σ H ⟨O, ρ, o, r, e, p⟩ => nomatch e
theorem s_doc {x j pos pos'} : SP' X F (.Expr (.Constant (.str x) j pos) pos') sNil := wkS ps_doc fun D σ H ⟨O, ρ, o, r, e, p⟩ => by
  cases e
  exact p O σ H r (Same.refl _)
/-! assignments -/
theorem s_asg {tg e : Expr} {t : Tg} {f : Ev → Rs PyData} {pos : Pos} (he : EP' X F e f) (hg : PG X tg (gP X.kb F t)) (hs : swapsWithSole [tg] e pos.line X.env = pure false := by rfl) (hw : swappedStores [tg] e X.env = pure none := by rfl)
    (h1 : (assignEach [tg] X.env).map (·.2) = [assign tg X.env] := by rfl) : SP' X F (.Assign [tg] e pos) (sAsg t f) := wkS (ps_asg he hg hs hw h1) fun D σ H ⟨O, ρ, o, r, e, p⟩ => by
  obtain ⟨d, ed, e⟩ := Rs.bnd_eq e
  obtain ⟨ρ', et, e⟩ := Rs.bnd_eq e
  cases e
  exact ⟨O, ρ, d, r, ed, fun v H' s r' => ⟨O, ρ, d, ρ', r.mono s, .of r', et, fun O' σ' g => p O' σ' H' g.rel ((hide_same s).trans g.vis)⟩⟩
/-- from an assignment to a name, as HandS reads it -/
theorem s_set {st : Stmt} {i : Nat} {f : Ev → Rs PyData} (h : PS X st (tAsg (tP X.kb F f) (gName i))) : SP' X F st (sSet i f) := wkS h fun D σ H ⟨O, ρ, o, r, e, p⟩ => by
  obtain ⟨d, ed, e⟩ := Rs.bnd_eq e
  cases e
  refine ⟨O, ρ, d, r, ed, fun v H' s r' => ?_⟩
  have g := got_one (i := i) (r.mono s) r'
  exact p _ _ H' g.rel ((hide_same s).trans g.vis)
theorem s_own {st : Stmt} {i : Nat} {f : Ev → Rs (List PyData)} (h : PS X st (tAsg (tN X.kb F f) (gName i))) : SP' X F st (sOwn i f) := wkS h fun D σ H ⟨O, ρ, o, r, e, p⟩ => by
  obtain ⟨ds, ed, e⟩ := Rs.bnd_eq e
  cases e
  exact ⟨O, ρ, ds, r, ed, fun q xs H' s hp hl hz ra => p _ _ H' (r.setOwn s hp hl hz ra) (own_vis r s hp)⟩
/-- a comprehension given to a name -/
theorem s_comp {st : Stmt} {i : Nat} {it : Ev → Rs (List PyData)} {t : Tg} {vs : List Nat} {cond : Ev → Rs Bool} {elt : Ev → Rs PyData} (hsl : ∀ i ∈ t.slots, i ∈ vs) (h : PS X st (tAsg (tLc (tJ X.kb F t it) (gE X.kb t) (tTE X.kb cond) (tPE X.kb elt) vs) (gName i))) : PS X st (tAsg (tN X.kb F (comp it t vs cond elt)) (gName i)) :=
  wkS h fun D σ H q => lc_read hsl σ H _ q
theorem s_newset {st : Stmt} {i : Nat} {f : Ev → Rs (List PyData)} (h : PS X st (tAsg (tN X.kb F f) (gName i))) : SP' X F st (sSet i (lst f)) := s_set (wkS h fun D σ H ⟨O, ρ, d, r, e, q⟩ => by
  obtain ⟨ds, ed, e⟩ := Rs.bnd_eq e
  cases e
  refine ⟨O, ρ, ds, r, ed, fun p xs H' s hp hl hz ra => q _ H' s (.list hz (.of (hide_of (fun z => ?_) hl)) (ra.mono np_le))⟩
  exact r.nlive z hp)
/-! what a slot's own list takes -/
theorem own_at {K : KB} {O : Own} {ρ : Ev} {σ : St} {H : Hp} {i : Nat} {ds : List PyData} (r : Rel K F O ρ σ H) (h : getC ρ i = some (.own ds)) : ds.length ≤ sizeLine ∧ ∃ a xs, O i = some a ∧ σ[i]? = some (some (.ref a)) ∧ H a = some (.lst xs) ∧ RA K.K (hide (NN F O) H) ds xs := r.slots i _ (getC_iff.mp h)
theorem s_app {st : Stmt} {i : Nat} {f : Ev → Rs PyData} (h : PS X st (tDrop (tBM X.K "list" rAppend (tVar i) (tCons (tP X.kb F f) tNil)))) : SP' X F st (sApp i f) := wkS h fun D σ H ⟨O, ρ, o, r, e, p⟩ => by
  unfold sApp at e
  split at e <;> first | (cases e; done) | skip
  rename_i ds hc
  obtain ⟨d, ed, e⟩ := Rs.bnd_eq e
  split at e <;> first | (cases e; done) | skip
  rename_i hz
  cases e
  obtain ⟨_, a, xs, h1, h2, h3, h4⟩ := own_at r hc
  refine ⟨_, h2, .inl ⟨rfl, xs, .of h3⟩, O, ρ, d, r, ed, fun v H' s r' => ?_⟩
  have h3' := s _ _ h3
  refine ⟨a, xs, v, rfl, rfl, h3', by rw [h4.len]; exact hz, ?_⟩
  obtain ⟨m1, m2⟩ := (r.mono s).mut (i := i) (xs := xs ++ [v]) (es := ds ++ [d]) (getC_iff.mp hc) h1 (by rw [List.length_append, List.length_singleton]; omega) ((h4.mono (hide_same s)).append (.cons r' .nil))
  exact p O _ _ m1 ((hide_same s).trans m2)
theorem s_setIx {st : Stmt} {i : Nat} {fi fe : Ev → Rs PyData} (h : PS X st (tAsg (tP X.kb F fe) (gSub (tVar i) (tP X.kb F fi) rSetL))) : SP' X F st (sSetIx i fi fe) := wkS h fun D σ H ⟨O, ρ, o, r, e, p⟩ => by
  unfold sSetIx at e
  split at e <;> first | (cases e; done) | skip
  rename_i ds hc
  obtain ⟨d, ed, e⟩ := Rs.bnd_eq e
  obtain ⟨k, ek, e⟩ := Rs.bnd_eq e
  obtain ⟨kk, ekk, e⟩ := Rs.bnd_eq e
  split at e <;> first | (cases e; done) | skip
  rename_i j hj
  cases e
  obtain ⟨hz, a, xs, h1, h2, h3, h4⟩ := own_at r hc
  refine ⟨O, ρ, d, r, ed, fun v H1 s1 r1 => ⟨_, h2, O, ρ, k, r.mono s1, ek, fun w H2 s2 r2 => ?_⟩⟩
  have s := s1.trans s2
  have ek' : w = .int kk := by
    cases k with
    | int q => cases ekk; exact r2.intV
    | _ => exact nomatch ekk
  refine ⟨a, xs, kk, j, rfl, ek', s _ _ h3, by rw [h4.len]; exact hj, ?_⟩
  obtain ⟨m1, m2⟩ := (r.mono s).mut (i := i) (xs := xs.set j v) (es := ds.set j d) (getC_iff.mp hc) h1 (by rw [List.length_set]; exact hz) ((h4.mono (hide_same s)).set (r1.mono (hide_same s2)) j)
  exact p O _ _ m1 ((hide_same s).trans m2)
theorem popAt_ok {K : PySem.W.Frag} {H : Hp} {ds : List PyData} {xs : List V} {k : Int} {p : PyData × List PyData} (t : RA K H ds xs) (e : popAt ds k = .ok p) : -(2 ^ 63) ≤ k ∧ k < 2 ^ 63 ∧ ∃ m y, seqIndex? k xs.length = some m ∧ xs[m]? = some y ∧ R K H p.1 y ∧ RA K H p.2 (xs.eraseIdx m) ∧ p.2.length ≤ ds.length := by
  unfold popAt at e
  split at e <;> first | (cases e; done) | skip
  rename_i hk
  split at e <;> first | (cases e; done) | skip
  rename_i m hm
  split at e <;> first | (cases e; done) | skip
  rename_i d hd
  cases e
  obtain ⟨y, h1, h2⟩ := t.get hd
  exact ⟨hk.1, hk.2, m, y, by rw [t.len]; exact hm, h1, h2, t.eraseIdx m, len_erase _ _⟩
theorem s_popAt {st : Stmt} {j i : Nat} {f : Ev → Rs PyData} (h : PS X st (tAsg (tBM X.K "list" rPopAt (tVar i) (tCons (tP X.kb F f) tNil)) (gName j))) : SP' X F st (sPopAt j i f) := wkS h fun D σ H ⟨O, ρ, o, r, e, p⟩ => by
  unfold sPopAt at e
  split at e <;> first | (cases e; done) | skip
  rename_i ds hc
  obtain ⟨k, ek, e⟩ := Rs.bnd_eq e
  obtain ⟨kk, ekk, e⟩ := Rs.bnd_eq e
  obtain ⟨q, eq, e⟩ := Rs.bnd_eq e
  cases e
  obtain ⟨hz, a, xs, h1, h2, h3, h4⟩ := own_at r hc
  refine ⟨_, h2, .inl ⟨rfl, xs, .of h3⟩, O, ρ, k, r, ek, fun w H1 s r1 => ?_⟩
  have ek' : w = .int kk := by
    cases k with
    | int q => cases ekk; exact r1.intV
    | _ => exact nomatch ekk
  obtain ⟨k1, k2, m, y, q1, q2, q3, q4, q5⟩ := popAt_ok (h4.mono (hide_same s)) eq
  refine ⟨a, xs, kk, m, y, rfl, by rw [ek'], s _ _ h3, k1, k2, q1, q2, ?_⟩
  obtain ⟨m1, m2⟩ := (r.mono s).mut (i := i) (xs := xs.eraseIdx m) (es := q.2) (getC_iff.mp hc) h1 (by omega) q4
  have g := got_one (i := j) m1 (q3.mono m2)
  exact p _ _ _ g.rel (((hide_same s).trans m2).trans g.vis)
theorem s_appPopAt {st : Stmt} {j i : Nat} {f : Ev → Rs PyData} (h : PS X st (tDrop (tBM X.K "list" rAppend (tVar j) (tCons (tBM X.K "list" rPopAt (tVar i) (tCons (tP X.kb F f) tNil)) tNil)))) : SP' X F st (sAppPopAt j i f) := wkS h fun D σ H ⟨O, ρ, o, r, e, p⟩ => by
  unfold sAppPopAt at e
  split at e <;> first | (cases e; done) | skip
  rename_i es hj
  split at e <;> first | (cases e; done) | skip
  rename_i ds hc
  obtain ⟨k, ek, e⟩ := Rs.bnd_eq e
  obtain ⟨kk, ekk, e⟩ := Rs.bnd_eq e
  obtain ⟨q, eq, e⟩ := Rs.bnd_eq e
  split at e <;> first | (cases e; done) | skip
  rename_i hes
  cases e
  obtain ⟨hz, a, xs, h1, h2, h3, h4⟩ := own_at r hc
  obtain ⟨hz', b, ys, g1, g2, g3, g4⟩ := own_at r hj
  have hab : b ≠ a := fun z => hes.2 (r.inj _ _ _ h1 (by rw [← z]; exact g1))
  refine ⟨_, g2, .inl ⟨rfl, ys, .of g3⟩, _, h2, .inl ⟨rfl, xs, .of h3⟩, O, ρ, k, r, ek, fun w H1 s r1 => ?_⟩
  have ek' : w = .int kk := by
    cases k with
    | int q => cases ekk; exact r1.intV
    | _ => exact nomatch ekk
  obtain ⟨k1, k2, m, y, q1, q2, q3, q4, q5⟩ := popAt_ok (h4.mono (hide_same s)) eq
  refine ⟨a, xs, kk, m, y, rfl, by rw [ek'], s _ _ h3, k1, k2, q1, q2, ?_⟩
  obtain ⟨m1, m2⟩ := (r.mono s).mut (i := i) (xs := xs.eraseIdx m) (es := q.2) (getC_iff.mp hc) h1 (by omega) q4
  have hj' : (ρ.set i (some (.own q.2)))[j]? = some (some (.own es)) := by rw [List.getElem?_set_ne hes.2]; exact getC_iff.mp hj
  refine ⟨b, ys, y, rfl, rfl, by rw [upd_ne hab]; exact s _ _ g3, by rw [g4.len]; exact hes.1, ?_⟩
  obtain ⟨n1, n2⟩ := m1.mut (i := j) (xs := ys ++ [y]) (es := es ++ [q.1]) hj' g1 (by rw [List.length_append, List.length_singleton]; omega) (((g4.mono (hide_same s)).mono m2).append (.cons (q3.mono m2) .nil))
  exact p O _ _ n1 (((hide_same s).trans m2).trans n2)
theorem s_aug {st : Stmt} {i : Nat} {op : Int → Int → Int} {f : Ev → Rs PyData} (h : PS X st (tAug i (tP X.kb F f) (ipI op))) : SP' X F st (sAug i op f) := wkS h fun D σ H ⟨O, ρ, o, r, e, p⟩ => by
  unfold sAug at e
  split at e <;> first | (cases e; done) | skip
  rename_i a hc
  obtain ⟨d, ed, e⟩ := Rs.bnd_eq e
  obtain ⟨b, eb, e⟩ := Rs.bnd_eq e
  cases e
  obtain ⟨v, h1, h2⟩ := r.slots i _ (getC_iff.mp hc)
  refine ⟨v, h1, O, ρ, d, r, ed, fun w H' s r' => ?_⟩
  have ew : w = .int b := by
    cases d with
    | int q => cases eb; exact r'.intV
    | _ => exact nomatch eb
  refine ⟨a, b, h2.intV, ew, ?_⟩
  have g := got_one (i := i) (d := .int (op a b)) (v := .int (op a b)) (r.mono s) .int
  exact p _ _ H' g.rel ((hide_same s).trans g.vis)

/-! loops -/
theorem s_for {tg iter : Expr} {body : List Stmt} {t : Tg} {it : Ev → Rs (List PyData)} {f : Ev → Rs Out} {pos : Pos} (hp : PassesOwn (model X.prog X.w) X.A X.env X.xe) (hc : X.calm = true) (hi : PI X tg iter (tI X.kb F t it)) (hg : PG X tg (gP X.kb F t)) (hb : SSP' X F body f)
    (hs : ∀ x, foldedSetIterable iter X.env x = pure x := by intro _; rfl) : SP' X F (.For tg iter body [] pos) (sFor it t f) := wkS (ps_for hp hc hi hg hb hs) fun D σ H ⟨O, ρ, o, r, e, p⟩ => by
  obtain ⟨ds, ed, e⟩ := Rs.bnd_eq e
  refine ⟨O, ρ, ds, r, ed, fun J H1 s1 w => ?_⟩
  have p1 := p.from (hide_same s1)
  let P : Nat → St → Hp → Prop := fun i σ H => ∃ O' ρ', Rel X.kb F O' ρ' σ H ∧ Same (hide (NN F O) H1) (hide (NN F O') H) ∧ forL t f (ds.drop i) ρ' = .ok o ∧ i ≤ ds.length
  refine ⟨fun i m σ H => m = ds.length - i ∧ P i σ H, ⟨_, rfl, O, ρ, r.mono s1, Same.refl _, by rw [List.drop_zero]; exact e, Nat.zero_le _⟩, ?_⟩
  rintro i m σ2 H2 ⟨rfl, O', ρ', r2, v2, e2, hi2⟩
  have vis2 : Same (hide (NN F O) H1) H2 := v2.trans hide_le
  by_cases hlt : i < ds.length
  · refine .inr ⟨w.go H2 i vis2 hlt, P (i + 1), fun σ' H' q => ⟨_, by omega, rfl, q⟩, fun x H3 y => ?_⟩
    obtain ⟨s3, d, edd, rd⟩ := w.yld H2 i x H3 vis2 hlt y
    have edrop : ds.drop i = d :: ds.drop (i + 1) := by
      rw [List.drop_eq_getElem_cons hlt]
      rw [List.getElem?_eq_getElem hlt] at edd
      rw [Option.some.inj edd]
    rw [edrop] at e2
    unfold forL at e2
    obtain ⟨ρ1, e3, e2⟩ := Rs.bnd_eq e2
    obtain ⟨o1, e4, e2⟩ := Rs.bnd_eq e2
    refine ⟨O', ρ', d, ρ1, r2.mono s3, rd _ (fun a z => r2.nlive z) v2, e3, fun O4 σ4 g => ⟨O4, ρ1, o1, g.rel, e4, ?_⟩⟩
    have v4 := (v2.trans (hide_same s3)).trans g.vis
    cases o1 with
    | nx ρ5 => exact fun O5 σ5 H5 r5 v5 => ⟨O5, ρ5, r5, v4.trans v5, e2, hlt⟩
    | ct ρ5 => exact fun O5 σ5 H5 r5 v5 => ⟨O5, ρ5, r5, v4.trans v5, e2, hlt⟩
    | bk ρ5 => cases e2; exact p1.from v4
    | rt d => cases e2; exact p1
    | xc ρ5 c fs => cases e2; exact p1.from v4
    | rn ds => cases e2; exact p1
    | ro ρ d => cases e2; exact p1
  · have ei : i = ds.length := by omega
    subst ei
    rw [List.drop_length] at e2
    cases e2
    exact .inl ⟨w.stop H2 vis2, p1 O' σ2 H2 r2 v2⟩
theorem s_while {c : Expr} {body : List Stmt} {g : Ev → Rs Bool} {f : Ev → Rs Out} {pos : Pos} (n : Nat) (hp : PassesOwn (model X.prog X.w) X.A X.env X.xe) (hc : TP' X F c g) (hb : SSP' X F body f) : SP' X F (.While c body [] pos) (whL g f n) := wkS (ps_while hp hc hb) fun D σ H ⟨O, ρ, o, r, e, p⟩ => by
  let P : Nat → St → Hp → Prop := fun m σ' H' => ∃ O' ρ', Rel X.kb F O' ρ' σ' H' ∧ Same (hide (NN F O) H) (hide (NN F O') H') ∧ whL g f m ρ' = .ok o
  refine ⟨P, ⟨n, O, ρ, r, Same.refl _, e⟩, ?_⟩
  rintro m σ2 H2 ⟨O', ρ', r2, v2, e2⟩
  cases m with
  | zero => exact nomatch e2
  | succ m =>
    unfold whL at e2
    obtain ⟨b, e3, e2⟩ := Rs.bnd_eq e2
    refine ⟨O', ρ', b, r2, e3, fun H3 s3 => ?_⟩
    have v3 := v2.trans (hide_same s3)
    cases b with
    | true =>
      simp only [if_true] at e2 ⊢
      obtain ⟨o1, e4, e2⟩ := Rs.bnd_eq e2
      refine ⟨P m, fun σ' H' q => ⟨m, Nat.lt_succ_self m, q⟩, O', ρ', o1, r2.mono s3, e4, ?_⟩
      cases o1 with
      | nx ρ5 => exact fun O5 σ5 H5 r5 v5 => ⟨O5, ρ5, r5, v3.trans v5, e2⟩
      | ct ρ5 => exact fun O5 σ5 H5 r5 v5 => ⟨O5, ρ5, r5, v3.trans v5, e2⟩
      | bk ρ5 => cases e2; exact p.from v3
      | rt d => cases e2; exact p
      | xc ρ5 c fs => cases e2; exact p.from v3
      | rn ds => cases e2; exact p
      | ro ρ d => cases e2; exact p
    | false =>
      simp only [Bool.false_eq_true, if_false] at e2 ⊢
      cases e2
      exact p O' σ2 H3 (r2.mono s3) v3
end
end PL


/-! PL7: tests, choices, calls of own defs, a def from its body, the law's end -/
namespace PL
open PySem PySem.Spec PyProof.Rows L2

def tru (f : Ev → Rs PyData) : Ev → Rs Bool := fun ρ => (f ρ).bnd truD
def tNot' (g : Ev → Rs Bool) : Ev → Rs Bool := fun ρ => (g ρ).bnd fun b => .ok (!b)
def tAnd' (a b : Ev → Rs Bool) : Ev → Rs Bool := fun ρ => (a ρ).bnd fun c => if c = true then b ρ else .ok false
def tOr' (a b : Ev → Rs Bool) : Ev → Rs Bool := fun ρ => (a ρ).bnd fun c => if c = true then .ok true else b ρ
def notV (f : Ev → Rs PyData) : Ev → Rs PyData := fun ρ => (f ρ).bnd fun d => (isB d).bnd fun b => .ok (.bool (!b))
def andV (f g : Ev → Rs PyData) : Ev → Rs PyData := fun ρ => (f ρ).bnd fun d => (isB d).bnd fun b => if b = true then g ρ else .ok (.bool false)
def orV (f g : Ev → Rs PyData) : Ev → Rs PyData := fun ρ => (f ρ).bnd fun d => (isB d).bnd fun b => if b = true then .ok (.bool true) else g ρ
def ifE (g : Ev → Rs Bool) (a b : Ev → Rs PyData) : Ev → Rs PyData := fun ρ => (g ρ).bnd fun c => if c = true then a ρ else b ρ
def chain (o1 o2 : PyData → PyData → Rs PyData) (fa fb fc : Ev → Rs PyData) : Ev → Rs PyData := fun ρ => (fa ρ).bnd fun a => (fb ρ).bnd fun b => (o1 a b).bnd fun k => (isB k).bnd fun k => if k = true then (fc ρ).bnd fun c => o2 b c else .ok (.bool false)
section
variable {X : Cx} {F : FC}
theorem tru_v {K : PySem.W.Frag} {H : Hp} {d : PyData} {v : V} {b : Bool} (r : R K H d v) (e : truD d = .ok b) : TruV K v H b := by
  cases d with
  | none => cases e; rw [r.noneV]; rfl
  | bool c => cases e; rw [r.boolV]; rfl
  | int i => cases e; rw [r.intV]; rfl
  | str x => exact nomatch e
  | list ds =>
    cases e
    obtain ⟨z, a, xs, rfl, h1, t1⟩ := r.listV
    refine .inl ⟨xs, h1, ?_⟩
    have := t1.len
    cases ds <;> cases xs <;> first | rfl | (simp at this)
  | tuple ds =>
    cases e
    obtain ⟨z, a, xs, rfl, h1, t1⟩ := r.tupV
    refine .inr (.inl ⟨xs, h1, ?_⟩)
    have := t1.len
    cases ds <;> cases xs <;> first | rfl | (simp at this)
  | dict _ => exact nomatch e
theorem t_tru {e : Expr} {f : Ev → Rs PyData} (h : EP' X F e f) (he : ∀ whole, isTrue e X.env whole = (do let v ← whole; standAt e.pos; holding [v] (truthy v)) := by intro _; rfl) : TP' X F e (tru f) := wkT (pt_truth h he) fun σ H Q ⟨O, ρ, b, r, e, q⟩ => by
  obtain ⟨d, ed, e⟩ := Rs.bnd_eq e
  exact ⟨O, ρ, d, r, ed, fun v H' s r' => ⟨b, tru_v (r'.mono hide_le) e, q H' s⟩⟩
theorem t_not {e : Expr} {g : Ev → Rs Bool} {pos : Pos} (h : TP' X F e g) : TP' X F (.UnaryOp .Not e pos) (tNot' g) := wkT (pt_not h) fun σ H Q ⟨O, ρ, b, r, e, q⟩ => by
  obtain ⟨c, ec, e⟩ := Rs.bnd_eq e
  cases e
  exact ⟨O, ρ, c, r, ec, fun H' s => q H' s⟩
abbrev WP' (X : Cx) (F : FC) (e : Expr) (g : Ev → Rs Bool) : Prop := PW X e (tT X.kb F g)
theorem w_and1 {a : Expr} {g : Ev → Rs Bool} {pos : Pos} (h : TP' X F a g) : WP' X F (.BoolOp .And [a] pos) g := pw_and1 h
theorem w_or1 {a : Expr} {g : Ev → Rs Bool} {pos : Pos} (h : TP' X F a g) : WP' X F (.BoolOp .Or [a] pos) g := pw_or1 h
theorem w_and {a b : Expr} {rest : List Expr} {g h : Ev → Rs Bool} {pos : Pos} (ha : TP' X F a g) (hb : WP' X F (.BoolOp .And (b :: rest) pos) h) : WP' X F (.BoolOp .And (a :: b :: rest) pos) (tAnd' g h) := wkW (pw_and ha hb) fun σ H Q ⟨O, ρ, c, r, e, q⟩ => by
  obtain ⟨b, eb, e⟩ := Rs.bnd_eq e
  refine ⟨O, ρ, b, r, eb, fun H' s => ?_⟩
  cases b with
  | true => exact ⟨O, ρ, c, r.mono s, e, fun H2 s2 => q H2 (s.trans s2)⟩
  | false => cases e; exact q H' s
theorem w_or {a b : Expr} {rest : List Expr} {g h : Ev → Rs Bool} {pos : Pos} (ha : TP' X F a g) (hb : WP' X F (.BoolOp .Or (b :: rest) pos) h) : WP' X F (.BoolOp .Or (a :: b :: rest) pos) (tOr' g h) := wkW (pw_or ha hb) fun σ H Q ⟨O, ρ, c, r, e, q⟩ => by
  obtain ⟨b, eb, e⟩ := Rs.bnd_eq e
  refine ⟨O, ρ, b, r, eb, fun H' s => ?_⟩
  cases b with
  | false => exact ⟨O, ρ, c, r.mono s, e, fun H2 s2 => q H2 (s.trans s2)⟩
  | true => cases e; exact q H' s
theorem t_w {e : Expr} {g : Ev → Rs Bool} (h : WP' X F e g) : TP' X F e g := h.pt
theorem p_not {e : Expr} {f : Ev → Rs PyData} {pos : Pos} (h : EP' X F e f) : EP' X F (.UnaryOp .Not e pos) (notV f) := wkE (pe_not h) fun σ H Q ⟨O, ρ, d, r, e, q⟩ => by
  obtain ⟨c, ec, e⟩ := Rs.bnd_eq e
  obtain ⟨b, eb, e⟩ := Rs.bnd_eq e
  cases e
  exact ⟨O, ρ, c, r, ec, fun v H' s r' => ⟨b, r'.isB eb, q _ H' s .bool⟩⟩
theorem p_one {op : BoolOp} {e : Expr} {f : Ev → Rs PyData} {pos : Pos} (h : EP' X F e f) : EP' X F (.BoolOp op [e] pos) f := pe_one h
theorem p_and {a b : Expr} {rest : List Expr} {f g : Ev → Rs PyData} {pos : Pos} (ha : EP' X F a f) (hb : EP' X F (.BoolOp .And (b :: rest) pos) g) : EP' X F (.BoolOp .And (a :: b :: rest) pos) (andV f g) := wkE (pe_and ha hb) fun σ H Q ⟨O, ρ, d, r, e, q⟩ => by
  obtain ⟨c, ec, e⟩ := Rs.bnd_eq e
  obtain ⟨b, eb, e⟩ := Rs.bnd_eq e
  refine ⟨O, ρ, c, r, ec, fun v H' s r' => ⟨b, r'.isB eb, ?_⟩⟩
  cases b with
  | true => exact ⟨O, ρ, d, r.mono s, e, fun w H2 s2 r2 => q w H2 (s.trans s2) r2⟩
  | false => cases e; exact q _ H' s .bool
theorem p_or {a b : Expr} {rest : List Expr} {f g : Ev → Rs PyData} {pos : Pos} (ha : EP' X F a f) (hb : EP' X F (.BoolOp .Or (b :: rest) pos) g) : EP' X F (.BoolOp .Or (a :: b :: rest) pos) (orV f g) := wkE (pe_or ha hb) fun σ H Q ⟨O, ρ, d, r, e, q⟩ => by
  obtain ⟨c, ec, e⟩ := Rs.bnd_eq e
  obtain ⟨b, eb, e⟩ := Rs.bnd_eq e
  refine ⟨O, ρ, c, r, ec, fun v H' s r' => ⟨b, r'.isB eb, ?_⟩⟩
  cases b with
  | false => exact ⟨O, ρ, d, r.mono s, e, fun w H2 s2 r2 => q w H2 (s.trans s2) r2⟩
  | true => cases e; exact q _ H' s .bool
theorem p_if {c a b : Expr} {g : Ev → Rs Bool} {f1 f2 : Ev → Rs PyData} {pos : Pos} (hc : TP' X F c g) (ha : EP' X F a f1) (hb : EP' X F b f2) : EP' X F (.IfExp c a b pos) (ifE g f1 f2) := wkE (pe_ifExp hc ha hb) fun σ H Q ⟨O, ρ, d, r, e, q⟩ => by
  obtain ⟨b, eb, e⟩ := Rs.bnd_eq e
  refine ⟨O, ρ, b, r, eb, fun H' s => ?_⟩
  cases b with
  | true => exact ⟨O, ρ, d, r.mono s, e, fun w H2 s2 r2 => q w H2 (s.trans s2) r2⟩
  | false => exact ⟨O, ρ, d, r.mono s, e, fun w H2 s2 r2 => q w H2 (s.trans s2) r2⟩
theorem to_chain {K : KB} {o1 o2 : PyData → PyData → Rs PyData} {fa fb fc : Ev → Rs PyData} {σ : St} {H : Hp} {Q : VK} (h : tP K F (chain o1 o2 fa fb fc) σ H Q) : tChain (rP2 K.K o1) (rP2 K.K o2) (tP K F fa) (tP K F fb) (tP K F fc) σ H Q := by
  obtain ⟨O, ρ, d, r, e, q⟩ := h
  obtain ⟨a, ea, e⟩ := Rs.bnd_eq e
  obtain ⟨b, eb, e⟩ := Rs.bnd_eq e
  obtain ⟨k, ek, e⟩ := Rs.bnd_eq e
  obtain ⟨kb, ekb, e⟩ := Rs.bnd_eq e
  refine ⟨O, ρ, a, r, ea, fun x H1 s1 r1 => ⟨O, ρ, b, r.mono s1, eb, fun y H2 s2 r2 => ⟨NN F O, a, b, k, fun z n => ((r.mono s1).mono s2).nlive n, r1.mono (hide_same s2), r2, ek, fun z H3 s3 r3 => ⟨kb, r3.isB ekb, ?_⟩⟩⟩⟩
  have s13 := (s1.trans s2).trans s3
  cases kb with
  | true =>
    simp only [if_true] at e ⊢
    obtain ⟨c, ec, e⟩ := Rs.bnd_eq e
    exact ⟨O, ρ, c, r.mono s13, ec, fun w H4 s4 r4 => ⟨NN F O, b, c, d, fun z n => ((r.mono s13).mono s4).nlive n, r2.mono (hide_same (s3.trans s4)), r4, e, fun v H5 s5 r5 => q v H5 ((s13.trans s4).trans s5) r5⟩⟩
  | false =>
    simp only [Bool.false_eq_true, if_false] at e ⊢
    cases e
    exact q _ H3 s13 .bool
theorem p_chain {op op' : CmpOp} {o1 o2 : PyData → PyData → Rs PyData} {a b c : Expr} {fa fb fc : Ev → Rs PyData} {pos : Pos} (h1 : OpR X (compareOp op) (rP2 X.K o1)) (h2 : OpR X (compareOp op') (rP2 X.K o2)) (ha : EP' X F a fa) (hb : EP' X F b fb) (hc : EP' X F c fc)
    (hm : lastMarks [op, op'] [b, c] = false := by with_unfolding_all rfl) : EP' X F (.Compare a [op, op'] [b, c] pos) (chain o1 o2 fa fb fc) := wkE (pe_chain h1 h2 ha hb hc hm) fun _ _ _ h => to_chain h
theorem t_chain {op op' : CmpOp} {o1 o2 : PyData → PyData → Rs PyData} {a b c : Expr} {fa fb fc : Ev → Rs PyData} {pos : Pos} (h1 : OpR X (compareOp op) (rP2 X.K o1)) (h2 : OpR X (compareOp op') (rP2 X.K o2)) (ha : EP' X F a fa) (hb : EP' X F b fb) (hc : EP' X F c fc)
    (hm : lastMarks [op, op'] [b, c] = false := by with_unfolding_all rfl) : TP' X F (.Compare a [op, op'] [b, c] pos) (tB' (chain o1 o2 fa fb fc)) := wkT (pt_chain h1 h2 ha hb hc hm) fun σ H Q ⟨O, ρ, b, r, e, q⟩ => by
  obtain ⟨x, ex, e⟩ := Rs.bnd_eq e
  exact to_chain ⟨O, ρ, x, r, ex, fun v H' s r' => ⟨b, r'.isB e, q H' s⟩⟩
end

/-! ### own defs -/
def spP (K : PySem.W.Frag) (n : Nat) (G : List PyData → Rs PyData) : Sp := fun vs H Q _ => ∃ (hid : Addr → Prop) (ds : List PyData) (d : PyData), (∀ a, hid a → H a ≠ none) ∧ RA K (hide hid H) ds vs ∧ ds.length = n ∧ G ds = .ok d ∧ ∀ v H', Same H H' → R K (hide hid H') d v → Q v H'
theorem p_call {X : Cx} {F : FC} {k n : Nat} {f : Addr} {fd : FuncData} {ps : List Str} {G : List PyData → Rs PyData} {x : Str} {p pos : Pos} {e : Expr} {es : List Expr} {g : Ev → Rs (List PyData)} (Fn : FnOk X.prog X.w X.K X.mg X.base CX0 k f fd ps (spP X.K n G)) (hr : Room k X.A) (hg : Gl X x) (hm : X.mg x = some (.ref f)) (hk : PySem.W.keepIn X.K (.ref f) = true) (hb : Binds X.K fd ps [])
    (ha : AP' X F (e :: es) (fun ρ => (g ρ).bnd fun ds => if ds.length = n then .ok ds else .no)) (hdb : (x == ("__debug__" : Str)) = false := by decide) (he : starEach (e :: es) X.env = (false, eval e X.env) :: starEach es X.env := by rfl) (hpl : (backTo pos (starEach es X.env)).any (·.1) = false := by rfl) :
    EP' X F (.Call (.Name x p) (e :: es) [] pos) (apC G (fun ρ => (g ρ).bnd fun ds => if ds.length = n then .ok ds else .no)) :=
  wkE (pe_call Fn hr hg hm hk hb .nil pass0 ha hdb he hpl) fun σ H Q ⟨O, ρ, d, r, e, q⟩ => by
    obtain ⟨a, ea, e⟩ := Rs.bnd_eq e
    refine ⟨O, ρ, a, r, ea, fun vs H1 s1 r1 => ⟨NN F O, a, d, fun z n => (r.mono s1).nlive n, by rw [List.append_nil]; exact r1, ?_, e, fun v H' s3 r3 => q v H' (s1.trans s3) r3⟩⟩
    obtain ⟨b, eb, e3⟩ := Rs.bnd_eq ea
    split at e3 <;> first | (cases e3; done) | skip
    cases e3
    assumption
def startE (n : Nat) (ds : List PyData) : Ev := ds.map (fun d => some (.pub d)) ++ List.replicate (n - ds.length) none
def run (n : Nat) (body : Ev → Rs Out) (ds : List PyData) : Rs PyData := match body (startE n ds) with
  | .ok (.rt d) => .ok d
  | .ok (.nx _) => .ok .none
  | .ok (.xc _ c fs) => .ex c fs
  | .ok (.rn ds) => .ok (.list ds)
  | _ => .no
theorem start_rel {K : KB} {F : FC} {hid : Addr → Prop} {H : Hp} {ds : List PyData} {vs : List V} {N : List Str} (hl : ∀ a, hid a → H a ≠ none) (t : RA K.K (hide hid H) ds vs) (hn : ds.length ≤ N.length) (hF : F.hid = hid := by rfl) (hF0 : F.H0 = H := by rfl) (hN : N.length ≤ 1000 := by assumption) (hfx : F.fix = (fun _ => none) := by rfl) : Rel K F (fun _ => none) (startE N.length ds) (L2.start N vs) H := by
  subst hF hF0
  have e := t.len
  refine ⟨by (unfold startE L2.start; simp [e]), (fun i j a h => nomatch h), (fun i a h => nomatch h), hl, (fun a x h => ⟨h, fun i z => nomatch z⟩), fun i c q => ?_, ⟨by (unfold startE; simp; omega), (fun i a c e => by rw [hfx] at e; cases e), fun i j k c e1 e2 => ?_⟩⟩
  have vis : NN F (fun _ => none) = F.hid := funext fun a => propext ⟨fun h => h.elim id (fun ⟨_, z⟩ => absurd z (by simp)), Or.inl⟩
  by_cases hi : i < ds.length
  · have q' : (ds.map fun d => some (Cell.pub d))[i]? = some (some c) := by
      unfold startE at q
      rw [List.getElem?_append_left (by simpa using hi)] at q
      exact q
    rw [List.getElem?_map, List.getElem?_eq_getElem hi] at q'
    cases q'
    obtain ⟨v, h1, h2⟩ := t.get (List.getElem?_eq_getElem hi)
    refine ⟨v, ?_, by rw [vis]; exact h2⟩
    unfold L2.start
    rw [List.getElem?_append_left (by rw [List.length_map, e]; exact hi), List.getElem?_map, h1]; rfl
  · unfold startE at q
    rw [List.getElem?_append_right (by simpa using hi), List.getElem?_replicate] at q
    split at q <;> first | exact nomatch q | (cases q; done) | skip
  · have no : ∀ {i : Nat} {c : Cell}, (startE N.length ds)[i]? = some (some c) → ∃ d, c = .pub d := fun {i c} q => by
      unfold startE at q
      by_cases hi : i < ds.length
      · rw [List.getElem?_append_left (by simpa using hi), List.getElem?_map, List.getElem?_eq_getElem hi] at q
        cases q; exact ⟨_, rfl⟩
      · rw [List.getElem?_append_right (by simpa using hi), List.getElem?_replicate] at q
        split at q <;> first | exact nomatch q | (cases q; done) | skip
    obtain ⟨d, e⟩ := no e1
    exact nomatch e
/-- THE RULE for a def: its body's function -/
theorem fn_rule {P : Program} {w : World} {K : PySem.W.Frag} {mg : Str → Option Value} {base : Heap} {x qual : Str} {st : Stmt} {f : Addr} {fd : FuncData} {N ps : List Str} {k : Nat} {body : Ev → Rs Out} (Fn : Fun K x qual st f fd) (S : FnScope N ps (defScope st)) (hn : ps.length ≤ N.length) (hN : N.length ≤ 1000)
    (hb : ∀ (cdv : Value) (A : Around) (outer : List Env) (s : Shared) (H : Hp) (E : XK) (F : FC), Room k (A.deeper (envOfC qual (defScope st) s.heap.objs.size f cdv)) → Calm F → PSs (cxOf CX0 P w K mg base N qual (defScope st) f cdv A outer s H E).nox (defBody st) (tS ⟨K, P, w⟩ F body)) :
    FnOk P w K mg base CX0 (k + 1) f fd ps (spP K ps.length (run N.length body)) := by
  refine Fn.ok S (fun vs H Q E h => ?_) (fun cdv A outer s H vs Q E hr h => ?_)
  · obtain ⟨hid, ds, d, h1, h2, h3, _⟩ := h
    rw [h2.len, h3]
  · obtain ⟨hid, ds, d, h1, h2, h3, h4, q⟩ := h
    refine ⟨_, hb cdv A outer s H E { hid := hid, H0 := H } hr rfl, ?_⟩
    unfold run at h4
    split at h4 <;> first | (cases h4; done) | skip
    · rename_i d' eo
      cases h4
      exact ⟨fun _ => none, startE N.length ds, _, start_rel (F := { hid := hid, H0 := H }) h1 h2 (by omega), eo, fun v H' s r' => q v H' s r'⟩
    · rename_i ρ' eo
      cases h4
      exact ⟨fun _ => none, startE N.length ds, _, start_rel (F := { hid := hid, H0 := H }) h1 h2 (by omega), eo, fun O' σ' H' r' v' => q _ H' r'.h0 .none⟩
    · rename_i es eo
      cases h4
      exact ⟨fun _ => none, startE N.length ds, _, start_rel (F := { hid := hid, H0 := H }) h1 h2 (by omega), eo, fun p xs H' s hp hh hl hz ra => q _ H' s (.list hz (.of (hide_of hh hl)) (ra.mono (hide_anti fun a z => .inl z)))⟩
/-- the promise of a def that gives a new list -/
def spN (K : PySem.W.Frag) (n : Nat) (G : List PyData → Rs (List PyData)) : Sp := fun vs H Q _ => ∃ (hid : Addr → Prop) (ds es : List PyData), (∀ a, hid a → H a ≠ none) ∧ RA K (hide hid H) ds vs ∧ ds.length = n ∧ G ds = .ok es ∧ ∀ p xs H', Same H H' → H p = none → H' p = some (.lst xs) → es.length ≤ sizeLine → RA K (hide (nP hid p) H') es xs → Q (.ref p) H'
def runN (n : Nat) (body : Ev → Rs Out) (ds : List PyData) : Rs (List PyData) := match body (startE n ds) with
  | .ok (.rn es) => .ok es
  | _ => .no
theorem fn_ruleN {P : Program} {w : World} {K : PySem.W.Frag} {mg : Str → Option Value} {base : Heap} {x qual : Str} {st : Stmt} {f : Addr} {fd : FuncData} {N ps : List Str} {k : Nat} {body : Ev → Rs Out} (Fn : Fun K x qual st f fd) (S : FnScope N ps (defScope st)) (hn : ps.length ≤ N.length) (hN : N.length ≤ 1000)
    (hb : ∀ (cdv : Value) (A : Around) (outer : List Env) (s : Shared) (H : Hp) (E : XK) (F : FC), Room k (A.deeper (envOfC qual (defScope st) s.heap.objs.size f cdv)) → Calm F → PSs (cxOf CX0 P w K mg base N qual (defScope st) f cdv A outer s H E).nox (defBody st) (tS ⟨K, P, w⟩ F body)) :
    FnOk P w K mg base CX0 (k + 1) f fd ps (spN K ps.length (runN N.length body)) := by
  refine Fn.ok S (fun vs H Q E h => ?_) (fun cdv A outer s H vs Q E hr h => ?_)
  · obtain ⟨hid, ds, d, h1, h2, h3, _⟩ := h
    rw [h2.len, h3]
  · obtain ⟨hid, ds, d, h1, h2, h3, h4, q⟩ := h
    refine ⟨_, hb cdv A outer s H E { hid := hid, H0 := H } hr rfl, ?_⟩
    unfold runN at h4
    split at h4 <;> first | (cases h4; done) | skip
    rename_i es eo
    cases h4
    exact ⟨fun _ => none, startE N.length ds, _, start_rel (F := { hid := hid, H0 := H }) h1 h2 (by omega), eo, fun p xs H' s hp hh hl hz ra => q p xs H' s hp hl hz ra⟩
/-- the law: from its function's value -/
theorem law_sp {K : PySem.W.Frag} {H : Hp} {a : Addr} {ns : List Int} {G : List PyData → Rs PyData} (hz : ns.length ≤ 63) (h : SqL K H a (ns.map V.int)) (e : G [.list (ns.map .int)] = .ok (.bool true)) : spP K 1 G [.ref a] H (fun v _ => v = .bl true) fun _ _ _ => False := by
  have vis : Same H (hide (fun _ => False) H) := fun b o e => hide_of (fun z => z) e
  refine ⟨fun _ => False, [.list (ns.map .int)], .bool true, fun _ z => z.elim, .cons (.list (by rw [List.length_map, sizeLine_eq]; omega) (vis.seq h) RA.ints) .nil, rfl, e, fun v H' s r => r.boolV⟩
end PL


/-! PL8: argument lists of known length, reads of a slot's own list, constants of the module -/
namespace PL
open PySem PySem.Spec PyProof.Rows L2

/-- g gives n values -/
def Ln (n : Nat) (g : Ev → Rs (List PyData)) : Prop := ∀ ρ ds, g ρ = .ok ds → ds.length = n
theorem ln0 : Ln 0 aN := fun ρ ds e => by cases e; rfl
theorem lnS {n : Nat} {f : Ev → Rs PyData} {g : Ev → Rs (List PyData)} (h : Ln n g) : Ln (n + 1) (aC f g) := fun ρ ds e => by
  obtain ⟨a, ea, e⟩ := Rs.bnd_eq e
  obtain ⟨b, eb, e⟩ := Rs.bnd_eq e
  cases e
  rw [List.length_cons, h ρ b eb]
def tupE (g : Ev → Rs (List PyData)) : Ev → Rs PyData := fun ρ => (g ρ).bnd fun ds => .ok (.tuple ds)
theorem small_n {n : Nat} (h : n ≤ 1000) : n ≤ sizeLine := by rw [sizeLine_eq]; omega
section
variable {X : Cx} {F : FC}
theorem e_tup {es : List Expr} {k n : Nat} {g : Ev → Rs (List PyData)} {pos : Pos} (h : AP' X F es g) (hl : Ln n g) (hn : n ≤ 1000 := by decide) : EP' X F (.Tuple es k pos) (tupE g) :=
  wkE (pe_tupN h) fun σ H Q ⟨O, ρ, d, r, e, q⟩ => by
    obtain ⟨ds, ex, e⟩ := Rs.bnd_eq e
    cases e
    have hz : ds.length ≤ sizeLine := by rw [hl ρ ds ex]; exact small_n hn
    exact ⟨O, ρ, ds, r, ex, fun vs H1 s1 r1 => ⟨by rw [r1.len]; exact hz, fun p o hp ho => q _ _ (s1.trans (same_upd hp)) (newT ho (fun a z => (r.mono s1).nlive z) hp hz r1)⟩⟩
theorem e_lst {es : List Expr} {n : Nat} {g : Ev → Rs (List PyData)} {pos : Pos} (h : AP' X F es g) (hl : Ln n g) (hn : n ≤ 1000 := by decide) : NP' X F (.List es pos) g :=
  wkE (pe_lst h) fun σ H Q ⟨O, ρ, ds, r, ex, q⟩ => by
    have hz : ds.length ≤ sizeLine := by rw [hl ρ ds ex]; exact small_n hn
    exact ⟨O, ρ, _, r, ex, fun vs H1 s1 r1 => ⟨by rw [r1.len]; exact hz, fun p hp => q p vs _ (s1.trans (same_upd hp)) (s1.free hp) upd_same hz (newP hp r1)⟩⟩
theorem e_call {k n : Nat} {f : Addr} {fd : FuncData} {ps : List Str} {G : List PyData → Rs PyData} {x : Str} {p pos : Pos} {e : Expr} {es : List Expr} {g : Ev → Rs (List PyData)} (Fn : FnOk X.prog X.w X.K X.mg X.base CX0 k f fd ps (spP X.K n G)) (hr : Room k X.A) (hm : X.mg x = some (.ref f)) (hk : PySem.W.keepIn X.K (.ref f) = true) (hb : Binds X.K fd ps [])
    (ha : AP' X F (e :: es) g) (hl : Ln n g) (hg : Gl X x := by rfl) (hdb : (x == ("__debug__" : Str)) = false := by decide) (he : starEach (e :: es) X.env = (false, eval e X.env) :: starEach es X.env := by rfl) (hpl : (backTo pos (starEach es X.env)).any (·.1) = false := by rfl) :
    EP' X F (.Call (.Name x p) (e :: es) [] pos) (apC G g) :=
  wkE (pe_call Fn hr hg hm hk hb .nil pass0 ha hdb he hpl) fun σ H Q ⟨O, ρ, d, r, e, q⟩ => by
    obtain ⟨a, ea, e⟩ := Rs.bnd_eq e
    exact ⟨O, ρ, a, r, ea, fun vs H1 s1 r1 => ⟨NN F O, a, d, fun z n => (r.mono s1).nlive n, by rw [List.append_nil]; exact r1, hl ρ a ea, e, fun v H' s3 r3 => q v H' (s1.trans s3) r3⟩⟩

/-! a slot's own list, read where it stands -/
def tW (K : KB) (F : FC) (f : Ev → Rs PyData) : TE := fun σ H Q => ∃ O ρ d, Rel K F O ρ σ H ∧ f ρ = .ok d ∧ ∀ v H', Same H H' → R K.K H' d v → Q v H'
abbrev WE' (X : Cx) (F : FC) (e : Expr) (f : Ev → Rs PyData) : Prop := PE X e (tW X.kb F f)
def ownV (i : Nat) : Ev → Rs PyData := fun ρ => (ownL i ρ).bnd fun ds => .ok (.list ds)
theorem no_hide {K : PySem.W.Frag} {H : Hp} {d : PyData} {v : V} (r : R K H d v) : R K (hide (fun _ => False) H) d v := r.mono fun _ _ e => hide_of (fun z => z) e
theorem w_own {x : Str} {pos : Pos} (i : Nat) (h : PE X (.Name x pos) (tVar i)) : WE' X F (.Name x pos) (ownV i) := wkE h fun σ H Q ⟨O, ρ, d, r, e, q⟩ => by
  obtain ⟨ds, ed, e⟩ := Rs.bnd_eq e
  cases e
  unfold ownL at ed
  split at ed <;> first | (cases ed; done) | skip
  rename_i hc
  cases ed
  obtain ⟨hz, a, xs, h1, h2, h3, h4⟩ := own_at r hc
  exact ⟨_, h2, q _ H (Same.refl H) (.list hz (.of h3) (h4.mono hide_le))⟩
theorem w_p {e : Expr} {f : Ev → Rs PyData} (h : EP' X F e f) : WE' X F e f := wkE h fun σ H Q ⟨O, ρ, d, r, e, q⟩ => ⟨O, ρ, d, r, e, fun v H' s r' => q v H' s (r'.mono hide_le)⟩
theorem wt_tru {e : Expr} {f : Ev → Rs PyData} (h : WE' X F e f) (he : ∀ whole, isTrue e X.env whole = (do let v ← whole; standAt e.pos; holding [v] (truthy v)) := by intro _; rfl) : TP' X F e (tru f) := wkT (pt_truth h he) fun σ H Q ⟨O, ρ, b, r, e, q⟩ => by
  obtain ⟨d, ed, e⟩ := Rs.bnd_eq e
  exact ⟨O, ρ, d, r, ed, fun v H' s r' => ⟨b, tru_v r' e, q H' s⟩⟩
/-- a value that stands on no heap -/
def flatD : PyData → Rs PyData
  | .none => .ok .none
  | .bool b => .ok (.bool b)
  | .int i => .ok (.int i)
  | .str x => .ok (.str x)
  | _ => .no
def flatE (f : Ev → Rs PyData) : Ev → Rs PyData := fun ρ => (f ρ).bnd flatD
theorem flat_any {K : PySem.W.Frag} {H H' : Hp} {d e : PyData} {v : V} (h : flatD d = .ok e) (r : R K H d v) : R K H' e v := by
  cases d <;> first | (cases h; simpa [R] using r) | (cases h; done)
theorem p_flat {e : Expr} {f : Ev → Rs PyData} (h : WE' X F e f) : EP' X F e (flatE f) := wkE h fun σ H Q ⟨O, ρ, d, r, e, q⟩ => by
  obtain ⟨d', ed, e⟩ := Rs.bnd_eq e
  exact ⟨O, ρ, d', r, ed, fun v H' s r' => q v H' s (flat_any e r')⟩
theorem w_op {op : PyData → PyData → Rs PyData} {fa fb : Ev → Rs PyData} {σ : St} {H : Hp} {Q : VK} (h : tW X.kb F (ap2 op fa fb) σ H Q) : tOp (rP2 X.K op) (tW X.kb F fa) (tW X.kb F fb) σ H Q := by
  obtain ⟨O, ρ, d, r, e, q⟩ := h
  obtain ⟨a, ea, e⟩ := Rs.bnd_eq e
  obtain ⟨b, eb, e⟩ := Rs.bnd_eq e
  exact ⟨O, ρ, a, r, ea, fun x H1 s1 r1 => ⟨O, ρ, b, r.mono s1, eb, fun y H2 s2 r2 => ⟨fun _ => False, a, b, d, fun z n => n.elim, no_hide (r1.mono s2), no_hide r2, e, fun v H' s3 r3 => q v H' ((s1.trans s2).trans s3) (r3.mono hide_le)⟩⟩⟩
theorem w_cmp {op : CmpOp} {o : PyData → PyData → Rs PyData} {a b : Expr} {fa fb : Ev → Rs PyData} {pos : Pos} (ho : OpR X (compareOp op) (rP2 X.K o)) (ha : WE' X F a fa) (hb : WE' X F b fb) (hm : behindInMarks op b = false) : WE' X F (.Compare a [op] [b] pos) (ap2 o fa fb) := wkE (pe_cmpR ho ha hb hm) fun _ _ _ h => w_op h
theorem wt_cmp {op : CmpOp} {o : PyData → PyData → Rs PyData} {a b : Expr} {fa fb : Ev → Rs PyData} {pos : Pos} (ho : OpR X (compareOp op) (rP2 X.K o)) (ha : WE' X F a fa) (hb : WE' X F b fb) (hm : behindInMarks op b = false) : TP' X F (.Compare a [op] [b] pos) (tB' (ap2 o fa fb)) :=
  wkT (pt_cmpR ho ha hb hm) fun σ H Q ⟨O, ρ, d, r, e, q⟩ => by
    obtain ⟨x, ex, e⟩ := Rs.bnd_eq e
    exact w_op ⟨O, ρ, x, r, ex, fun v H' s r' => ⟨d, r'.isB e, q H' s⟩⟩
theorem w_len {p pos : Pos} {e : Expr} {f : Ev → Rs PyData} (hg : Gl X "len") (hm : X.mg "len" = none) (h : WE' X F e f) (hs : starEach [e] X.env = (false, eval e X.env) :: starEach [] X.env := by rfl) (hpl : (backTo pos (starEach [] X.env)).any (·.1) = false := by rfl) : EP' X F (.Call (.Name "len" p) [e] [] pos) (fun ρ => (f ρ).bnd fun d => (lenD [d]).bnd flatD) :=
  wkE (pe_callB c_len hg hm PySem.boot_len (pa_cons h pa_nil hs) (he := hs) (hpl := hpl)) fun σ H Q ⟨O, ρ, d, r, e, q⟩ => by
    obtain ⟨a, ea, e⟩ := Rs.bnd_eq e
    obtain ⟨b, eb, e⟩ := Rs.bnd_eq e
    exact ⟨O, ρ, a, r, ea, fun v H1 s1 r1 => ⟨fun _ => False, [a], b, fun z n => n.elim, .cons (no_hide r1) .nil, eb, fun w H' s3 r3 => q w H' (s1.trans s3) (flat_any e r3)⟩⟩
/-- x[k] -/
def ownIx (i : Nat) (f : Ev → Rs PyData) : Ev → Rs PyData := fun ρ => (ownL i ρ).bnd fun ds => (f ρ).bnd fun k => (asI k).bnd fun k => match atI ds k with | some d => .ok d | none => .no
theorem p_ixOwn {x : Str} {p pos : Pos} {b : Expr} {f : Ev → Rs PyData} (i : Nat) (h : PE X (.Name x p) (tVar i)) (hb : EP' X F b f) (hs : PlainIx b := by exact fun _ _ => rfl) : EP' X F (.Subscript (.Name x p) b pos) (ownIx i f) :=
  wkE (pe_ix ix_list h hb hs) fun σ H Q ⟨O, ρ, d, r, e, q⟩ => by
    obtain ⟨ds, ed, e⟩ := Rs.bnd_eq e
    obtain ⟨k, ek, e⟩ := Rs.bnd_eq e
    obtain ⟨kk, ekk, e⟩ := Rs.bnd_eq e
    split at e <;> first | (cases e; done) | skip
    rename_i hat
    cases e
    unfold ownL at ed
    split at ed <;> first | (cases ed; done) | skip
    rename_i hc
    cases ed
    obtain ⟨hz, a, xs, h1, h2, h3, h4⟩ := own_at r hc
    refine ⟨_, h2, O, ρ, k, r, ek, fun w H1 s1 r1 => ?_⟩
    have ew : w = .int kk := by
      cases k with
      | int q => cases ekk; exact r1.intV
      | _ => exact nomatch ekk
    obtain ⟨y, hy, ry⟩ := (h4.mono (hide_same s1)).atI hat
    exact ⟨a, xs, kk, y, rfl, ew, .of (s1 _ _ h3), hy, q _ H1 s1 ry⟩
/-- tuple(x) -/
theorem p_tupOwn {x y : Str} {p p2 pos : Pos} (i : Nat) (h : PE X (.Name x p) (tVar i)) (hg : Gl X "tuple") (hm : X.mg "tuple" = none) (hs : starEach [.Name x p] X.env = (false, eval (.Name x p) X.env) :: starEach [] X.env := by rfl) (hpl : (backTo pos (starEach [] X.env)).any (·.1) = false := by rfl) :
    EP' X F (.Call (.Name "tuple" p2) [.Name x p] [] pos) (fun ρ => (ownL i ρ).bnd fun ds => .ok (.tuple ds)) :=
  wkE (pe_callTy call_tupleN hg hm (by decide +kernel) (pa_cons h pa_nil hs) (he := hs) (hpl := hpl)) fun σ H Q ⟨O, ρ, d, r, e, q⟩ => by
    obtain ⟨ds, ed, e⟩ := Rs.bnd_eq e
    cases e
    unfold ownL at ed
    split at ed <;> first | (cases ed; done) | skip
    rename_i hc
    cases ed
    obtain ⟨hz, a, xs, h1, h2, h3, h4⟩ := own_at r hc
    exact ⟨_, h2, a, xs, rfl, .inl ⟨.of h3, fun l o hl ho => q _ _ (same_upd hl) (newT ho (fun a z => r.nlive z) hl hz h4)⟩⟩
/-- list(x) -/
theorem n_listOwn {x y : Str} {p p2 pos : Pos} (i : Nat) (h : PE X (.Name x p) (tVar i)) (hg : Gl X "list") (hm : X.mg "list" = none) (hs : starEach [.Name x p] X.env = (false, eval (.Name x p) X.env) :: starEach [] X.env := by rfl) (hpl : (backTo pos (starEach [] X.env)).any (·.1) = false := by rfl) :
    NP' X F (.Call (.Name "list" p2) [.Name x p] [] pos) (ownL i) :=
  wkE (pe_callTy call_list_of hg hm (by decide +kernel) (pa_cons h pa_nil hs) (he := hs) (hpl := hpl)) fun σ H Q ⟨O, ρ, ds, r, ed, q⟩ => by
    unfold ownL at ed
    split at ed <;> first | (cases ed; done) | skip
    rename_i hc
    cases ed
    obtain ⟨hz, a, xs, h1, h2, h3, h4⟩ := own_at r hc
    exact ⟨_, h2, a, xs, rfl, .inl (.of h3), fun l hl => q _ _ _ (same_upd hl) hl upd_same hz (newP hl h4)⟩
/-- a slice of a list -/
def slL (f : Ev → Rs PyData) (g h : Ev → Rs (Option Int)) : Ev → Rs (List PyData) := fun ρ => (f ρ).bnd fun d => (g ρ).bnd fun lo => (h ρ).bnd fun hi => match d with | .list ds => .ok (cutD ds lo hi) | _ => .no
theorem n_sl {a : Expr} {lo hi : Option Expr} {fa : Ev → Rs PyData} {g h : Ev → Rs (Option Int)} {p2 pos : Pos} (ha : EP' X F a fa) (hl : PO X lo (tO X.kb F g)) (hh : PO X hi (tO X.kb F h)) : NP' X F (.Subscript a (.Slice lo hi none p2) pos) (slL fa g h) :=
  wkE (pe_slice sl_list ha hl hh) fun σ H Q ⟨O, ρ, d, r, e, q⟩ => by
    obtain ⟨x, ex, e⟩ := Rs.bnd_eq e
    obtain ⟨l, el, e⟩ := Rs.bnd_eq e
    obtain ⟨u, eu, e⟩ := Rs.bnd_eq e
    split at e <;> first | (cases e; done) | skip
    cases e
    refine ⟨O, ρ, _, r, ex, fun v H1 s1 r1 => ⟨O, ρ, l, r.mono s1, el, fun H2 s2 => ⟨O, ρ, u, (r.mono s1).mono s2, eu, fun H3 s3 => ?_⟩⟩⟩
    obtain ⟨z1, a, xs, e1, h1, t1⟩ := r1.listV
    have s23 := s2.trans s3
    exact ⟨a, xs, e1, s23.seq (sqL_le h1), fun p hp => q p _ _ ((s1.trans s23).trans (same_upd hp)) ((s1.trans s23).free hp) upd_same (Nat.le_trans (cutD_len _ _ _) z1) (newP hp (t1.mono (hide_same s23)).cut)⟩

/-! a def of the top -/
structure FnI (K : PySem.W.Frag) (mg : Str → Option Value) (x : Str) (st : Stmt) (ps : List Str) where
  a : Addr
  d : FuncData
  F : Fun K x x st a d
  m : mg x = some (.ref a)
  b : Binds K d ps []
theorem fn_rule' {P : Program} {w : World} {K : PySem.W.Frag} {mg : Str → Option Value} {base : Heap} {x : Str} {st : Stmt} {N ps : List Str} {k n m : Nat} {body : Ev → Rs Out} {G : List PyData → Rs PyData} {sc : Scope} (I : FnI K mg x st ps) (hsc : defScope st = sc) (S : FnScope N ps sc) (hn : ps.length ≤ N.length) (hp : ps.length = n) (hm : N.length = m) (hG : G = run m body)
    (hb : ∀ (cdv : Value) (A : Around) (outer : List Env) (s : Shared) (H : Hp) (E : XK) (F : FC), Room k (A.deeper (envOfC x sc s.heap.objs.size I.a cdv)) → Calm F → PSs (cxOf CX0 P w K mg base N x sc I.a cdv A outer s H E).nox (defBody st) (tS ⟨K, P, w⟩ F body)) (hm' : m ≤ 1000 := by decide) :
    FnOk P w K mg base CX0 (k + 1) I.a I.d ps (spP K n G) := by
  subst hsc hp hm hG
  exact fn_rule I.F S hn hm' hb
theorem fn_ruleN' {P : Program} {w : World} {K : PySem.W.Frag} {mg : Str → Option Value} {base : Heap} {x : Str} {st : Stmt} {N ps : List Str} {k n m : Nat} {body : Ev → Rs Out} {G : List PyData → Rs (List PyData)} {sc : Scope} (I : FnI K mg x st ps) (hsc : defScope st = sc) (S : FnScope N ps sc) (hn : ps.length ≤ N.length) (hp : ps.length = n) (hm : N.length = m) (hG : G = runN m body)
    (hb : ∀ (cdv : Value) (A : Around) (outer : List Env) (s : Shared) (H : Hp) (E : XK) (F : FC), Room k (A.deeper (envOfC x sc s.heap.objs.size I.a cdv)) → Calm F → PSs (cxOf CX0 P w K mg base N x sc I.a cdv A outer s H E).nox (defBody st) (tS ⟨K, P, w⟩ F body)) (hm' : m ≤ 1000 := by decide) :
    FnOk P w K mg base CX0 (k + 1) I.a I.d ps (spN K n G) := by
  subst hsc hp hm hG
  exact fn_ruleN I.F S hn hm' hb
/-- a call of a def that gives a new list -/
theorem n_callI {X : Cx} {F : FC} {k n : Nat} {ps : List Str} {st : Stmt} {G : List PyData → Rs (List PyData)} {x : Str} {p pos : Pos} {e : Expr} {es : List Expr} {g : Ev → Rs (List PyData)} (I : FnI X.K X.mg x st ps) (Fn : FnOk X.prog X.w X.K X.mg X.base CX0 k I.a I.d ps (spN X.K n G)) (hr : Room k X.A)
    (ha : AP' X F (e :: es) g) (hl : Ln n g) (hg : Gl X x := by rfl) (hdb : (x == ("__debug__" : Str)) = false := by decide) (he : starEach (e :: es) X.env = (false, eval e X.env) :: starEach es X.env := by rfl) (hpl : (backTo pos (starEach es X.env)).any (·.1) = false := by rfl) :
    NP' X F (.Call (.Name x p) (e :: es) [] pos) (fun ρ => (g ρ).bnd G) :=
  wkE (pe_call Fn hr hg I.m I.F.kp I.b .nil pass0 ha hdb he hpl) fun σ H Q ⟨O, ρ, d, r, e, q⟩ => by
    obtain ⟨a, ea, e⟩ := Rs.bnd_eq e
    exact ⟨O, ρ, a, r, ea, fun vs H1 s1 r1 => ⟨NN F O, a, d, fun z n => (r.mono s1).nlive n, by rw [List.append_nil]; exact r1, hl ρ a ea, e, fun p xs H' s3 hp hl hz ra => q p xs H' (s1.trans s3) (s1.free hp) hl hz ra⟩⟩
theorem e_callI {X : Cx} {F : FC} {k n : Nat} {ps : List Str} {st : Stmt} {G : List PyData → Rs PyData} {x : Str} {p pos : Pos} {e : Expr} {es : List Expr} {g : Ev → Rs (List PyData)} (I : FnI X.K X.mg x st ps) (Fn : FnOk X.prog X.w X.K X.mg X.base CX0 k I.a I.d ps (spP X.K n G)) (hr : Room k X.A)
    (ha : AP' X F (e :: es) g) (hl : Ln n g) (hg : Gl X x := by rfl) (hdb : (x == ("__debug__" : Str)) = false := by decide) (he : starEach (e :: es) X.env = (false, eval e X.env) :: starEach es X.env := by rfl) (hpl : (backTo pos (starEach es X.env)).any (·.1) = false := by rfl) :
    EP' X F (.Call (.Name x p) (e :: es) [] pos) (apC G g) := e_call Fn hr I.m I.F.kp I.b ha hl hg hdb he hpl

/-! constants of the module -/
theorem p_gint {x : Str} {i : Int} {t : Tok} {pos : Pos} (hm : X.mg x = some (.int i t)) (hg : Gl X x := by rfl) (hd : (x == ("__debug__" : Str)) = false := by decide) : EP' X F (.Name x pos) (cn (.int i)) := p_const (pe_glob (v := .int i) hg hm ⟨t, rfl⟩ hd) fun _ => .int
theorem p_gdat {x : Str} {a : Addr} {d : PyData} {pos : Pos} (hm : X.mg x = some (.ref a)) (h : ∀ H, R X.K H d (.ref a)) (hg : Gl X x := by rfl) (hd : (x == ("__debug__" : Str)) = false := by decide) : EP' X F (.Name x pos) (cn d) := p_const (pe_glob (v := .ref a) hg hm rfl hd) h
/-- a tuple of texts of the top -/
theorem k_strs {K : PySem.W.Frag} {H : Hp} {a : Addr} {o : Obj} {its : Array Value} {n : Nat} {xs : List Str} (h : K.lookup a = some o) (hc : o.cls = .type "tuple") (hd : o.data = .seq its n) (hz : xs.length ≤ 1000) (hx : Vals (xs.map V.str) its.toList) (hs : xs.all PyData.strOk = true) (hdn : strT (xs.map .str) = true := by rfl) : R K H (.tuple (xs.map .str)) (.ref a) := by
  have ra : ∀ l : List Str, l.all PyData.strOk = true → RA K H (l.map .str) (l.map V.str) := by
    intro l
    induction l with
    | nil => intro _; exact .nil
    | cons x l ih =>
      intro q
      rw [List.all_cons, Bool.and_eq_true] at q
      exact .cons (.str q.1) (ih q.2)
  have hn := hx.length
  rw [List.length_map] at hn
  refine .tup (by rw [List.length_map]; exact small_n hz) (.inr ⟨o, its, n, h, hc, hd, ?_, hx⟩) (ra xs hs) (.inr hdn)
  rw [← Array.length_toList, ← hn]
  exact small_n hz
end
end PL


/-! PL9: dicts of a slot's own, keyed by tuples -/
namespace PL
open PySem PySem.Spec PyProof.Rows L2

def dget (kvs : List (PyData × PyData)) (k : NestedKey) : Option PyData := (kvs.find? fun p => decide (nkOf p.1 = some k)).map (·.2)
def dput (kvs : List (PyData × PyData)) (kd : PyData) (k : NestedKey) (v : PyData) : List (PyData × PyData) :=
  if (kvs.any fun p => decide (nkOf p.1 = some k)) = true then kvs.map fun p => if nkOf p.1 = some k then (p.1, v) else p else kvs ++ [(kd, v)]
def keyOk (kd : PyData) : Rs NestedKey := match kd with
  | .tuple _ => (match nkOf kd with | some k => if k.depth ≤ 8 then .ok k else .no | none => .no)
  | _ => .no
theorem keyOk_iff {kd : PyData} {k : NestedKey} (h : keyOk kd = .ok k) : (∃ ds, kd = .tuple ds) ∧ nkOf kd = some k ∧ k.depth ≤ 8 := by
  unfold keyOk at h
  split at h <;> first | (cases h; done) | skip
  split at h <;> first | (cases h; done) | skip
  split at h <;> first | (cases h; done) | skip
  rename_i h1 h2
  cases h
  exact ⟨⟨_, rfl⟩, h1, h2⟩
section
variable {K : PySem.W.Frag} {G : Hp}
theorem DK.at : ∀ {kvs : List (PyData × PyData)} {xs : List EntK} {k : NestedKey}, DK K G kvs xs → (match dget kvs k with | some d => ∃ ad vl v, atKey xs k = some (ad, vl) ∧ RelV v vl ∧ R K G d v | none => atKey xs k = none)
  | [], _, k, h => by rw [show _ = [] from h]; rfl
  | p :: r, _, k, ⟨nk, ad, vl, v, t, h1, h2, h3, h4, h5, h6, h7⟩ => by
    have ih := DK.at (k := k) h7
    subst h1
    by_cases e : nk = k
    · subst e
      have e1 : dget (p :: r) nk = some p.2 := by unfold dget; rw [List.find?_cons]; simp [h2]
      rw [e1]
      exact ⟨ad, vl, v, by unfold atKey; rw [List.find?_cons]; simp, h5, h6⟩
    · have e1 : dget (p :: r) k = dget r k := by unfold dget; rw [List.find?_cons]; simp [h2, e]
      have e2 : atKey ((nk, ad, vl) :: t) k = atKey t k := by unfold atKey; rw [List.find?_cons]; simp [e]
      rw [e1, e2]
      exact ih
theorem DK.any {kvs : List (PyData × PyData)} {xs : List EntK} {k : NestedKey} (h : DK K G kvs xs) : (kvs.any fun p => decide (nkOf p.1 = some k)) = (atKey xs k).isSome := by
  have q := h.at (k := k)
  unfold dget at q
  cases e : kvs.find? fun p => decide (nkOf p.1 = some k) with
  | none =>
    rw [e] at q
    have q' : atKey xs k = none := q
    rw [q']
    have z := List.find?_eq_none.mp e
    exact Bool.eq_false_iff.mpr fun c => by
      obtain ⟨x, hx, y⟩ := List.any_eq_true.mp c
      exact z x hx y
  | some p =>
    rw [e] at q
    obtain ⟨ad, vl, v, q', _⟩ := q
    rw [q']
    exact List.any_eq_true.mpr ⟨p, List.mem_of_find?_eq_some e, by simpa using List.find?_some e⟩
theorem DK.snoc {kd vd : PyData} {nk : NestedKey} {ad : Addr} {vl : Value} {v : V} (h2 : nkOf kd = some nk) (h3 : nk.depth ≤ 8) (h4 : R K G kd (.ref ad)) (h5 : RelV v vl) (h6 : R K G vd v) : ∀ {kvs : List (PyData × PyData)} {xs : List EntK}, DK K G kvs xs → DK K G (kvs ++ [(kd, vd)]) (xs ++ [(nk, ad, vl)])
  | [], _, h => by rw [show _ = [] from h]; exact ⟨nk, ad, vl, v, [], rfl, h2, h3, h4, h5, h6, rfl⟩
  | p :: r, _, ⟨nk', ad', vl', v', t, h1, g2, g3, g4, g5, g6, g7⟩ => by
    rw [h1]
    exact ⟨nk', ad', vl', v', _, rfl, g2, g3, g4, g5, g6, DK.snoc h2 h3 h4 h5 h6 g7⟩
theorem DK.upd {vd : PyData} {k : NestedKey} {vl : Value} {v : V} (h5 : RelV v vl) (h6 : R K G vd v) : ∀ {kvs : List (PyData × PyData)} {xs : List EntK}, DK K G kvs xs → DK K G (kvs.map fun p => if nkOf p.1 = some k then (p.1, vd) else p) (xs.map (putAt k vl))
  | [], _, h => by rw [show _ = [] from h]; rfl
  | p :: r, _, ⟨nk', ad', vl', v', t, h1, g2, g3, g4, g5, g6, g7⟩ => by
    subst h1
    rw [List.map_cons, List.map_cons]
    by_cases e : nk' = k
    · subst e
      rw [if_pos g2]
      exact ⟨nk', ad', vl, v, _, by unfold putAt; rw [if_pos rfl], g2, g3, g4, h5, h6, DK.upd h5 h6 g7⟩
    · rw [if_neg (by rw [g2]; intro z; exact e (Option.some.inj z))]
      exact ⟨nk', ad', vl', v', _, by unfold putAt; rw [if_neg e], g2, g3, g4, g5, g6, DK.upd h5 h6 g7⟩
theorem DK.put {kd vd : PyData} {k : NestedKey} {ad : Addr} {vl : Value} {v : V} {kvs : List (PyData × PyData)} {xs : List EntK} (h : DK K G kvs xs) (h2 : nkOf kd = some k) (h3 : k.depth ≤ 8) (h4 : R K G kd (.ref ad)) (h5 : RelV v vl) (h6 : R K G vd v) : DK K G (dput kvs kd k vd) (storedH xs k ad vl) := by
  unfold dput
  rw [h.any]
  cases e : atKey xs k with
  | none => rw [storedH_new e, if_neg (by simp)]; exact h.snoc h2 h3 h4 h5 h6
  | some p => rw [storedH_old e, if_pos (by simp)]; exact h.upd h5 h6
theorem dput_len (kvs : List (PyData × PyData)) (kd : PyData) (k : NestedKey) (v : PyData) : (dput kvs kd k v).length ≤ kvs.length + 1 := by
  unfold dput
  split
  · rw [List.length_map]; omega
  · rw [List.length_append, List.length_singleton]; omega
theorem DK.keys : ∀ {kvs : List (PyData × PyData)} {xs : List EntK} {i : Nat} {p : PyData × PyData}, DK K G kvs xs → kvs[i]? = some p → ∃ x, xs[i]? = some x ∧ R K G p.1 (.ref x.2.1)
  | [], _, _, _, _, e => by simp at e
  | q :: r, _, 0, p, ⟨nk', ad', vl', v', t, h1, g2, g3, g4, g5, g6, g7⟩, e => by
    simp at e; subst e h1
    exact ⟨_, rfl, g4⟩
  | q :: r, _, i + 1, p, ⟨nk', ad', vl', v', t, h1, g2, g3, g4, g5, g6, g7⟩, e => by
    subst h1
    obtain ⟨x, e1, e2⟩ := DK.keys (i := i) g7 (by simpa using e)
    exact ⟨x, by simpa using e1, e2⟩
theorem DK.is : ∀ {kvs : List (PyData × PyData)} {xs : List EntK}, DK K G kvs xs → ∀ x ∈ xs, x.1.depth ≤ 8 ∧ ∃ kd, R K G kd (.ref x.2.1) ∧ nkOf kd = some x.1
  | [], _, h, x, hx => by rw [show _ = [] from h] at hx; exact nomatch hx
  | p :: r, _, ⟨nk', ad', vl', v', t, h1, g2, g3, g4, g5, g6, g7⟩, x, hx => by
    subst h1
    rcases List.mem_cons.mp hx with rfl | hx
    · exact ⟨g3, p.1, g4, g2⟩
    · exact DK.is g7 x hx
end
section
variable {X : Cx} {pins : List (Addr × Obj)} {σ : St} {H : Hp} {s : Shared}
mutual
theorem nested_of (I : Inv X pins σ H s) : ∀ (d : PyData) (v : V) (u : Value) (k : NestedKey), R X.K H d v → RelV v u → nkOf d = some k → NestedIs s.heap k u
  | .none, v, u, k, r, rv, e => by rw [nkOf] at e; cases e; rw [r.noneV] at rv; cases rv; exact .none
  | .bool b, v, u, k, r, rv, e => by rw [nkOf] at e; cases e; rw [r.boolV] at rv; cases rv; exact .bool rfl
  | .int i, v, u, k, r, rv, e => by rw [nkOf] at e; cases e; rw [r.intV] at rv; obtain ⟨t, rfl⟩ := rv; exact .int _ _
  | .str x, v, u, k, r, rv, e => by rw [nkOf] at e; cases e; rw [r.strV.1] at rv; obtain ⟨t, rfl⟩ := rv; exact .text _ _
  | .list _, v, u, k, r, rv, e => by simp [nkOf] at e
  | .dict _, v, u, k, r, rv, e => by simp [nkOf] at e
  | .tuple ds, v, u, k, r, rv, e => by
    rw [nkOf] at e
    obtain ⟨ks, e1, e2⟩ := Option.map_eq_some_iff.mp e
    subst e2
    obtain ⟨z, a, xs, rfl, h1, t1⟩ := r.tupV
    cases rv
    obtain ⟨its, rr, ⟨o, ho, hc, n, hd⟩, _⟩ := L2.Inv.tuple I h1
    exact .tup ho hc hd (by simpa using nested_all I ds xs its ks t1 rr e1)
theorem nested_all (I : Inv X pins σ H s) : ∀ (ds : List PyData) (vs : List V) (us : List Value) (ks : List NestedKey), RA X.K H ds vs → Vals vs us → nkAll ds = some ks → NestedAll s.heap ks us
  | [], vs, us, ks, t, rv, e => by rw [nkAll] at e; cases e; rw [t.inv0] at rv; cases rv; exact .nil
  | d :: ds, vs, us, ks, t, rv, e => by
    rw [nkAll] at e
    obtain ⟨k, e1, e⟩ := Option.bind_eq_some_iff.mp e
    obtain ⟨ks', e2, e⟩ := Option.map_eq_some_iff.mp e
    subst e
    obtain ⟨x, r, rfl, h1, h2⟩ := t.inv
    cases rv with
    | cons r1 r2 => exact .cons (nested_of I d x _ k h1 r1 e1) (nested_all I ds r _ ks' h2 r2 e2)
end
theorem dict_h (I : Inv X pins σ H s) {a : Addr} {es : Array DictEntry} {ep : Nat} {xs : List EntK} {N : Addr → Prop} {kvs : List (PyData × PyData)} (h : H a = some (dicO a es ep)) (h5 : es.toList = xs.map (entryOfKey (nestedKind X.prog X.w))) (h6 : (xs.map (·.1)).Nodup) (h7 : DK X.K (hide N H) kvs xs) : s.heap.DictOfH (nestedKind X.prog X.w) a xs := by
  obtain ⟨⟨o, ho, hc, hd⟩, _⟩ := I.hok a _ h
  refine ⟨o, es, ep, ho, hc, hd, h5, fun x hx => ?_, h6⟩
  obtain ⟨g1, kd, g2, g3⟩ := h7.is x hx
  exact ⟨nested_of I kd _ _ _ (g2.mono hide_le) rfl g3, g1⟩
theorem key_h (I : Inv X pins σ H s) {N : Addr → Prop} {kd : PyData} {k : NestedKey} {ad : Addr} (r : R X.K (hide N H) kd (.ref ad)) (e : nkOf kd = some k) (z : k.depth ≤ 8) : (nestedKind X.prog X.w).is s.heap k ad := ⟨nested_of I kd _ _ _ (r.mono hide_le) rfl e, z⟩
theorem dic_ok {P : Program} {w : World} {H' : Hp} {h' : Heap} {a : Addr} {es : Array DictEntry} {ep : Nat} (h : h'.DictRaw a es ep) : ObjOk P w H' h' a (dicO a es ep) :=
  ⟨h, (let ⟨o, ho, _⟩ := h; ⟨o, ho⟩), fun h1 h2 q e => q.at e⟩
end
section
variable {X : Cx} {F : FC}
/-! x = {} -/
def tDic : TE := fun _ H Q => ∀ p, H p = none → (p == sysModules) = false → Q (.ref p) (upd H p (dicO p #[] 0))
theorem e_dic {pos : Pos} : PE X (.Dict [] [] pos) tDic := ⟨fun pins s σ H Q I h => by
  have hb : (s.heap.objs.size == sysModules) = false := (dk_empty (P := X.prog) (w := X.w) (H := H) s.heap I.big).2.1
  exact wpAny_Dict_empty ⟨.ref s.heap.objs.size, _, I.laid (a := s.heap.objs.size) (o := dicO s.heap.objs.size #[] 0) (t' := s.toks) (fun _ _ q => Heap.get?_push_of_some _ q) (Nat.le_refl _) (dic_ok ⟨_, Heap.get?_push_size _ rfl, ⟨rfl, rfl, rfl⟩, rfl⟩), rfl, h _ (I.hok.fresh (Nat.le_refl _)) hb⟩⟩
def sDic (i : Nat) : Ev → Rs Out := fun ρ => .ok (.nx (ρ.set i (some (.odc []))))
theorem Rel.setCell {K : KB} {O : Own} {ρ : Ev} {σ : St} {H H' : Hp} (r : Rel K F O ρ σ H) (s : Same H H') {p : Addr} {c : Cell} {i : Nat} (hp : H p = none) (hl : H' p ≠ none) (ok : ∀ N' O' σ', (∀ a, N' a → nP (NN F O) p a) → O' i = some p → σ'[i]? = some (some (.ref p)) → SlotOk K F.ht N' O' H' i σ' c) (hc : (∀ oc, c ≠ .obj oc) ∧ ∀ j k, c ≠ .prf j k := by exact ⟨by simp, by simp⟩) :
    Rel K F (plusO O i p) (ρ.set i (some c)) (σ.set i (some (.ref p))) H' := by
  have old : ∀ j a, O j = some a → a ≠ p := fun j a h1 z => r.live j a h1 (by rw [z]; exact hp)
  have pl : ∀ {j a}, plusO O i p j = some a → (j = i ∧ a = p) ∨ (¬ (j = i ∧ j < 1000) ∧ O j = some a) := fun {j a} h => by
    unfold plusO at h
    split at h
    · rename_i q; exact .inl ⟨q.1, (Option.some.inj h).symm⟩
    · rename_i q; exact .inr ⟨q, h⟩
  have nn : ∀ a, NN F (plusO O i p) a → nP (NN F O) p a := fun a h => by
    rcases h with h | ⟨j, h⟩
    · exact .inl (.inl h)
    · rcases pl h with ⟨_, e⟩ | ⟨_, e⟩
      · exact .inr e
      · exact .inl (.inr ⟨j, e⟩)
  refine ⟨by rw [List.length_set, List.length_set]; exact r.len, fun j k a h1 h2 => ?_, fun j a h1 => ?_, r.hidl, fun a x q => ⟨s _ _ (r.base a x q).1, fun j h1 => ?_⟩, fun j c' q => ?_, r.obs.set (fun j h => plusO_out (.inr h)) (fun j hj => List.getElem?_set_ne (Ne.symm hj)) (fun oc z => hc.1 oc (Option.some.inj z)) (fun j k z => hc.2 j k (Option.some.inj z))⟩
  · rcases pl h1 with ⟨e1, e2⟩ | ⟨e1, e2⟩ <;> rcases pl h2 with ⟨e3, e4⟩ | ⟨e3, e4⟩
    · rw [e1, e3]
    · exact absurd e2 (old _ _ e4)
    · exact absurd e4 (old _ _ e2)
    · exact r.inj _ _ _ e2 e4
  · rcases pl h1 with ⟨_, e⟩ | ⟨_, e⟩
    · rw [e]; exact hl
    · exact same_ne s (r.live j a e)
  · rcases pl h1 with ⟨_, e⟩ | ⟨_, e⟩
    · have := (r.base a x q).1
      rw [e, hp] at this; exact nomatch this
    · exact (r.base a x q).2 j e
  · rcases set_get q with ⟨rfl, e, hi⟩ | ⟨hj, q⟩
    · cases e
      exact ok _ _ _ nn (if_pos ⟨rfl, by have := r.obs.sz; omega⟩) (by rw [List.getElem?_set_self (by rw [r.len]; exact hi)])
    · have base := r.slots j c' q
      have mv : Same (hide (NN F O) H) (hide (NN F (plusO O i p)) H') := fun a o e => by
        obtain ⟨e1, e2⟩ := hide_some e
        exact hide_of (fun z => (nn a z).elim e1 fun z => by rw [z, hp] at e2; exact nomatch e2) (s _ _ e2)
      exact base.move mv (fun j' h' => plusO_out (out_of hj (own_big h'))) (List.getElem?_set_ne (Ne.symm hj)) fun _ a x _ _ q => s a x q
theorem Rel.mutCell {K : KB} {O : Own} {ρ : Ev} {σ : St} {H : Hp} (r : Rel K F O ρ σ H) {i : Nat} {a : Addr} {ob : HO} {c : Cell} (ha : O i = some a) (hi : i < ρ.length) (ok : ∀ H', H' = upd H a ob → Same (hide (NN F O) H) (hide (NN F O) H') → SlotOk K F.ht (NN F O) O H' i σ c) (hc : (∀ oc, c ≠ .obj oc) ∧ ∀ j k, c ≠ .prf j k := by exact ⟨by simp, by simp⟩) :
    Rel K F O (ρ.set i (some c)) σ (upd H a ob) ∧ Same (hide (NN F O) H) (hide (NN F O) (upd H a ob)) := by
  have vis : Same (hide (NN F O) H) (hide (NN F O) (upd H a ob)) := fun b o e => by
    obtain ⟨e1, e2⟩ := hide_some e
    exact hide_of e1 (by rw [upd_ne (fun z => e1 (.inr ⟨i, by rw [z]; exact ha⟩))]; exact e2)
  refine ⟨⟨by rw [List.length_set]; exact r.len, r.inj, fun j b h1 => ?_, r.hidl, fun b x q => ⟨?_, (r.base b x q).2⟩, fun j c' q => ?_, r.obs.set (fun _ _ => rfl) (fun _ _ => rfl) (fun oc z => hc.1 oc (Option.some.inj z)) (fun j k z => hc.2 j k (Option.some.inj z))⟩, vis⟩
  · by_cases e : b = a
    · rw [e, upd_same]; simp
    · rw [upd_ne e]; exact r.live j b h1
  · rw [upd_ne (fun z => (r.base b x q).2 i (by rw [z]; exact ha))]; exact (r.base b x q).1
  · rcases set_get q with ⟨rfl, e, hi⟩ | ⟨hj, q⟩
    · cases e
      exact ok _ rfl vis
    · have base := r.slots j c' q
      exact base.move vis (fun _ _ => rfl) rfl fun j' b x hj' h1 h3 => by rw [upd_ne (fun z => own_ne r hj hi hj' (r.inj _ _ _ h1 (by rw [z]; exact ha)))]; exact h3
theorem s_dic {st : Stmt} {i : Nat} (h : PS X st (tAsg tDic (gName i))) : SP' X F st (sDic i) := wkS h fun D σ H ⟨O, ρ, o, r, e, p⟩ => by
  cases e
  intro a hp hs
  have e1 : upd H a (dicO a #[] 0) a = some (dicO a #[] 0) := upd_same
  refine p _ _ _ (r.setCell (same_upd hp) (i := i) (c := .odc []) hp (by rw [e1]; simp) fun N' O' σ' hn hO hσ => ?_) (own_vis r (same_upd hp) hp)
  exact ⟨Nat.zero_le _, a, _, _, [], hO, hσ, e1, hs, rfl, List.nodup_nil, rfl⟩

/-! x[k] -/
def dgetE (i : Nat) (fk : Ev → Rs PyData) : Ev → Rs PyData := fun ρ => match getC ρ i with
  | some (.odc kvs) => (fk ρ).bnd fun kd => (keyOk kd).bnd fun k => match dget kvs k with | some d => .ok d | none => .no
  | _ => .no
theorem p_dget {x : Str} {pos pos' : Pos} {ix : Expr} {fk : Ev → Rs PyData} (hu : X.A.units + 64 < cLine) (i : Nat) (ho : PE X (.Name x pos) (tVar i)) (hi : EP' X F ix fk) (hs : NoSl ix) : EP' X F (.Subscript (.Name x pos) ix pos') (dgetE i fk) := by
  refine ⟨fun pins s σ H Q I ⟨O, ρ, d, r, e, q⟩ => ?_⟩
  unfold dgetE at e
  split at e <;> first | (cases e; done) | skip
  rename_i kvs hc
  obtain ⟨kd, ek, e⟩ := Rs.bnd_eq e
  obtain ⟨k, eko, e⟩ := Rs.bnd_eq e
  split at e <;> first | (cases e; done) | skip
  rename_i d' hg
  cases e
  obtain ⟨⟨kds, rfl⟩, e3, e4⟩ := keyOk_iff eko
  obtain ⟨z, a, es, ep, xs, h1, h2, h3, h4, h5, h6, h7⟩ := r.slots i _ (getC_iff.mp hc)
  refine subD_of PySem.F.slot_dict_getitem.lookup hs (thn (ho.run pins s σ H (fun y H1 => y = .ref a ∧ H1 = H) I ⟨_, h2, rfl, rfl⟩) fun u s1 ⟨y, H1, I1, rx, ey, eH⟩ => ?_)
  subst ey eH
  obtain rfl : u = Value.ref a := rx
  refine thn (hi.run pins s1 σ _ (fun v H2 => Same H1 H2 ∧ R X.K (hide (NN F O) H2) (.tuple kds) v) I1 ⟨O, ρ, _, r, ek, fun v H' s' r' => ⟨s', r'⟩⟩) fun iv s2 ⟨y, H2, I2, ry, sm, rk⟩ => ?_
  obtain ⟨_, b, bs, rfl, hb, _⟩ := rk.tupV
  obtain rfl : iv = Value.ref b := ry
  have dd := dict_h I2 (sm _ _ h3) h5 h6 (h7.mono (hide_same sm))
  refine ⟨dd.typeIs, ?_⟩
  have q1 := h7.at (k := k)
  rw [hg] at q1
  obtain ⟨ad, vl, v, g1, g2, g3⟩ := q1
  refine wpAny_getItem_heap (show (nestedKind X.prog X.w).room X.A.in1 by show X.A.in1.units + 8 < cLine; show X.A.units + 1 + 8 < cLine; omega) (key_h I2 rk e3 e4) dd g1 ?_
  exact ⟨v, H2, I2.tok _, g2, q v H2 sm (g3.mono (hide_same sm))⟩
/-! x[k] = v -/
def sDput (i : Nat) (fk fv : Ev → Rs PyData) : Ev → Rs Out := fun ρ => match getC ρ i with
  | some (.odc kvs) => (fv ρ).bnd fun d => (fk ρ).bnd fun kd => (keyOk kd).bnd fun k => if kvs.length < sizeLine then .ok (.nx (ρ.set i (some (.odc (dput kvs kd k d))))) else .no
  | _ => .no
theorem s_dput {x : Str} {pos pos' pos'' : Pos} {ix value : Expr} {fk fv : Ev → Rs PyData} (hu : X.A.units + 64 < cLine) (i : Nat) (ho : PE X (.Name x pos) (tVar i)) (hi : EP' X F ix fk) (hv : EP' X F value fv) (hs : swapsWith value (some (.Subscript (.Name x pos) ix pos')) pos''.line X.env = pure false := by rfl) :
    SP' X F (.Assign [.Subscript (.Name x pos) ix pos'] value pos'') (sDput i fk fv) := by
  refine ⟨fun pins s σ H D I ⟨O, ρ, o, r, e, p⟩ => ?_⟩
  unfold sDput at e
  split at e <;> first | (cases e; done) | skip
  rename_i kvs hc
  obtain ⟨d, ed, e⟩ := Rs.bnd_eq e
  obtain ⟨kd, ek, e⟩ := Rs.bnd_eq e
  obtain ⟨k, eko, e⟩ := Rs.bnd_eq e
  split at e <;> first | (cases e; done) | skip
  rename_i hz
  cases e
  obtain ⟨⟨kds, rfl⟩, e3, e4⟩ := keyOk_iff eko
  obtain ⟨z, a, es, ep, xs, h1, h2, h3, h4, h5, h6, h7⟩ := r.slots i _ (getC_iff.mp hc)
  refine wpAny_Assign_Subscript (thn (hv.run pins s σ H (fun v H1 => Same H H1 ∧ R X.K (hide (NN F O) H1) d v) I ⟨O, ρ, _, r, ed, fun v H' s' r' => ⟨s', r'⟩⟩) fun rv s1 ⟨v, H1, I1, rrv, sm1, rd⟩ =>
    thn (ho.run pins s1 σ H1 (fun y H2 => y = .ref a ∧ H2 = H1) I1 ⟨_, h2, rfl, rfl⟩) fun u s2 ⟨y, H2, I2, rx, ey, eH⟩ => ?_) hs
  subst ey eH
  obtain rfl : u = Value.ref a := rx
  refine thn (hi.run pins s2 σ _ (fun v H3 => Same H2 H3 ∧ R X.K (hide (NN F O) H3) (.tuple kds) v) I2 ⟨O, ρ, _, r.mono sm1, ek, fun v H' s' r' => ⟨s', r'⟩⟩) fun iv s3 ⟨y, H3, I3, ry, sm2, rk⟩ => ?_
  obtain ⟨_, b, bs, rfl, hb, _⟩ := rk.tupV
  obtain rfl : iv = Value.ref b := ry
  have sm := sm1.trans sm2
  have dk3 := h7.mono (hide_same (N := NN F O) sm)
  have dd := dict_h I3 (sm _ _ h3) h5 h6 dk3
  refine wpAny_setItem_heap (hsz := by rw [dk3.len]; exact z) (show (nestedKind X.prog X.w).room X.A.in1 by show X.A.in1.units + 8 < cLine; show X.A.units + 1 + 8 < cLine; omega) (key_h I3 rk e3 e4) dd fun h' dd' hs' => ?_
  obtain ⟨q, es', ep', hq, g2, g3, g4, _, g5⟩ := dd'
  have I4 : Inv X pins σ (upd H3 a (dicO a es' ep')) { s3 with heap := h', toks := s3.toks + (nestedKind X.prog X.w).draws k } := d_write I3 (by rw [sm _ _ h3]; exact True.intro) hs' ⟨q, hq⟩ (dic_ok ⟨q, hq, g2, g3⟩)
  refine ⟨σ, _, I4, ?_⟩
  have dkn := dk3.put e3 e4 rk rrv (rd.mono (hide_same sm2))
  obtain ⟨m1, m2⟩ := (r.mono sm).mutCell (i := i) (ob := dicO a es' ep') (c := .odc (dput kvs (.tuple kds) k d)) h1 (List.getElem?_eq_some_iff.mp (getC_iff.mp hc)).1 (hc := ⟨by simp, by simp⟩) fun H' eH vis => by
    subst eH
    exact ⟨Nat.le_trans (dput_len _ _ _ _) (by omega), a, es', ep', _, h1, h2, upd_same, h4, g4, g5, dkn.mono vis⟩
  exact p O _ _ m1 ((hide_same sm).trans m2)
/-! the keys -/
def Itkn (a : Addr) (es : Array DictEntry) (ep : Nat) : It :=
  ⟨fun i H => H a = some (dicO a es ep) ∧ i < es.size, fun i H x H' => H' = H ∧ ∃ en q, es[i]? = some en ∧ en.key = .ref q ∧ x = .ref q, fun i H => H a = some (dicO a es ep) ∧ es.size ≤ i⟩
theorem turn_keysN {P : Program} {w : World} {K : PySem.W.Frag} {tg : Expr} {a : Addr} {es : Array DictEntry} {ep : Nat} (it : Addr) (hk : ∀ (i : Nat) en, es[i]? = some en → ∃ q, en.key = .ref q) : Turn P w K tg (Itkn a es ep) [it] it (fun i h => h.IsKeyIter it a i es.size ep) where
  mem := by simp
  obj := fun i h st b hb => by
    have e : b = it := by simpa using hb
    subst e
    obtain ⟨oi, e, c, dd⟩ := st
    exact ⟨oi, e, fun v z => by rw [dd] at z; cases z⟩
  keep := fun i h h' st k => st.at fun oi e => k it (by simp) oi e
  item := by
    intro X hP hw hK hc i pins s σ H E I hf st hg
    subst hP hw hK
    obtain ⟨hd, hi⟩ := hg
    obtain ⟨f0, f1, f2, f3, f4, f5⟩ := hf it (by simp)
    have e0 : es[i]? = some es[i] := Array.getElem?_eq_getElem hi
    obtain ⟨q, hq⟩ := hk i _ e0
    refine wpAny_pyNext_keys_item_raw st (I.hok a _ hd).1 hi fun h' st' sb => ?_
    have I1 : Inv X pins σ H { s with heap := h' } := I.turned (t' := s.toks) (fun b ob hb e => (sb.2 b hb).trans e) f0 f1 f3 f4 f5
    obtain ⟨oi, e, c, dd⟩ := id st'
    exact ⟨es[i].key, rfl, go_of (s := { s with heap := h' }) e c dd (by decide) ⟨.ref q, H, I1, hq, ⟨rfl, _, q, e0, hq, rfl⟩, st', fun b hb => (hf b hb).1⟩⟩
  done := by
    intro X hP hw hK hc i pins s σ H E I hf st hg
    subst hP hw hK
    obtain ⟨hd, hi⟩ := hg
    obtain ⟨f0, f1, f2, f3, f4, f5⟩ := hf it (by simp)
    exact wpAny_pyNext_keys_end_raw (I.ok.hd hc) st (I.hok a _ hd).1 hi fun h' eb => ⟨rfl, I.turned (t' := s.toks) (fun b ob hb e => eb b ob hb e) f0 f1 f3 f4 f5⟩
  self := fun A i s Q E st h => wpAny_pyIter_keyiter st h
theorem wk_dict {tq : Tg} {K : PySem.W.Frag} {P : Program} {w : World} {B E : Hp} {a : Addr} {es : Array DictEntry} {ep : Nat} {kvs : List (PyData × PyData)} {xs : List EntK} (z : kvs.length ≤ sizeLine) (h : B a = some (dicO a es ep)) (h5 : es.toList = xs.map (entryOfKey (nestedKind P w))) (t : DK K E kvs xs) : Wk tq K B E (Itkn a es ep) (kvs.map (·.1)) := by
  have ln : es.size = kvs.length := by rw [← Array.length_toList, h5, List.length_map, t.len]
  refine ⟨by rw [List.length_map]; exact z, fun H i s hi => ⟨s _ _ h, by rw [List.length_map] at hi; omega⟩, fun H s => ⟨s _ _ h, by rw [List.length_map]; omega⟩, fun H i x H' s hi y => ?_⟩
  obtain ⟨e, en, q, y1, y2, y3⟩ := y
  subst e y3
  rw [List.length_map] at hi
  obtain ⟨p, hp⟩ : ∃ p, kvs[i]? = some p := ⟨_, List.getElem?_eq_getElem hi⟩
  obtain ⟨u, e1, e2⟩ := t.keys hp
  have e3 : es.toList[i]? = some en := by rw [Array.getElem?_toList]; exact y1
  rw [h5, List.getElem?_map, e1] at e3
  cases e3
  have e4 : u.2.1 = q := by have : Value.ref u.2.1 = Value.ref q := y2; cases this; rfl
  rw [e4] at e2
  exact ⟨Same.refl _, p.1, by rw [List.getElem?_map, hp]; rfl, fun N hn se => .of (e2.mono se)⟩
def dkeysL (i : Nat) : Ev → Rs (List PyData) := fun ρ => match getC ρ i with | some (.odc kvs) => .ok (kvs.map (·.1)) | _ => .no
theorem j_dict {t : Tg} {tg : Expr} {x : Str} {pos : Pos} (i : Nat) (ho : PE X (.Name x pos) (tVar i)) : PI X tg (.Name x pos) (tJ X.kb F t (dkeysL i)) := by
  refine ⟨fun pins s σ H R I ⟨O, ρ, ds, r, e, q⟩ => ?_⟩
  unfold dkeysL at e
  split at e <;> first | (cases e; done) | skip
  rename_i kvs hc
  cases e
  obtain ⟨z, a, es, ep, xs, h1, h2, h3, h4, h5, h6, h7⟩ := r.slots i _ (getC_iff.mp hc)
  refine thn (ho.run pins s σ H (fun y H1 => y = .ref a ∧ H1 = H) I ⟨_, h2, rfl, rfl⟩) fun u s1 ⟨y, H1, I1, rx, ey, eH⟩ => ?_
  subst ey eH
  obtain rfl : u = Value.ref a := rx
  refine wpAny_pyIter_dict_raw h4 (I1.hok a _ h3).1 (pi_one (tk := s1.toks) I1 _ (turn_keysN _ fun i en e => ?_) ⟨_, Heap.get?_push_size _ rfl, rfl, rfl⟩ (q _ H1 (Same.refl _) (wk_dict z h3 h5 h7)))
  have e' : es.toList[i]? = some en := by rw [Array.getElem?_toList]; exact e
  rw [h5, List.getElem?_map] at e'
  obtain ⟨y, _, y2⟩ := Option.map_eq_some_iff.mp e'
  subst y2
  exact ⟨_, rfl⟩
/-! {} as a value, list(range(..)) -/
theorem e_empty {pos : Pos} : EP' X F (.Dict [] [] pos) (cn (.dict [])) := wkE pe_dnewK fun σ H Q ⟨O, ρ, d, r, e, q⟩ p hp => by
  have e' : d = .dict [] := (Rs.ok.inj e).symm
  subst e'
  exact q _ _ (same_upd hp) (by rw [R]; exact ⟨rfl, p, rfl, hide_of (fun z => r.nlive z hp) upd_same⟩)
theorem ra_range {K : PySem.W.Frag} {H : Hp} {lo : Int} : ∀ l : List Nat, RA K H (l.map fun (k : Nat) => .int (lo + (k : Int))) (l.map fun i => V.int (lo + (i : Nat)))
  | [] => .nil
  | _ :: r => .cons .int (ra_range r)
theorem sz_range {n : Nat} (h : n ≤ 16777216) : n ≤ sizeLine := by rw [sizeLine_eq]; omega
theorem n_listRange1 {a : Expr} {f : Ev → Rs PyData} {p p2 pos pos2 : Pos} (hc : X.calm = true) (hg : Gl X "list") (hm : X.mg "list" = none) (hg2 : Gl X "range") (hm2 : X.mg "range" = none) (ha : EP' X F a f)
    (na : starEach [a] X.env = (false, eval a X.env) :: starEach [] X.env := by rfl) (nb : starEach [Expr.Call (.Name "range" p2) [a] [] pos2] X.env = (false, eval (Expr.Call (.Name "range" p2) [a] [] pos2) X.env) :: starEach [] X.env := by rfl) :
    NP' X F (.Call (.Name "list" p) [.Call (.Name "range" p2) [a] [] pos2] [] pos) (apN rng1 (aC f aN)) :=
  wkE (pe_listRg hc hg hm (prg_1 hg2 hm2 ha na) nb) fun σ H Q ⟨O, ρ, ds, r, e, q⟩ => by
    obtain ⟨l, el, e⟩ := Rs.bnd_eq e
    obtain ⟨d1, e1, el⟩ := Rs.bnd_eq el
    cases el
    unfold rng1 at e
    split at e <;> first | (cases e; done) | skip
    rename_i j hj
    cases hj
    split at e <;> first | (cases e; done) | skip
    rename_i hz
    rw [rgMax_eq] at hz
    cases e
    refine ⟨O, ρ, _, r, e1, fun v H1 s1 r1 => ⟨j, r1.intV, ⟨by omega, by omega, by omega, by omega, by omega⟩, fun p hp => ?_⟩⟩
    have ln : (rangeL 0 j.toNat).length = j.toNat := by simp [rangeL]
    refine q p _ _ (s1.trans (same_upd hp)) (s1.free hp) upd_same (by rw [ln]; exact sz_range (by omega)) ?_
    unfold rgV rangeL
    rw [show (j - 0).toNat = j.toNat by omega]
    exact ra_range _
theorem n_listRange2 {a b : Expr} {f g : Ev → Rs PyData} {p p2 pos pos2 : Pos} (hc : X.calm = true) (hg : Gl X "list") (hm : X.mg "list" = none) (hg2 : Gl X "range") (hm2 : X.mg "range" = none) (ha : EP' X F a f) (hb : EP' X F b g)
    (na : starEach [a, b] X.env = (false, eval a X.env) :: starEach [b] X.env := by rfl) (nb : starEach [b] X.env = (false, eval b X.env) :: starEach [] X.env := by rfl) (hp : (backTo pos2 (starEach [b] X.env)).any (·.1) = false := by rfl)
    (nc : starEach [Expr.Call (.Name "range" p2) [a, b] [] pos2] X.env = (false, eval (Expr.Call (.Name "range" p2) [a, b] [] pos2) X.env) :: starEach [] X.env := by rfl) :
    NP' X F (.Call (.Name "list" p) [.Call (.Name "range" p2) [a, b] [] pos2] [] pos) (apN rng2 (aC f (aC g aN))) :=
  wkE (pe_listRg hc hg hm (prg_2 hg2 hm2 ha hb na nb hp) nc) fun σ H Q ⟨O, ρ, ds, r, e, q⟩ => by
    obtain ⟨l, el, e⟩ := Rs.bnd_eq e
    obtain ⟨d1, e1, el⟩ := Rs.bnd_eq el
    obtain ⟨l2, el2, el⟩ := Rs.bnd_eq el
    obtain ⟨d2, e2, el2⟩ := Rs.bnd_eq el2
    cases el2
    cases el
    unfold rng2 at e
    split at e <;> first | (cases e; done) | skip
    rename_i i j hj
    cases hj
    split at e <;> first | (cases e; done) | skip
    rename_i hz
    rw [rgMax_eq] at hz
    cases e
    refine ⟨O, ρ, _, r, e1, fun v H1 s1 r1 => ⟨O, ρ, _, r.mono s1, e2, fun v2 H2 s2 r2 => ⟨i, j, r1.intV, r2.intV, ⟨by omega, by omega, by omega, by omega, by omega⟩, fun p hp => ?_⟩⟩⟩
    have ln : (rangeL i (j - i).toNat).length = (j - i).toNat := by simp [rangeL]
    refine q p _ _ ((s1.trans s2).trans (same_upd hp)) ((s1.trans s2).free hp) upd_same (by rw [ln]; exact sz_range (by omega)) ?_
    unfold rgV rangeL
    exact ra_range _
/-! a call as a statement; what never comes to an end -/
def sDo (f : Ev → Rs PyData) : Ev → Rs Out := fun ρ => (f ρ).bnd fun _ => .ok (.nx ρ)
theorem s_do {e : Expr} {f : Ev → Rs PyData} {pos : Pos} (h : EP' X F e f) (hs : swapsWith e none pos.line X.env = pure false := by rfl) : SP' X F (.Expr e pos) (sDo f) := wkS (ps_expr h hs) fun D σ H ⟨O, ρ, o, r, e, p⟩ => by
  obtain ⟨d, ed, e⟩ := Rs.bnd_eq e
  cases e
  exact ⟨O, ρ, d, r, ed, fun v H' s r' => p O σ H' (r.mono s) (hide_same s)⟩
theorem ss_never {sts : List Stmt} : SSP' X F sts (fun _ => .no) := ⟨fun pins s σ H D I ⟨O, ρ, o, r, e, p⟩ => nomatch e⟩
end
/-! comprehensions within comprehensions -/
def relabS (scope sc0 : Scope) : Scope := { scope with names := scope.names.map fun (n, k) => if (k == .free && sc0.kind == .function && sc0.names.lookup n == some .cell) then (n, .cell) else (n, k) }
theorem blkOk_in {N : List Str} {scope scope' sc0 : Scope} {env : Env} {cl : List (Str × Addr)} {C : Addr} {own : List (Str × Nat)} (e : env.scope = sc0) (h : blkC N (relabS scope sc0) scope' own = true) : BlkOk N (compEnvC scope cl C env).scope scope' own := by
  subst e
  exact blkOk_by h
end PL


/-! PL10: comprehensions of two sources -/
namespace PL
open PySem PySem.Spec PyProof.Rows L2
def comp2L (t : Tg) (cond : Ev → Rs Bool) (it1 : Ev → Rs (List PyData)) (t1 : Tg) (vs1 : List Nat) (cond1 : Ev → Rs Bool) (elt : Ev → Rs PyData) (ρ : Ev) : List PyData → Rs (List PyData)
  | [] => .ok []
  | d :: r => (tgt t d ρ).bnd fun ρ1 => (cond ρ1).bnd fun b => if b = true then (it1 ρ1).bnd fun ds1 => (compL t1 cond1 elt (wipeE ρ1 vs1) ds1).bnd fun ys => (comp2L t cond it1 t1 vs1 cond1 elt ρ r).bnd fun zs => .ok (ys ++ zs) else comp2L t cond it1 t1 vs1 cond1 elt ρ r
def comp2 (it : Ev → Rs (List PyData)) (t : Tg) (own : List Nat) (cond : Ev → Rs Bool) (it1 : Ev → Rs (List PyData)) (t1 : Tg) (vs1 : List Nat) (cond1 : Ev → Rs Bool) (elt : Ev → Rs PyData) : Ev → Rs (List PyData) := fun ρ => (it ρ).bnd fun ds => (comp2L t cond it1 t1 vs1 cond1 elt (wipeE ρ own) ds).bnd fun ys => if ys.length ≤ sizeLine then .ok ys else .no
def iE (K : KB) (t : Tg) (g : Ev → Rs (List PyData)) : TI := fun σ H RR => ∃ F, tI K F t g σ H RR
theorem all_i {X : Cx} {t : Tg} {tg e : Expr} {g : Ev → Rs (List PyData)} (h : ∀ F, PI X tg e (tI X.kb F t g)) : PI X tg e (iE X.kb t g) := ⟨fun pins s σ H Q I ⟨F, q⟩ => (h F).run pins s σ H Q I q⟩
theorem rel_re {K : KB} {F : FC} {O O' : Own} {ρ : Ev} {σ : St} {Ha H H' : Hp} {D : Addr} {vs : List Nat} (r : Rel K (fcAt F O vs Ha D) O' ρ σ H) (off : ∀ a x, a ≠ D → H a = some x → H' a = some x) (ha : Ha D ≠ none) (hD : H' D ≠ none) : Rel K (fcAt F O vs H' D) O' ρ σ H' := by
  have oD : ∀ i, O' i ≠ some D := by
    cases e : Ha D with
    | none => exact absurd e ha
    | some x => exact (r.base D x (by show (if D = D then Ha D else _) = some x; rw [if_pos rfl]; exact e)).2
  have old : ∀ a, a ≠ D → F.H0 a = none → (∃ i, (i ∈ vs ∧ i < 1000) ∧ O i = some a) → ∃ y, H a = some y ∧ ∀ i, O' i ≠ some a := fun a e q hx => by
    have h1 := r.hidl a (.inr (.inr hx))
    cases e1 : (fcAt F O vs Ha D).H0 a with
    | none => exact absurd e1 h1
    | some y => exact ⟨y, r.base a y e1⟩
  refine ⟨r.len, r.inj, fun i a h => ?_, fun a h => ?_, fun a x h => ?_, fun i c q => ?_, r.obs⟩
  · have := r.live i a h
    cases e : H a with
    | none => exact absurd e this
    | some x => rw [off a x (fun z => oD i (by rw [← z]; exact h)) e]; simp
  · show (if a = D then H' D else match F.H0 a with | some x => some x | none => _) ≠ none
    by_cases e : a = D
    · rw [if_pos e]; exact hD
    · rw [if_neg e]
      cases q : F.H0 a with
      | some x => simp
      | none =>
        simp only
        have hx : ∃ i, (i ∈ vs ∧ i < 1000) ∧ O i = some a := by
          rcases h with h | h | h
          · have h1 := r.hidl a (.inl h)
            by_cases hx : ∃ i, (i ∈ vs ∧ i < 1000) ∧ O i = some a
            · exact hx
            · refine absurd ?_ h1
              show (if a = D then Ha D else match F.H0 a with | some x => some x | none => _) = none
              rw [if_neg e, q]
              simp only
              rw [if_neg hx]
          · exact absurd h e
          · exact h
        rw [if_pos hx]
        obtain ⟨y, hy, _⟩ := old a e q hx
        rw [off a y e hy]; simp
  · have h' : (if a = D then H' D else match F.H0 a with | some x => some x | none => (open Classical in if ∃ i, (i ∈ vs ∧ i < 1000) ∧ O i = some a then H' a else none)) = some x := h
    by_cases e : a = D
    · rw [if_pos e] at h'
      exact ⟨by rw [e]; exact h', fun i z => oD i (by rw [← e]; exact z)⟩
    · rw [if_neg e] at h'
      cases q : F.H0 a with
      | some y =>
        rw [q] at h'
        simp only at h'
        cases h'
        obtain ⟨b1, b2⟩ := r.base a x (by show (if a = D then Ha D else match F.H0 a with | some x => some x | none => _) = _; rw [if_neg e, q])
        exact ⟨off a x e b1, b2⟩
      | none =>
        rw [q] at h'
        simp only at h'
        split at h'
        · rename_i hx
          exact ⟨h', (old a e q hx).elim fun y hy => hy.2⟩
        · exact nomatch h'
  · refine (r.slots i c q).move (fun a o e => ?_) (fun _ _ => rfl) rfl fun j a x _ q e => off a x (fun z => oD j (by rw [← z]; exact q)) e
    obtain ⟨e1, e2⟩ := hide_some e
    exact hide_of e1 (off a o (fun z => e1 (.inl (.inr (.inl z)))) e2)
theorem nn_eq {F : FC} {O : Own} {vs : List Nat} {H : Hp} {D : Addr} : NN (fcAt F O vs H D) (outO O vs) = nP (NN F O) D := funext fun a => propext (nn_at a)
section
variable {X : Cx} {F : FC}
theorem lc2_read {it it1 : Ev → Rs (List PyData)} {t t1 : Tg} {vs vs1 : List Nat} {cond cond1 : Ev → Rs Bool} {elt : Ev → Rs PyData} (hsl : ∀ i ∈ t.slots, i ∈ vs) (hsl1 : ∀ i ∈ t1.slots, i ∈ vs1) (hv : ∀ i ∈ vs1, i ∈ vs) (σ : St) (H : Hp) (Q : VK) (h : tN X.kb F (comp2 it t vs cond it1 t1 vs1 cond1 elt) σ H Q) :
    tLc2 (tJ X.kb F t it) (gE X.kb t) (tTE X.kb cond) (iE X.kb t1 it1) (gE X.kb t1) (tTE X.kb cond1) (tPE X.kb elt) vs vs1 σ H Q := by
  obtain ⟨O, ρ, ys, r, e, q⟩ := h
  obtain ⟨ds, ed, e⟩ := Rs.bnd_eq e
  obtain ⟨ys', e, ez⟩ := Rs.bnd_eq e
  split at ez <;> first | (cases ez; done) | skip
  rename_i lenY
  cases ez
  refine ⟨O, ρ, ds, r, ed, fun J H1 s1 w D hD => ?_⟩
  have r1 := r.mono s1
  let P : Nat → Hp → Prop := fun i H => ∃ acc yd yr, H D = some (.lst acc) ∧ Same H1 H ∧ RA X.K (hide (nP (NN F O) D) H) yd acc ∧ comp2L t cond it1 t1 vs1 cond1 elt (wipeE ρ vs) (ds.drop i) = .ok yr ∧ ys = yd ++ yr ∧ i ≤ ds.length
  have s0 : Same H1 (upd H1 D (.lst [])) := same_upd hD
  refine ⟨fun i m H => m = ds.length - i ∧ P i H, ⟨_, rfl, [], [], ys, upd_same, s0, .nil, by rw [List.drop_zero]; exact e, rfl, Nat.zero_le _⟩, ?_⟩
  rintro i m H2 ⟨rfl, acc, yd, yr, hl, sm, ra, ec, ey, hi⟩
  by_cases hlt : i < ds.length
  · refine .inr ⟨w.go H2 i sm hlt, P (i + 1), fun H' p => ⟨ds.length - (i + 1), by omega, rfl, p⟩, fun x H3 y => ?_⟩
    obtain ⟨s3, d, edd, rd⟩ := w.yld H2 i x H3 sm hlt y
    have hl3 := s3 _ _ hl
    have rel3 := rel_at (vs := vs) (H := H3) r1 hD (sm.trans s3) hl3
    have edrop : ds.drop i = d :: ds.drop (i + 1) := by
      rw [List.drop_eq_getElem_cons hlt]
      rw [List.getElem?_eq_getElem hlt] at edd
      rw [Option.some.inj edd]
    rw [edrop] at ec
    unfold comp2L at ec
    obtain ⟨ρ1, e1, ec⟩ := Rs.bnd_eq ec
    obtain ⟨b, e2, ec⟩ := Rs.bnd_eq ec
    have live2 : ∀ a, NN (fcAt F O vs H3 D) (outO O vs) a → H2 a ≠ none := fun a z => by
      rcases (nn_at a).mp z with z | z
      · exact same_ne sm (r1.nlive z)
      · rw [z, hl]; simp
    have seen : Same (hide (NN F O) H1) (hide (NN (fcAt F O vs H3 D) (outO O vs)) H2) := fun a o e => by
      obtain ⟨e1, e2⟩ := hide_some e
      exact hide_of (fun z => ((nn_at a).mp z).elim e1 fun z => by rw [z, hD] at e2; exact nomatch e2) (sm _ _ e2)
    refine ⟨fcAt F O vs H3 D, outO O vs, wipeE ρ vs, d, ρ1, rel3, rd _ live2 seen, e1, fun O' σ' g => ?_⟩
    have eO : O' = outO O vs := g.own fun j hj => fun hb => by unfold outO; rw [if_pos ⟨hsl j hj, hb⟩]
    subst eO
    refine ⟨?_, fcAt F O vs H3 D, outO O vs, ρ1, b, g.rel, e2, fun H4 s4 => ?_⟩
    · rw [wipe_eq (σ := L2.wipe σ vs) (fun j hj => g.out j fun z => hj (hsl j z)) g.len, wipe_wipe]
    · have rel4 := g.rel.mono s4
      cases b with
      | true =>
        simp only [if_true] at ec ⊢
        obtain ⟨ds1, e3, ec⟩ := Rs.bnd_eq ec
        obtain ⟨us, e4, ec⟩ := Rs.bnd_eq ec
        obtain ⟨zs, e5, ec⟩ := Rs.bnd_eq ec
        cases ec
        refine ⟨fcAt F O vs H3 D, outO O vs, ρ1, ds1, rel4, e3, fun J1 H5 s5 w1 => ?_⟩
        have rel5 := rel4.mono s5
        have s25 : Same H2 H5 := (s3.trans s4).trans s5
        have hl5 := s25 _ _ hl
        rw [nn_eq] at w1
        let P1 : Nat → Hp → Prop := fun j H => ∃ acc yd yr, H D = some (.lst acc) ∧ (∀ a x, a ≠ D → H5 a = some x → H a = some x) ∧ RA X.K (hide (nP (NN F O) D) H) yd acc ∧ compL t1 cond1 elt (wipeE ρ1 vs1) (ds1.drop j) = .ok yr ∧ ys = yd ++ (yr ++ zs) ∧ j ≤ ds1.length
        refine ⟨fun j k H => k = ds1.length - j ∧ P1 j H, ⟨_, rfl, acc, yd, us, hl5, fun a x _ q => q, ra.mono (hide_same s25), by rw [List.drop_zero]; exact e4, ey, Nat.zero_le _⟩, ?_⟩
        rintro j k H6 ⟨rfl, acc6, yd6, yr6, hl6, off6, ra6, ec6, ey6, hj6⟩
        have vis6 : Same (hide (nP (NN F O) D) H5) (hide (nP (NN F O) D) H6) := fun a o e => by
          obtain ⟨n1, n2⟩ := hide_some e
          exact hide_of n1 (off6 a o (fun z => n1 (.inr z)) n2)
        have sm6 : Same H1 H6 := fun a o e => off6 a o (fun z => by rw [z, hD] at e; exact nomatch e) ((sm.trans s25) a o e)
        by_cases hlt1 : j < ds1.length
        · refine .inr ⟨w1.go H6 j (vis6.trans hide_le) hlt1, P1 (j + 1), fun H' p => ⟨ds1.length - (j + 1), by omega, rfl, p⟩, fun x7 H7 y7 => ?_⟩
          obtain ⟨s7, d7, edd7, rd7⟩ := w1.yld H6 j x7 H7 (vis6.trans hide_le) hlt1 y7
          have hl7 := s7 _ _ hl6
          have rel7 := (rel_re (H' := H7) rel5 (fun a x ne q => s7 _ _ (off6 a x ne q)) (by rw [hl3]; simp) (by rw [hl7]; simp)).wipe vs1
          have edrop7 : ds1.drop j = d7 :: ds1.drop (j + 1) := by
            rw [List.drop_eq_getElem_cons hlt1]
            rw [List.getElem?_eq_getElem hlt1] at edd7
            rw [Option.some.inj edd7]
          rw [edrop7] at ec6
          unfold compL at ec6
          obtain ⟨ρ7, e71, ec6⟩ := Rs.bnd_eq ec6
          obtain ⟨b7, e72, ec6⟩ := Rs.bnd_eq ec6
          have live6 : ∀ a, NN (fcAt F O vs H7 D) (outO O vs) a → H6 a ≠ none := fun a z => by
            rcases (nn_at a).mp z with z | z
            · exact same_ne sm6 (r1.nlive z)
            · rw [z, hl6]; simp
          refine ⟨fcAt F O vs H7 D, outO O vs, wipeE ρ1 vs1, d7, ρ7, rel7, rd7 _ live6 (by rw [nn_eq]; exact vis6), e71, fun O' σ'' g7 => ?_⟩
          have eO7 : O' = outO O vs := g7.own fun j hj => fun hb => by unfold outO; rw [if_pos ⟨hv j (hsl1 j hj), hb⟩]
          subst eO7
          refine ⟨?_, fcAt F O vs H7 D, outO O vs, ρ7, b7, g7.rel, e72, fun H8 s8 => ?_⟩
          · rw [wipe_eq (σ := L2.wipe σ' vs1) (fun j hj => g7.out j fun z => hj (hsl1 j z)) g7.len, wipe_wipe]
          · have rel8 := g7.rel.mono s8
            have s68 : Same H6 H8 := s7.trans s8
            cases b7 with
            | true =>
              simp only [if_true] at ec6 ⊢
              obtain ⟨y', e83, ec6⟩ := Rs.bnd_eq ec6
              obtain ⟨zs6, e84, ec6⟩ := Rs.bnd_eq ec6
              cases ec6
              have lt6 : acc6.length < sizeLine := by
                have l1 := ra6.len
                have l2 := congrArg List.length ey6
                simp only [List.length_append, List.length_cons] at l2
                omega
              refine ⟨fcAt F O vs H7 D, outO O vs, ρ7, y', rel8, e83, fun v H9 s9 r9 => ⟨acc6, s9 _ _ (s68 _ _ hl6), lt6, ?_⟩⟩
              have s69 : Same H6 H9 := s68.trans s9
              rw [nn_eq] at r9
              have keep : Same (hide (nP (NN F O) D) H9) (hide (nP (NN F O) D) (upd H9 D (.lst (acc6 ++ [v])))) := fun a o e => by
                obtain ⟨n1, n2⟩ := hide_some e
                exact hide_of n1 (by rw [upd_ne (fun z => n1 (.inr z))]; exact n2)
              refine ⟨acc6 ++ [v], yd6 ++ [y'], zs6, upd_same, fun a x ne q => ?_, ?_, e84, by rw [ey6]; simp, hlt1⟩
              · rw [upd_ne ne]
                exact s69 _ _ (off6 a x ne q)
              · exact ((ra6.mono (hide_same s69)).append (.cons r9 .nil)).mono keep
            | false =>
              simp only [Bool.false_eq_true, if_false] at ec6 ⊢
              exact ⟨acc6, yd6, yr6, s68 _ _ hl6, fun a x ne q => s68 _ _ (off6 a x ne q), ra6.mono (hide_same s68), ec6, ey6, hlt1⟩
        · have ej : j = ds1.length := by omega
          subst ej
          refine .inl ⟨w1.stop H6 (vis6.trans hide_le), ?_⟩
          rw [List.drop_length] at ec6
          cases ec6
          exact ⟨acc6, yd6, zs, hl6, sm6, ra6, e5, by rw [ey6]; rfl, hlt⟩
      | false =>
        simp only [Bool.false_eq_true, if_false] at ec ⊢
        have s24 : Same H2 H4 := s3.trans s4
        exact ⟨acc, yd, yr, s24 _ _ hl, sm.trans s24, ra.mono (hide_same s24), ec, ey, hlt⟩
  · have ei : i = ds.length := by omega
    subst ei
    refine .inl ⟨w.stop H2 sm, ?_⟩
    rw [List.drop_length] at ec
    cases ec
    rw [List.append_nil] at ey
    subst ey
    exact q D acc H2 (s1.trans sm) (s1.free hD) hl lenY ra
theorem n_comp2 {el tg iter tg1 iter1 : Expr} {ifs ifs1 : List Expr} {scope : Scope} {own : List (Str × Nat)} {pos : Pos} {it it1 : Ev → Rs (List PyData)} {t t1 : Tg} {vs1 : List Nat} {cond cond1 : Ev → Rs Bool} {elt : Ev → Rs PyData} (hc : X.calm = true) (hN : X.N.Nodup) (hi : PI X tg iter (tJ X.kb F t it)) (ok : BlkOk X.N X.env.scope scope own) (hsl : ∀ i ∈ t.slots, i ∈ own.map (·.2)) (hsl1 : ∀ i ∈ t1.slots, i ∈ vs1) (hv : ∀ i ∈ vs1, i ∈ own.map (·.2))
    (hg : ∀ (F : FC) (s : Shared) (H : Hp) (C : Addr) (cl : List (Str × Addr)) (fp : List Addr), PG (X.blk s H scope (compEnvC scope cl C X.env) fp) tg (gP X.kb F t))
    (ht : ∀ (s : Shared) (H : Hp) (C : Addr) (cl : List (Str × Addr)) (fp : List Addr), PTs (X.blk s H scope (compEnvC scope cl C X.env) fp) ifs (tTE X.kb cond))
    (hi1 : ∀ (F : FC) (s : Shared) (H : Hp) (C : Addr) (cl : List (Str × Addr)) (fp : List Addr), PI (X.blk s H scope (compEnvC scope cl C X.env) fp) tg1 iter1 (tI X.kb F t1 it1))
    (hg1 : ∀ (F : FC) (s : Shared) (H : Hp) (C : Addr) (cl : List (Str × Addr)) (fp : List Addr), PG (X.blk s H scope (compEnvC scope cl C X.env) fp) tg1 (gP X.kb F t1))
    (ht1 : ∀ (s : Shared) (H : Hp) (C : Addr) (cl : List (Str × Addr)) (fp : List Addr), PTs (X.blk s H scope (compEnvC scope cl C X.env) fp) ifs1 (tTE X.kb cond1))
    (he : ∀ (F : FC) (s : Shared) (H : Hp) (C : Addr) (cl : List (Str × Addr)) (fp : List Addr), PE (X.blk s H scope (compEnvC scope cl C X.env) fp) el (tP X.kb F elt)) (hs : ∀ x, foldedSetIterable iter X.env x = pure x := by intro _; rfl) (hs1 : ∀ env x, foldedSetIterable iter1 env x = pure x := by intro _ _; rfl) :
    NP' X F (.ListComp el [⟨tg, iter, ifs, 0⟩, ⟨tg1, iter1, ifs1, 0⟩] scope pos) (comp2 it t (own.map (·.2)) cond it1 t1 vs1 cond1 elt) :=
  wkE (pe_lc2 hc hN hi ok hv (fun s H C cl fp => all_g fun F => hg F s H C cl fp) ht (fun s H C cl fp => all_i fun F => hi1 F s H C cl fp) (fun s H C cl fp => all_g fun F => hg1 F s H C cl fp) ht1 (fun s H C cl fp => all_p fun F => he F s H C cl fp) hs hs1) fun σ H Q h => lc2_read hsl hsl1 hv σ H Q h
theorem s_comp2 {st : Stmt} {i : Nat} {it it1 : Ev → Rs (List PyData)} {t t1 : Tg} {vs vs1 : List Nat} {cond cond1 : Ev → Rs Bool} {elt : Ev → Rs PyData} (hsl : ∀ i ∈ t.slots, i ∈ vs) (hsl1 : ∀ i ∈ t1.slots, i ∈ vs1) (hv : ∀ i ∈ vs1, i ∈ vs) (h : PS X st (tAsg (tLc2 (tJ X.kb F t it) (gE X.kb t) (tTE X.kb cond) (iE X.kb t1 it1) (gE X.kb t1) (tTE X.kb cond1) (tPE X.kb elt) vs vs1) (gName i))) : PS X st (tAsg (tN X.kb F (comp2 it t vs cond it1 t1 vs1 cond1 elt)) (gName i)) :=
  wkS h fun D σ H q => lc2_read hsl hsl1 hv σ H _ q
end
end PL


/-! PL11: zip, enumerate; tables of the top: data, and defs that are picked by a text -/
namespace PL
open PySem PySem.Spec PyProof.Rows L2
/-! zip, enumerate -/
def pairs (xs ys : List PyData) : List PyData := List.zipWith (fun x y => .tuple [x, y]) xs ys
def zipD : List PyData → Rs (List PyData)
  | [.list a, .list b] => .ok (pairs a b)
  | [.tuple a, .tuple b] => .ok (pairs a b)
  | _ => .no
def enumD : List PyData → Rs (List PyData)
  | [.list a] => .ok (a.mapIdx fun i x => .tuple [.int i, x])
  | _ => .no
theorem pairs_at {xs ys : List PyData} {i : Nat} {x y : PyData} (h : xs[i]? = some x) (h' : ys[i]? = some y) : (pairs xs ys)[i]? = some (.tuple [x, y]) := by
  unfold pairs; rw [List.getElem?_zipWith, h, h']
theorem pair_R {is : List Nat} {K : PySem.W.Frag} {N : Addr → Prop} {H : Hp} {T : Addr} {d e : PyData} {x y : V} (hn : ∀ a, N a → H a ≠ none) (hT : H T = none) (r1 : R K (hide N H) d x) (r2 : R K (hide N H) e y) : RQ (.many is) K (hide N (upd H T (.tup [x, y]))) (.tuple [d, e]) (.ref T) := fun ds eq => by
  cases eq
  exact ⟨T, [x, y], rfl, .inl (.inl (hide_upd hn hT)), .cons (r1.mono (hide_same (same_upd hT))) (.cons (r2.mono (hide_same (same_upd hT))) .nil)⟩
theorem len_pairs {xs ys : List PyData} : (pairs xs ys).length = min xs.length ys.length := by unfold pairs; rw [List.length_zipWith]
theorem wk_zipL {is : List Nat} {K : PySem.W.Frag} {B E : Hp} {a b : Addr} {ds es : List PyData} {xs ys : List V} (z : ds.length ≤ sizeLine) (h : SqL K B a xs) (h' : SqL K B b ys) (t : RA K E ds xs) (t' : RA K E es ys) : Wk (.many is) K B E (Itz K a b) (pairs ds es) := by
  refine ⟨by rw [len_pairs]; omega, fun H i s hi => ?_, fun H s => ⟨xs, ys, s.seq h, s.seq h', by rw [len_pairs, t.len, t'.len]; omega⟩, fun H i x H' s hi y => ?_⟩
  · rw [len_pairs] at hi
    obtain ⟨x, e1, e2⟩ := t.get (List.getElem?_eq_getElem (show i < ds.length by omega))
    obtain ⟨y, e3, e4⟩ := t'.get (List.getElem?_eq_getElem (show i < es.length by omega))
    exact ⟨xs, ys, x, y, s.seq h, s.seq h', e1, e3⟩
  · obtain ⟨T, v, u, e, hT, eH, y1, y2⟩ := y
    subst e eH
    obtain ⟨d, e1, e2⟩ := t.getV (y1 xs (s.seq h))
    obtain ⟨d', e3, e4⟩ := t'.getV (y2 ys (s.seq h'))
    exact ⟨same_upd hT, _, pairs_at e1 e3, fun N hn se => pair_R hn hT (e2.mono se) (e4.mono se)⟩
theorem wk_zipT {is : List Nat} {K : PySem.W.Frag} {B E : Hp} {a b : Addr} {ds es : List PyData} {xs ys : List V} (z : ds.length ≤ sizeLine) (h : SqT K B a xs) (h' : SqT K B b ys) (t : RA K E ds xs) (t' : RA K E es ys) : Wk (.many is) K B E (RZ.ItzT K a b) (pairs ds es) := by
  refine ⟨by rw [len_pairs]; omega, fun H i s hi => ?_, fun H s => ⟨xs, ys, sqt_mono s h, sqt_mono s h', by rw [len_pairs, t.len, t'.len]; omega⟩, fun H i x H' s hi y => ?_⟩
  · rw [len_pairs] at hi
    obtain ⟨x, e1, e2⟩ := t.get (List.getElem?_eq_getElem (show i < ds.length by omega))
    obtain ⟨y, e3, e4⟩ := t'.get (List.getElem?_eq_getElem (show i < es.length by omega))
    exact ⟨xs, ys, x, y, sqt_mono s h, sqt_mono s h', e1, e3⟩
  · obtain ⟨T, v, u, e, hT, eH, y1, y2⟩ := y
    subst e eH
    obtain ⟨d, e1, e2⟩ := t.getV (y1 xs (sqt_mono s h))
    obtain ⟨d', e3, e4⟩ := t'.getV (y2 ys (sqt_mono s h'))
    exact ⟨same_upd hT, _, pairs_at e1 e3, fun N hn se => pair_R hn hT (e2.mono se) (e4.mono se)⟩
theorem wk_enum {is : List Nat} {K : PySem.W.Frag} {B E : Hp} {a : Addr} {ds : List PyData} {xs : List V} (z : ds.length ≤ sizeLine) (h : SqL K B a xs) (t : RA K E ds xs) : Wk (.many is) K B E (Ite K a) (ds.mapIdx fun i x => .tuple [.int i, x]) := by
  refine ⟨by rw [List.length_mapIdx]; exact z, fun H i s hi => ?_, fun H s => ⟨xs, s.seq h, by rw [List.length_mapIdx, t.len]; exact Nat.le_refl _⟩, fun H i x H' s hi y => ?_⟩
  · rw [List.length_mapIdx] at hi
    obtain ⟨x, e1, e2⟩ := t.get (List.getElem?_eq_getElem hi)
    exact ⟨xs, x, s.seq h, e1⟩
  · obtain ⟨T, u, e, hT, eH, y1⟩ := y
    subst e eH
    obtain ⟨d, e1, e2⟩ := t.getV (y1 xs (s.seq h))
    exact ⟨same_upd hT, _, by rw [List.getElem?_mapIdx, e1]; rfl, fun N hn se => pair_R hn hT .int (e2.mono se)⟩
section
variable {X : Cx} {F : FC}
theorem i_zip {is : List Nat} {e e2 : Expr} {g : Ev → Rs (List PyData)} {p pos tpos : Pos} {elts : List Expr} {kk : Nat} (hg : Gl X "zip") (hm : X.mg "zip" = none) (ha : AP' X F [e, e2] g)
    (hs : starEach [e, e2] X.env = (false, eval e X.env) :: starEach [e2] X.env := by rfl) (hpl : (backTo pos (starEach [e2] X.env)).any (·.1) = false := by rfl) : PI X (.Tuple elts kk tpos) (.Call (.Name "zip" p) [e, e2] [] pos) (tI X.kb F (.many is) (apN zipD g)) :=
  wkI (RZ.pi_zipA hg hm ha hs hpl) fun σ H Q ⟨O, ρ, ds, r, e, q⟩ => by
    obtain ⟨l, el, e⟩ := Rs.bnd_eq e
    unfold zipD at e
    split at e <;> first | (cases e; done) | skip
    · cases e
      refine ⟨O, ρ, _, r, el, fun vs H1 s1 r1 => ?_⟩
      obtain ⟨x, y, ev, g1, g2⟩ := r1.inv2
      obtain ⟨z1, a, xs, e1, h1, t1⟩ := g1.listV
      obtain ⟨z2, b, ys, e2, h2, t2⟩ := g2.listV
      subst e1 e2
      exact ⟨a, b, xs, ys, ev, .inl ⟨sqL_le h1, sqL_le h2, q _ H1 s1 (wk_zipL z1 h1 h2 t1 t2)⟩⟩
    · cases e
      refine ⟨O, ρ, _, r, el, fun vs H1 s1 r1 => ?_⟩
      obtain ⟨x, y, ev, g1, g2⟩ := r1.inv2
      obtain ⟨z1, a, xs, e1, h1, t1⟩ := g1.tupV
      obtain ⟨z2, b, ys, e2, h2, t2⟩ := g2.tupV
      subst e1 e2
      exact ⟨a, b, xs, ys, ev, .inr ⟨sqT_le h1, sqT_le h2, q _ H1 s1 (wk_zipT z1 h1 h2 t1 t2)⟩⟩
theorem i_enum {is : List Nat} {e : Expr} {g : Ev → Rs (List PyData)} {p pos tpos : Pos} {elts : List Expr} {kk : Nat} (hg : Gl X "enumerate") (hm : X.mg "enumerate" = none) (ha : AP' X F [e] g) (hs : starEach [e] X.env = [(false, eval e X.env)] := by rfl) : PI X (.Tuple elts kk tpos) (.Call (.Name "enumerate" p) [e] [] pos) (tI X.kb F (.many is) (apN enumD g)) :=
  wkI (pi_enum hg hm ha hs) fun σ H Q ⟨O, ρ, ds, r, e, q⟩ => by
    obtain ⟨l, el, e⟩ := Rs.bnd_eq e
    unfold enumD at e
    split at e <;> first | (cases e; done) | skip
    cases e
    refine ⟨O, ρ, _, r, el, fun vs H1 s1 r1 => ?_⟩
    obtain ⟨x, ev, g1⟩ := r1.inv1
    obtain ⟨z1, a, xs, e1, h1, t1⟩ := g1.listV
    subst e1
    exact ⟨a, xs, ev, sqL_le h1, q _ H1 s1 (wk_enum z1 h1 t1)⟩
/-! tables of the top -/
def cinD (tbl : List (Str × PyData)) : PyData → Rs PyData
  | .str z => .ok (.bool (tbl.lookup z).isSome)
  | _ => .no
def cninD (tbl : List (Str × PyData)) : PyData → Rs PyData
  | .str z => .ok (.bool (!(tbl.lookup z).isSome))
  | _ => .no
def cixD (tbl : List (Str × PyData)) : PyData → Rs PyData
  | .str z => match tbl.lookup z with | some d => .ok d | none => .no
  | _ => .no
/-- a table of the top with texts as keys -/
structure TabI (K : PySem.W.Frag) (mg : Str → Option Value) (w : World) (x : Str) (tbl : List (Str × PyData)) where
  a : Addr
  es : Array DictEntry
  n : Nat
  m : mg x = some (.ref a)
  d : KDict K w a es n
  v : ∀ z v, tbl.lookup z = some v → ∃ b, PySem.W.nsIn K a z = some (some (.ref b)) ∧ ∀ H, R K H v (.ref b)
  i : ∀ z, ∃ r, PySem.W.nsIn K a z = some r ∧ r.isSome = (tbl.lookup z).isSome
theorem p_cix {x : Str} {tbl : List (Str × PyData)} {e : Expr} {f : Ev → Rs PyData} {p pos : Pos} (T : TabI X.K X.mg X.w x tbl) (he : EP' X F e f) (hg : Gl X x := by rfl) (hd : (x == ("__debug__" : Str)) = false := by decide) (hs : PlainIx e := by exact fun _ _ => rfl) : EP' X F (.Subscript (.Name x p) e pos) (ap1 (cixD tbl) f) :=
  wkE (pe_ix ix_kdict (pe_glob (v := .ref T.a) hg T.m rfl hd) he hs) fun σ H Q ⟨O, ρ, d, r, e, q⟩ => by
    obtain ⟨k, ek, e⟩ := Rs.bnd_eq e
    unfold cixD at e
    split at e <;> first | (cases e; done) | skip
    split at e <;> first | (cases e; done) | skip
    rename_i z _ d' hl
    cases e
    obtain ⟨b, h1, h2⟩ := T.v _ _ hl
    refine ⟨O, ρ, _, r, ek, fun v H' s r' => ⟨T.a, z, .ref b, rfl, r'.strV.1, ⟨T.es, T.n, .ref b, T.d.at_, T.d.lit, h1, rfl⟩, q _ H' s (h2 _)⟩⟩
theorem p_cin {x : Str} {tbl : List (Str × PyData)} {e : Expr} {f : Ev → Rs PyData} {p pos : Pos} (T : TabI X.K X.mg X.w x tbl) (he : EP' X F e f) (hg : Gl X x := by rfl) (hd : (x == ("__debug__" : Str)) = false := by decide) (hm : behindInMarks .In (.Name x p) = false := by rfl) : EP' X F (.Compare e [.In] [.Name x p] pos) (ap1 (cinD tbl) f) :=
  wkE (pe_cmpR (op_in_kd T.d) he (pe_glob (v := .ref T.a) hg T.m rfl hd) hm) fun σ H Q ⟨O, ρ, d, r, e, q⟩ => by
    obtain ⟨k, ek, e⟩ := Rs.bnd_eq e
    unfold cinD at e
    split at e <;> first | (cases e; done) | skip
    rename_i z
    cases e
    obtain ⟨u, h1, h2⟩ := T.i z
    refine ⟨O, ρ, _, r, ek, fun v H' s r' => ⟨z, u, r'.strV.1, rfl, h1, q _ H' s (by rw [h2]; exact .bool)⟩⟩
theorem p_cnin {x : Str} {tbl : List (Str × PyData)} {e : Expr} {f : Ev → Rs PyData} {p pos : Pos} (T : TabI X.K X.mg X.w x tbl) (he : EP' X F e f) (hg : Gl X x := by rfl) (hd : (x == ("__debug__" : Str)) = false := by decide) (hm : behindInMarks .NotIn (.Name x p) = false := by rfl) : EP' X F (.Compare e [.NotIn] [.Name x p] pos) (ap1 (cninD tbl) f) :=
  wkE (pe_cmpR (op_notIn_kd T.d) he (pe_glob (v := .ref T.a) hg T.m rfl hd) hm) fun σ H Q ⟨O, ρ, d, r, e, q⟩ => by
    obtain ⟨k, ek, e⟩ := Rs.bnd_eq e
    unfold cninD at e
    split at e <;> first | (cases e; done) | skip
    rename_i z
    cases e
    obtain ⟨u, h1, h2⟩ := T.i z
    refine ⟨O, ρ, _, r, ek, fun v H' s r' => ⟨z, u, r'.strV.1, rfl, h1, q _ H' s (by rw [h2]; exact .bool)⟩⟩
theorem t_cin {x : Str} {tbl : List (Str × PyData)} {e : Expr} {f : Ev → Rs PyData} {p pos : Pos} (T : TabI X.K X.mg X.w x tbl) (he : EP' X F e f) (hg : Gl X x := by rfl) (hd : (x == ("__debug__" : Str)) = false := by decide) (hm : behindInMarks .In (.Name x p) = false := by rfl) : TP' X F (.Compare e [.In] [.Name x p] pos) (tB' (ap1 (cinD tbl) f)) :=
  wkT (pt_cmpR (op_in_kd T.d) he (pe_glob (v := .ref T.a) hg T.m rfl hd) hm) fun σ H Q ⟨O, ρ, b, r, e, q⟩ => by
    obtain ⟨d, e, eb⟩ := Rs.bnd_eq e
    obtain ⟨k, ek, e⟩ := Rs.bnd_eq e
    unfold cinD at e
    split at e <;> first | (cases e; done) | skip
    rename_i z
    cases e
    cases eb
    obtain ⟨u, h1, h2⟩ := T.i z
    refine ⟨O, ρ, _, r, ek, fun v H' s r' => ⟨z, u, r'.strV.1, rfl, h1, _, rfl, by rw [h2]; exact q H' s⟩⟩
theorem t_cnin {x : Str} {tbl : List (Str × PyData)} {e : Expr} {f : Ev → Rs PyData} {p pos : Pos} (T : TabI X.K X.mg X.w x tbl) (he : EP' X F e f) (hg : Gl X x := by rfl) (hd : (x == ("__debug__" : Str)) = false := by decide) (hm : behindInMarks .NotIn (.Name x p) = false := by rfl) : TP' X F (.Compare e [.NotIn] [.Name x p] pos) (tB' (ap1 (cninD tbl) f)) :=
  wkT (pt_cmpR (op_notIn_kd T.d) he (pe_glob (v := .ref T.a) hg T.m rfl hd) hm) fun σ H Q ⟨O, ρ, b, r, e, q⟩ => by
    obtain ⟨d, e, eb⟩ := Rs.bnd_eq e
    obtain ⟨k, ek, e⟩ := Rs.bnd_eq e
    unfold cninD at e
    split at e <;> first | (cases e; done) | skip
    rename_i z
    cases e
    cases eb
    obtain ⟨u, h1, h2⟩ := T.i z
    refine ⟨O, ρ, _, r, ek, fun v H' s r' => ⟨z, u, r'.strV.1, rfl, h1, _, rfl, by rw [h2]; exact q H' s⟩⟩
end
/-! defs that are picked by a text -/
theorem Rel.setDsp {K : KB} {F : FC} {O : Own} {ρ : Ev} {σ : St} {H : Hp} (r : Rel K F O ρ σ H) {i : Nat} {D s : Str} {a : Addr} (h : dspAt K D s a) : Rel K F (minusO O i) (ρ.set i (some (.dsp D s))) (σ.set i (some (.ref a))) H := by
  refine ⟨by rw [List.length_set, List.length_set]; exact r.len, fun j k a h1 h2 => r.inj j k a (minusO_some h1).2 (minusO_some h2).2, fun j a h1 => r.live j a (minusO_some h1).2, r.hidl, fun a x q => ⟨(r.base a x q).1, fun j h1 => (r.base a x q).2 j (minusO_some h1).2⟩, fun j c q => ?_, r.obs.set (fun j h => minusO_out (.inr h)) (fun j hj => List.getElem?_set_ne (Ne.symm hj)) (by simp) (by simp)⟩
  rcases set_get q with ⟨rfl, e, hl⟩ | ⟨hj, q⟩
  · cases e
    exact ⟨a, h, by rw [List.getElem?_set_self (by rw [r.len]; exact hl)]⟩
  · exact ((r.slots j c q).vis minusO_le fun j' h' => minusO_out (out_of hj (own_big h'))).st (List.getElem?_set_ne (Ne.symm hj))
abbrev Dsp := List (Str × (List PyData → Rs PyData))
theorem ns_of_keys {K : PySem.W.Frag} {P : Params} {a : Addr} {es : Array DictEntry} {n : Nat} {ks : List Str} (hl : K.lookup a = some ⟨.type "dict", none, .dict es n, #[]⟩) (hk : es.toList.map He.keyOf = He.keysIn P ks) (z : Str) : ∃ r, PySem.W.nsIn K a z = some r ∧ r.isSome = ks.contains z := by
  have main : ∀ (l : List DictEntry) (ks : List Str), l.map He.keyOf = He.keysIn P ks → ((l.find? (·.key.isStr z)).isSome = ks.contains z) ∧ l.any (·.refKey) = false := by
    intro l
    induction l with
    | nil =>
      intro ks h
      cases ks with
      | nil => exact ⟨rfl, rfl⟩
      | cons k ks => cases h
    | cons e r ih =>
      intro ks h
      cases ks with
      | nil => cases h
      | cons k ks =>
        have h1 : He.keyOf e :: r.map He.keyOf = some (k, PyData.keyHash P k) :: He.keysIn P ks := h
        injection h1 with h2 h3
        obtain ⟨i1, i2⟩ := ih ks h3
        unfold He.keyOf at h2
        split at h2
        · rename_i x t q
          have h5 := (Prod.mk.inj (Option.some.inj h2)).1
          subst h5
          refine ⟨?_, ?_⟩
          · rw [List.find?_cons, q]
            show (match x == z with | true => some e | false => r.find? (·.key.isStr z)).isSome = _
            rw [List.contains_cons]
            have comm : (z == x) = (x == z) := by
              by_cases c : z = x
              · subst c; rfl
              · rw [beq_eq_false_iff_ne.mpr c, beq_eq_false_iff_ne.mpr (Ne.symm c)]
            rw [comm]
            cases x == z with
            | true => rfl
            | false => simpa using i1
          · rw [List.any_cons, i2, Bool.or_false]
            unfold DictEntry.refKey
            rw [q]
        · cases h2
  obtain ⟨m1, m2⟩ := main _ _ hk
  unfold PySem.W.nsIn
  rw [hl]
  simp only
  cases e : es.toList.find? (·.key.isStr z) with
  | some en => rw [e] at m1; exact ⟨_, rfl, m1⟩
  | none => rw [e] at m1; simp only [m2, Bool.false_eq_true, if_false]; exact ⟨none, rfl, m1⟩
def tab_mk {K : PySem.W.Frag} {mg : Str → Option Value} {w : World} {x : Str} {tbl : List (Str × PyData)} {a : Addr} {es : Array DictEntry} {n : Nat} {ks : List Str} (m : mg x = some (.ref a)) (hl : K.lookup a = some ⟨.type "dict", none, .dict es n, #[]⟩) (hk : es.toList.map He.keyOf = He.keysIn w.params ks) (low : (a == sysModules) = false) (hks : ∀ z, ks.contains z = (tbl.lookup z).isSome)
    (v : ∀ z v, tbl.lookup z = some v → ∃ b, PySem.W.nsIn K a z = some (some (.ref b)) ∧ ∀ H, R K H v (.ref b)) : TabI K mg w x tbl :=
  ⟨a, es, n, m, ⟨hl, He.keysLit_of hk, low⟩, v, fun z => let ⟨r, h1, h2⟩ := ns_of_keys hl hk z; ⟨r, h1, h2.trans (hks z)⟩⟩
theorem lk_keys {α : Type} : ∀ (tbl : List (Str × α)) (z : Str), (tbl.map (·.1)).contains z = (tbl.lookup z).isSome
  | [], _ => rfl
  | p :: r, z => by
    rw [List.map_cons, List.contains_cons, List.lookup_cons, lk_keys r z]
    cases z == p.1 <;> rfl
/-- what stands at the keys of a table, one by one -/
theorem tv_n {K : PySem.W.Frag} {a : Addr} : ∀ z v, ([] : List (Str × PyData)).lookup z = some v → ∃ b, PySem.W.nsIn K a z = some (some (.ref b)) ∧ ∀ H, R K H v (.ref b) := fun z v h => nomatch h
theorem tv_c {K : PySem.W.Frag} {a b : Addr} {s : Str} {d : PyData} {t : List (Str × PyData)} (q : PySem.W.nsIn K a s = some (some (.ref b))) (hr : ∀ H, R K H d (.ref b)) (h : ∀ z v, t.lookup z = some v → ∃ b, PySem.W.nsIn K a z = some (some (.ref b)) ∧ ∀ H, R K H v (.ref b)) : ∀ z v, ((s, d) :: t).lookup z = some v → ∃ b, PySem.W.nsIn K a z = some (some (.ref b)) ∧ ∀ H, R K H v (.ref b) := fun z v e => by
  rw [List.lookup_cons] at e
  split at e
  · rename_i hz
    cases e
    have hz' : z = s := eq_of_beq hz
    subst hz'
    exact ⟨b, q, hr⟩
  · exact h z v e
structure DspI (K : PySem.W.Frag) (mg : Str → Option Value) (w : World) (x : Str) (ks : List Str) where
  a : Addr
  es : Array DictEntry
  n : Nat
  m : mg x = some (.ref a)
  o : PySem.W.nsIn K mainGlobals x = some (some (.ref a))
  d : KDict K w a es n
  v : ∀ z, z ∈ ks → ∃ b, PySem.W.nsIn K a z = some (some (.ref b))
def sPick (i : Nat) (D : Str) (ks : List Str) (f : Ev → Rs PyData) : Ev → Rs Out := fun ρ => (f ρ).bnd fun k => match k with
  | .str z => if z ∈ ks then .ok (.nx (ρ.set i (some (.dsp D z)))) else .no
  | _ => .no
section
variable {X : Cx} {F : FC}
theorem s_pick {st : Stmt} {i : Nat} {x : Str} {ks : List Str} {f : Ev → Rs PyData} (T : DspI X.K X.mg X.w x ks) (h : PS X st (tAsg (tOp (rIxD X.K X.w) (tC (.ref T.a)) (tP X.kb F f)) (gName i))) : SP' X F st (sPick i x ks f) := wkS h fun D σ H ⟨O, ρ, o, r, e, p⟩ => by
  obtain ⟨k, ek, e⟩ := Rs.bnd_eq e
  split at e <;> first | (cases e; done) | skip
  split at e <;> first | (cases e; done) | skip
  rename_i z hz
  cases e
  obtain ⟨b, hb⟩ := T.v z hz
  refine ⟨O, ρ, _, r, ek, fun v H' s r' => ⟨T.a, z, .ref b, rfl, r'.strV.1, ⟨T.es, T.n, .ref b, T.d.at_, T.d.lit, hb, rfl⟩, ?_⟩⟩
  exact p _ _ H' ((r.mono s).setDsp ⟨T.a, T.o, hb⟩) ((hide_same s).trans (hide_anti minusO_le))
def callPick (i : Nat) (D : Str) (t : Dsp) (g : Ev → Rs (List PyData)) : Ev → Rs PyData := fun ρ => match getC ρ i with
  | some (.dsp D' z) => if D' = D then (match t.lookup z with | some G => (g ρ).bnd G | none => .no) else .no
  | _ => .no
def PickK (P : Program) (w : World) (K : PySem.W.Frag) (mg : Str → Option Value) (base : Heap) (k n : Nat) (D : Str) (t : Dsp) : Prop := ∀ z G, t.lookup z = some G → ∃ (x : Str) (st : Stmt) (ps : List Str) (I : FnI K mg x st ps), dspAt ⟨K, P, w⟩ D z I.a ∧ FnOk P w K mg base CX0 k I.a I.d ps (spP K n G)
theorem pick_n {P : Program} {w : World} {K : PySem.W.Frag} {mg : Str → Option Value} {base : Heap} {k n : Nat} {D : Str} : PickK P w K mg base k n D [] := fun z G h => nomatch h
theorem pick_c {P : Program} {w : World} {K : PySem.W.Frag} {mg : Str → Option Value} {base : Heap} {j k n : Nat} {D s x : Str} {st : Stmt} {ps : List Str} {G : List PyData → Rs PyData} {t : Dsp} {ks : List Str} (T : DspI K mg w D ks) (I : FnI K mg x st ps) (q : PySem.W.nsIn K T.a s = some (some (.ref I.a))) (Fn : FnOk P w K mg base CX0 j I.a I.d ps (spP K n G)) (hj : j ≤ k) (h : PickK P w K mg base k n D t) : PickK P w K mg base k n D ((s, G) :: t) := fun z G' e => by
  rw [List.lookup_cons] at e
  split at e
  · rename_i hz
    cases e
    have hz' : z = s := eq_of_beq hz
    subst hz'
    exact ⟨x, st, ps, I, ⟨T.a, T.o, q⟩, Fn.mono hj⟩
  · exact h z G' e
theorem dspAt_one {K : KB} {D z : Str} {a b : Addr} (h : dspAt K D z a) (h' : dspAt K D z b) : a = b := by
  obtain ⟨p, h1, h2⟩ := h
  obtain ⟨q, h3, h4⟩ := h'
  rw [h1] at h3
  cases h3
  rw [h2] at h4
  cases h4
  rfl
theorem p_callPick {k n i : Nat} {D x : Str} {t : Dsp} {p pos : Pos} {e : Expr} {es : List Expr} {g : Ev → Rs (List PyData)} (T : PickK X.prog X.w X.K X.mg X.base k n D t) (hr : Room k X.A) (ha : AP' X F (e :: es) g) (hl : Ln n g) (hN : X.N[i]? = some x := by rfl) (hv : Vis X.env.scope x := by first | exact .inl rfl | exact .inr (.inl rfl) | exact .inr (.inr rfl))
    (hdb : (x == ("__debug__" : Str)) = false := by decide) (hcd : (x == ("__classdict__" : Str)) = false := by decide)
    (he : starEach (e :: es) X.env = (false, eval e X.env) :: starEach es X.env := by rfl) (hpl : (backTo pos (starEach es X.env)).any (·.1) = false := by rfl) : EP' X F (.Call (.Name x p) (e :: es) [] pos) (callPick i D t g) := by
  refine ⟨fun pins s σ H Q I ⟨O, ρ, d, r, e, q⟩ => ?_⟩
  unfold callPick at e
  split at e <;> first | (cases e; done) | skip
  split at e <;> first | (cases e; done) | skip
  split at e <;> first | (cases e; done) | skip
  rename_i D' z hc hD _ G hG
  subst hD
  obtain ⟨l, el, e⟩ := Rs.bnd_eq e
  obtain ⟨xx, st, ps, II, h1, Fn⟩ := T z G hG
  obtain ⟨a, h2, h3⟩ := r.slots i _ (getC_iff.mp hc)
  cases dspAt_one h1 h2
  refine (pe_callL (i := i) (dvs := []) (E := fun _ _ _ => False) Fn hr hN hv II.F.kp II.b .nil (fun _ _ _ _ _ _ _ z => z.elim) ha hdb hcd he hpl).run pins s σ H Q I ⟨h3, O, ρ, l, r, el, fun vs H1 s1 r1 => ⟨NN F O, l, d, fun z n => (r.mono s1).nlive n, by rw [List.append_nil]; exact r1, hl ρ l el, e, fun v H' s3 r3 => q v H' (s1.trans s3) r3⟩⟩
end
end PL


/-! PL12: t + (row.pop(i),) -/
namespace PL
open PySem PySem.Spec PyProof.Rows L2
/-- slot j: the tuple of slot k and what is popped of slot i -/
def sAddPop (j k i : Nat) (f : Ev → Rs PyData) : Ev → Rs Out := fun ρ => match getC ρ k with
  | some (.pub (.tuple es)) => (match getC ρ i with
    | some (.own ds) => (f ρ).bnd fun n => (asI n).bnd fun n => (popAt ds n).bnd fun p => if es.length + 1 ≤ sizeLine then .ok (.nx ((ρ.set i (some (.own p.2))).set j (some (.pub (.tuple (es ++ [p.1])))))) else .no
    | _ => .no)
  | _ => .no
section
variable {X : Cx} {F : FC}
theorem s_addPop {st : Stmt} {j k i : Nat} {f : Ev → Rs PyData} (h : PS X st (tAsg (tOp (rP2 X.K addD) (tVar k) (tTupN (tCons (tBM X.K "list" rPopAt (tVar i) (tCons (tP X.kb F f) tNil)) tNil))) (gName j))) : SP' X F st (sAddPop j k i f) := wkS h fun D σ H ⟨O, ρ, o, r, e, p⟩ => by
  unfold sAddPop at e
  split at e <;> first | (cases e; done) | skip
  rename_i es hk
  split at e <;> first | (cases e; done) | skip
  rename_i ds hc
  obtain ⟨n, ek, e⟩ := Rs.bnd_eq e
  obtain ⟨kk, ekk, e⟩ := Rs.bnd_eq e
  obtain ⟨q, eq, e⟩ := Rs.bnd_eq e
  split at e <;> first | (cases e; done) | skip
  rename_i hes
  cases e
  obtain ⟨v, v1, v2⟩ := r.slots k _ (getC_iff.mp hk)
  obtain ⟨hz, a, xs, h1, h2, h3, h4⟩ := own_at r hc
  refine ⟨v, v1, _, h2, .inl ⟨rfl, xs, .of h3⟩, O, ρ, n, r, ek, fun w H1 s r1 => ?_⟩
  have ek' : w = .int kk := by
    cases n with
    | int q => cases ekk; exact r1.intV
    | _ => exact nomatch ekk
  obtain ⟨k1, k2, m, y, q1, q2, q3, q4, q5⟩ := popAt_ok (h4.mono (hide_same s)) eq
  refine ⟨a, xs, kk, m, y, rfl, by rw [ek'], s _ _ h3, k1, k2, q1, q2, ?_⟩
  obtain ⟨m1, m2⟩ := (r.mono s).mut (i := i) (xs := xs.eraseIdx m) (es := q.2) (getC_iff.mp hc) h1 (by omega) q4
  refine ⟨by rw [List.length_singleton, sizeLine_eq]; omega, fun pp ob hp ho => ?_⟩
  refine ⟨NN F O, .tuple es, .tuple [q.1], .tuple (es ++ [q.1]), fun z hz => (m1.mono (same_upd hp)).nlive hz, ((v2.mono (hide_same s)).mono m2).mono (hide_same (same_upd hp)), newT ho (fun z hz => m1.nlive hz) hp (by rw [List.length_singleton, sizeLine_eq]; omega) (.cons (q3.mono m2) .nil), if_pos (by rw [List.length_singleton]; exact hes), fun v' H' s3 r3 => ?_⟩
  have m3 := (m1.mono (same_upd hp)).mono s3
  have g := got_one (i := j) m3 r3
  exact p _ _ _ g.rel ((((hide_same s).trans m2).trans ((hide_same (same_upd hp)).trans (hide_same s3))).trans g.vis)
end
end PL
namespace PL
open PySem PySem.Spec PyProof.Rows L2
/-! a list of one's own is seen by what is appended to it -/
mutual
def noL : PyData → Bool
  | .none => true
  | .bool _ => true
  | .int _ => true
  | .str _ => true
  | .list _ => false
  | .tuple ds => noLs ds
  | .dict _ => false
def noLs : List PyData → Bool
  | [] => true
  | d :: ds => noL d && noLs ds
end
section
variable {K : PySem.W.Frag} {H : Hp} {N N' : Addr → Prop}
theorem hide_skip (hN : ∀ b, N' b → N b ∨ ∃ xs, H b = some (.lst xs)) {b : Addr} {o : HO} (h : hide N H b = some o) (ho : ∀ xs, o ≠ .lst xs) : hide N' H b = some o := by
  obtain ⟨h1, h2⟩ := hide_some h
  refine hide_of (fun z => ?_) h2
  rcases hN b z with z | ⟨xs, z⟩
  · exact h1 z
  · rw [h2] at z
    exact ho xs (Option.some.inj z)
theorem nod_skip (hN : ∀ b, N' b → N b ∨ ∃ xs, H b = some (.lst xs)) {a : Addr} (h : NoD K (hide N H) a) : NoD K (hide N' H) a := by
  rcases h with ⟨o, u, h1, h2⟩ | h
  · exact .inl ⟨o, u, h1, hide_skip hN h2 (fun _ => by simp)⟩
  · exact .inr h
theorem sqt_skip (hN : ∀ b, N' b → N b ∨ ∃ xs, H b = some (.lst xs)) {a : Addr} {xs : List V} (h : SqT K (hide N H) a xs) : SqT K (hide N' H) a xs := by
  rcases h with (h | ⟨o, h⟩) | h
  · exact .inl (.inl (hide_skip hN h (fun _ => by simp)))
  · exact .inl (.inr ⟨o, hide_skip hN h (fun _ => by simp)⟩)
  · exact .inr h
mutual
theorem R.skip (hN : ∀ b, N' b → N b ∨ ∃ xs, H b = some (.lst xs)) : ∀ {d : PyData} {v : V}, noL d = true → R K (hide N H) d v → R K (hide N' H) d v
  | .none, _, _, h => by simpa [R] using h
  | .bool _, _, _, h => by simpa [R] using h
  | .int _, _, _, h => by simpa [R] using h
  | .str _, _, _, h => by simpa [R] using h
  | .list ds, v, n, h => by rw [noL] at n; exact nomatch n
  | .tuple ds, v, n, h => by
    rw [noL] at n
    rw [R] at h ⊢
    obtain ⟨z, a, xs, e1, e2, e3⟩ := h
    exact ⟨z, a, xs, e1, sqt_skip hN e2, RA.skip hN n e3.1, e3.2.imp (nod_skip hN) id⟩
  | .dict _, _, n, h => by rw [noL] at n; exact nomatch n
theorem RA.skip (hN : ∀ b, N' b → N b ∨ ∃ xs, H b = some (.lst xs)) : ∀ {ds : List PyData} {vs : List V}, noLs ds = true → RA K (hide N H) ds vs → RA K (hide N' H) ds vs
  | [], _, _, h => by rw [RA] at h ⊢; exact h
  | d :: ds, vs, n, h => by
    rw [noLs, Bool.and_eq_true] at n
    rw [RA] at h ⊢
    obtain ⟨x, r, e1, e2, e3⟩ := h
    exact ⟨x, r, e1, R.skip hN n.1 e2, RA.skip hN n.2 e3⟩
end
end
/-- own.append(E), where E sees the list itself, and holds no list -/
def sAppSee (i : Nat) (f : Ev → Rs PyData) : Ev → Rs Out := fun ρ => match getC ρ i with
  | some (.own ds) => (f (ρ.set i (some (.pub (.list ds))))).bnd fun d => if noL d = true ∧ ds.length < sizeLine then .ok (.nx (ρ.set i (some (.own (ds ++ [d]))))) else .no
  | _ => .no
section
variable {X : Cx} {F : FC}
theorem s_appSee {st : Stmt} {i : Nat} {f : Ev → Rs PyData} (h : PS X st (tDrop (tBM X.K "list" rAppend (tVar i) (tCons (tP X.kb F f) tNil)))) : SP' X F st (sAppSee i f) := wkS h fun D σ H ⟨O, ρ, o, r, e, p⟩ => by
  unfold sAppSee at e
  split at e <;> first | (cases e; done) | skip
  rename_i ds hc
  obtain ⟨d, ed, e⟩ := Rs.bnd_eq e
  split at e <;> first | (cases e; done) | skip
  rename_i hz
  cases e
  obtain ⟨_, a, xs, h1, h2, h3, h4⟩ := own_at r hc
  refine ⟨_, h2, .inl ⟨rfl, xs, .of h3⟩, minusO O i, _, d, r.pubOwn (getC_iff.mp hc), ed, fun v H' s r' => ?_⟩
  have h3' := s _ _ h3
  have r'' : R X.K (hide (NN F O) H') d v := R.skip (fun b hb => by
    rcases hb with hb | ⟨j, hb⟩
    · exact .inl (.inl hb)
    · by_cases q : j = i
      · subst q
        rw [h1] at hb
        have := Option.some.inj hb
        exact .inr ⟨xs, by rw [← this]; exact h3'⟩
      · refine .inl (.inr ⟨j, ?_⟩)
        unfold minusO
        rw [if_neg (fun z => q z.1)]; exact hb) hz.1 r'
  refine ⟨a, xs, v, rfl, rfl, h3', by rw [h4.len]; exact hz.2, ?_⟩
  obtain ⟨m1, m2⟩ := (r.mono s).mut (i := i) (xs := xs ++ [v]) (es := ds ++ [d]) (getC_iff.mp hc) h1 (by rw [List.length_append, List.length_singleton]; have := hz.2; omega) ((h4.mono (hide_same s)).append (.cons r'' .nil))
  exact p O _ _ m1 ((hide_same s).trans m2)
end
end PL


/-! PL13: defs that raise, raise, try .. except -/
namespace PL
open PySem PySem.Spec PyProof.Rows L2
theorem Rel.h0n {K : KB} {F : FC} {O : Own} {ρ : Ev} {σ : St} {H : Hp} (r : Rel K F O ρ σ H) {a : Addr} (h : H a = none) : F.H0 a = none := by
  cases q : F.H0 a with
  | none => rfl
  | some x => rw [(r.base a x q).1] at h; exact nomatch h
abbrev XM := Nat → Option (Addr × Option Str)
/-- the promise of a def that may raise -/
def spX (K : PySem.W.Frag) (xm : XM) (n : Nat) (G : List PyData → Rs PyData) : Sp := fun vs H Q E => ∃ (hid : Addr → Prop) (ds : List PyData), (∀ a, hid a → H a ≠ none) ∧ RA K (hide hid H) ds vs ∧ ds.length = n ∧ match G ds with
  | .ok d => ∀ v H', Same H H' → R K (hide hid H') d v → Q v H'
  | .ex c fs => (xm c).isSome = true ∧ ∀ cls d H', Same H H' → ExOk xm (fun a => H a = none) H' c fs cls d → E cls d H'
  | .no => False
theorem fn_ruleX {P : Program} {w : World} {K : PySem.W.Frag} {mg : Str → Option Value} {base : Heap} {x : Str} {st : Stmt} {N ps : List Str} {k n m : Nat} {xm : XM} {body : Ev → Rs Out} {G : List PyData → Rs PyData} {sc : Scope} (I : FnI K mg x st ps) (hsc : defScope st = sc) (S : FnScope N ps sc) (hn : ps.length ≤ N.length) (hp : ps.length = n) (hm : N.length = m) (hG : G = run m body)
    (hb : ∀ (cdv : Value) (A : Around) (outer : List Env) (s : Shared) (H : Hp) (E : XK) (F : FC), Room k (A.deeper (envOfC x sc s.heap.objs.size I.a cdv)) → F.xm = xm → Takes (cxOf (L2.CX P w) P w K mg base N x sc I.a cdv A outer s H E) F.W → PSs (cxOf (L2.CX P w) P w K mg base N x sc I.a cdv A outer s H E) (defBody st) (tS ⟨K, P, w⟩ F body)) (hm' : m ≤ 1000 := by decide) :
    FnOk P w K mg base (L2.CX P w) (k + 1) I.a I.d ps (spX K xm n G) := by
  subst hsc hp hm hG
  refine I.F.okX S (fun vs H Q E h => ?_) (fun cdv A outer s H vs Q E hr h => ?_)
  · obtain ⟨hid, ds, h1, h2, h3, _⟩ := h
    rw [h2.len, h3]
  · obtain ⟨hid, ds, h1, h2, h3, h4⟩ := h
    refine ⟨_, hb cdv A outer s H E { hid := hid, H0 := H, xm := xm, W := fun cls d _ H' => E cls d H' } hr rfl (takes_of rfl rfl rfl rfl), ?_⟩
    have st := fun (F : FC) (e : F.hid = hid) (e0 : F.H0 = H) (ef : F.fix = fun _ => none) => start_rel (K := ⟨K, P, w⟩) (F := F) (N := N) h1 h2 (by omega) e e0 hm' ef
    unfold run at h4
    split at h4
    · rename_i d hd
      split at hd <;> first | (cases hd; done) | skip
      · rename_i d' eo
        cases hd
        exact ⟨fun _ => none, startE N.length ds, _, st _ rfl rfl rfl, eo, fun v H' s r' => h4 v H' s r'⟩
      · rename_i ρ' eo
        cases hd
        exact ⟨fun _ => none, startE N.length ds, _, st _ rfl rfl rfl, eo, fun O' σ' H' r' v' => h4 _ H' r'.h0 .none⟩
      · rename_i es eo
        cases hd
        exact ⟨fun _ => none, startE N.length ds, _, st _ rfl rfl rfl, eo, fun p xs H' s hp hh hl hz ra => h4 _ H' s (.list hz (.of (hide_of hh hl)) (ra.mono (hide_anti fun a z => .inl z)))⟩
    · rename_i c fs hd
      split at hd <;> first | (cases hd; done) | skip
      rename_i ρ' c' fs' eo
      cases hd
      exact ⟨fun _ => none, startE N.length ds, _, st _ rfl rfl rfl, eo, h4.1, fun O' σ' H' cls d r' v' q => h4.2 cls d H' r'.h0 (q.imp fun a z => z.2)⟩
    · exact h4.elim

/-- a reading that may raise -/
def tPX (K : KB) (F : FC) (f : Ev → Rs PyData) : TE := fun σ H Q => ∃ O ρ, Rel K F O ρ σ H ∧ match f ρ with
  | .ok d => ∀ v H', Same H H' → R K.K (hide (NN F O) H') d v → Q v H'
  | .ex c fs => (F.xm c).isSome = true ∧ ∀ cls d H', Same H H' → ExOk F.xm (Nw F O) H' c fs cls d → F.W cls d σ H'
  | .no => False
abbrev XP' (X : Cx) (F : FC) (e : Expr) (f : Ev → Rs PyData) : Prop := PE X e (tPX X.kb F f)
def argX (G : List PyData → Rs PyData) (g : Ev → Rs (List PyData)) : Ev → Rs PyData := fun ρ => match g ρ with
  | .ok ds => G ds
  | _ => .no
section
variable {X : Cx} {F : FC}
/-- a call that raises nothing, of a def that might -/
theorem e_callI0 {k n : Nat} {ps : List Str} {st : Stmt} {xm : XM} {G : List PyData → Rs PyData} {x : Str} {p pos : Pos} {e : Expr} {es : List Expr} {g : Ev → Rs (List PyData)} (I : FnI X.K X.mg x st ps) (Fn : FnOk X.prog X.w X.K X.mg X.base (L2.CX X.prog X.w) k I.a I.d ps (spX X.K xm n G)) (hr : Room k X.A)
    (ha : AP' X F (e :: es) g) (hl : Ln n g) (hg : Gl X x := by rfl) (hdb : (x == ("__debug__" : Str)) = false := by decide) (he : starEach (e :: es) X.env = (false, eval e X.env) :: starEach es X.env := by rfl) (hpl : (backTo pos (starEach es X.env)).any (·.1) = false := by rfl) :
    EP' X F (.Call (.Name x p) (e :: es) [] pos) (apC G g) :=
  wkE (pe_call Fn hr hg I.m I.F.kp I.b .nil passL ha hdb he hpl) fun σ H Q ⟨O, ρ, d, r, e, q⟩ => by
    obtain ⟨a, ea, e⟩ := Rs.bnd_eq e
    exact ⟨O, ρ, a, r, ea, fun vs H1 s1 r1 => ⟨NN F O, a, fun z n => (r.mono s1).nlive n, by rw [List.append_nil]; exact r1, hl ρ a ea, by rw [e]; exact fun v H' s3 r3 => q v H' (s1.trans s3) r3⟩⟩
/-- a call that may raise -/
theorem x_call {k n : Nat} {ps : List Str} {st : Stmt} {G : List PyData → Rs PyData} {x : Str} {p pos : Pos} {e : Expr} {es : List Expr} {g : Ev → Rs (List PyData)} (I : FnI X.K X.mg x st ps) {xm : XM} (Fn : FnOk X.prog X.w X.K X.mg X.base (L2.CX X.prog X.w) k I.a I.d ps (spX X.K xm n G)) (hr : Room k X.A) (hx : F.xm = xm) (tk : Takes X F.W)
    (ha : AP' X F (e :: es) g) (hl : Ln n g) (hg : Gl X x := by rfl) (hdb : (x == ("__debug__" : Str)) = false := by decide) (he : starEach (e :: es) X.env = (false, eval e X.env) :: starEach es X.env := by rfl) (hpl : (backTo pos (starEach es X.env)).any (·.1) = false := by rfl) :
    XP' X F (.Call (.Name x p) (e :: es) [] pos) (argX G g) := by
  subst hx
  exact wkE (pe_callS Fn hr hg I.m I.F.kp I.b (fun σ => passAt tk σ) ha hdb he hpl) fun σ H Q ⟨O, ρ, r, q⟩ => by
    unfold argX at q
    cases ea : g ρ with
    | ok a =>
      rw [ea] at q
      refine ⟨O, ρ, a, r, ea, fun vs H1 s1 r1 => ⟨NN F O, a, fun z n => (r.mono s1).nlive n, r1, hl ρ a ea, ?_⟩⟩
      simp only at q
      cases eG : G a with
      | ok d => rw [eG] at q; exact fun v H' s3 r3 => q v H' (s1.trans s3) r3
      | ex c fs => rw [eG] at q; exact ⟨q.1, fun cls d H' s3 x => q.2 cls d H' (s1.trans s3) (x.imp fun a z => ⟨fun n => (r.mono s1).nlive n z, (r.mono s1).h0n z⟩)⟩
      | no => rw [eG] at q; exact q
    | ex c fs => rw [ea] at q; exact q.elim
    | no => rw [ea] at q; exact q.elim
/-- a call that raises nothing, as the calls that may are read -/
theorem p_arg {e : Expr} {G : List PyData → Rs PyData} {g : Ev → Rs (List PyData)} (h : EP' X F e (apC G g)) : EP' X F e (argX G g) := wkE h fun σ H Q ⟨O, ρ, d, r, e, q⟩ => by
  unfold argX at e
  split at e
  · rename_i ds ed
    exact ⟨O, ρ, d, r, by unfold apC; rw [ed]; exact e, q⟩
  · exact nomatch e
def sDoX (f : Ev → Rs PyData) : Ev → Rs Out := fun ρ => lft (f ρ) ρ fun _ => .ok (.nx ρ)
def sSetX (i : Nat) (f : Ev → Rs PyData) : Ev → Rs Out := fun ρ => lft (f ρ) ρ fun d => .ok (.nx (ρ.set i (some (.pub d))))
def sRetX (f : Ev → Rs PyData) : Ev → Rs Out := fun ρ => lft (f ρ) ρ fun d => .ok (.rt d)
def sRaise (c : Nat) : Ev → Rs Out := fun ρ => .ok (.xc ρ c [])
theorem lft_eq {α : Type} {r : Rs α} {ρ : Ev} {k : α → Rs Out} {o : Out} (h : lft r ρ k = .ok o) : (∃ a, r = .ok a ∧ k a = .ok o) ∨ ∃ c fs, r = .ex c fs ∧ o = .xc ρ c fs := by
  cases r with
  | ok a => exact .inl ⟨a, rfl, h⟩
  | ex c fs => exact .inr ⟨c, fs, rfl, (Rs.ok.inj h).symm⟩
  | no => exact nomatch h
theorem calm_no {K : KB} {D : Ends} {O : Own} {H : Hp} {ρ : Ev} {c : Nat} {fs : List PyData} {p : Prop} (hF : Calm F) (h : Post K F D O H (.xc ρ c fs)) : p := by
  have h1 : (F.xm c).isSome = true := h.1
  rw [show F.xm = fun _ => none from hF] at h1
  exact nomatch h1
/-- where no exception leaves -/
theorem s_doC {e : Expr} {f : Ev → Rs PyData} {pos : Pos} (hF : Calm F) (h : EP' X F e f) (hs : swapsWith e none pos.line X.env = pure false := by rfl) : SP' X F (.Expr e pos) (sDoX f) := wkS (ps_expr h hs) fun D σ H ⟨O, ρ, o, r, e, p⟩ => by
  rcases lft_eq e with ⟨d, ed, e⟩ | ⟨c, fs, ed, e⟩
  · cases e
    exact ⟨O, ρ, d, r, ed, fun v H' s r' => p O σ H' (r.mono s) (hide_same s)⟩
  · subst e; exact calm_no hF p
theorem s_setC {st : Stmt} {i : Nat} {f : Ev → Rs PyData} (hF : Calm F) (h : PS X st (tAsg (tP X.kb F f) (gName i))) : SP' X F st (sSetX i f) := wkS (s_set h) fun D σ H ⟨O, ρ, o, r, e, p⟩ => by
  rcases lft_eq e with ⟨d, ed, e⟩ | ⟨c, fs, ed, e⟩
  · exact ⟨O, ρ, o, r, by unfold sSet; rw [ed]; exact e, p⟩
  · subst e; exact calm_no hF p
theorem s_retC {e : Expr} {f : Ev → Rs PyData} {pos : Pos} (hF : Calm F) (h : EP' X F e f) : SP' X F (.Return (some e) pos) (sRetX f) := wkS (s_ret h) fun D σ H ⟨O, ρ, o, r, e, p⟩ => by
  rcases lft_eq e with ⟨d, ed, e⟩ | ⟨c, fs, ed, e⟩
  · exact ⟨O, ρ, o, r, by unfold sRet; rw [ed]; exact e, p⟩
  · subst e; exact calm_no hF p
theorem s_raiseC {st : Stmt} {c : Nat} (hF : Calm F) : SP' X F st (sRaise c) := wkS ps_never fun D σ H ⟨O, ρ, o, r, e, p⟩ => by
  cases e; exact calm_no hF p
/-! where one may leave -/
theorem s_doX {e : Expr} {f : Ev → Rs PyData} {pos : Pos} (h : XP' X F e f) (hs : swapsWith e none pos.line X.env = pure false := by rfl) : SP' X F (.Expr e pos) (sDoX f) := wkS (ps_expr h hs) fun D σ H ⟨O, ρ, o, r, e, p⟩ => by
  refine ⟨O, ρ, r, ?_⟩
  rcases lft_eq e with ⟨d, ed, e⟩ | ⟨c, fs, ed, e⟩
  · cases e; rw [ed]
    exact fun v H' s r' => p O σ H' (r.mono s) (hide_same s)
  · subst e; rw [ed]
    exact ⟨p.1, fun cls d H' s q => p.2 O σ H' cls d (r.mono s) (hide_same s) q⟩
theorem s_setX {st : Stmt} {i : Nat} {f : Ev → Rs PyData} (h : PS X st (tAsg (tPX X.kb F f) (gName i))) : SP' X F st (sSetX i f) := wkS h fun D σ H ⟨O, ρ, o, r, e, p⟩ => by
  refine ⟨O, ρ, r, ?_⟩
  rcases lft_eq e with ⟨d, ed, e⟩ | ⟨c, fs, ed, e⟩
  · cases e; rw [ed]
    intro v H' s r'
    have g := got_one (i := i) (r.mono s) r'
    exact p _ _ H' g.rel ((hide_same s).trans g.vis)
  · subst e; rw [ed]
    exact ⟨p.1, fun cls d H' s q => p.2 O σ H' cls d (r.mono s) (hide_same s) q⟩
theorem s_retX {e : Expr} {f : Ev → Rs PyData} {pos : Pos} (h : XP' X F e f) : SP' X F (.Return (some e) pos) (sRetX f) := wkS (ps_ret h) fun D σ H ⟨O, ρ, o, r, e, p⟩ => by
  refine ⟨O, ρ, r, ?_⟩
  rcases lft_eq e with ⟨d, ed, e⟩ | ⟨c, fs, ed, e⟩
  · cases e; rw [ed]
    exact fun v H' s r' => p v H' (r.mono s).h0 (r'.mono hid_le)
  · subst e; rw [ed]
    exact ⟨p.1, fun cls d H' s q => p.2 O σ H' cls d (r.mono s) (hide_same s) q⟩
/-- raise c('..') -/
theorem s_raiseX {e : Expr} {c : Nat} {C : Addr} {pos : Pos} (hc : X.calm = true) (tk : Takes X F.W) (he : PMk X e (fun _ H Q => Q (.ref C) none H)) {xm : XM} (hx : F.xm = xm) (hC : xm c = some (C, none)) : SP' X F (.Raise (some e) none pos) (sRaise c) := wkS (ps_raise hc tk he) fun D σ H ⟨O, ρ, o, r, e, p⟩ => by
  cases e
  exact p.2 O σ H (.ref C) none r (Same.refl _) ⟨C, none, by rw [hx]; exact hC, rfl, rfl⟩
end

/-! ### try -/
def cool1 : Option Cell → Option Cell
  | some .hot => none
  | c => c
/-- without what is in hand -/
def cool (ρ : Ev) : Ev := ρ.map cool1
theorem cool_get {ρ : Ev} {i : Nat} {c : Cell} (h : (cool ρ)[i]? = some (some c)) : ρ[i]? = some (some c) ∧ c ≠ .hot := by
  unfold cool at h
  rw [List.getElem?_map] at h
  cases e : ρ[i]? with
  | none => rw [e] at h; exact nomatch h
  | some o =>
    rw [e] at h
    have h' : cool1 o = some c := Option.some.inj h
    cases o with
    | none => exact nomatch h'
    | some c' => cases c' <;> first | (cases h'; exact ⟨rfl, by simp⟩) | (cases h'; done)
theorem Rel.cool {K : KB} {F F' : FC} {O : Own} {ρ : Ev} {σ : St} {H : Hp} (r : Rel K F O ρ σ H) (h1 : F'.hid = F.hid) (h2 : ∀ a x, F'.H0 a = some x → F.H0 a = some x) (h3 : ∀ a, F'.hid a → F'.H0 a ≠ none) (h4 : ∀ i a, F'.fix i = some a → F.fix i = some a) : Rel K F' O (cool ρ) σ H := by
  have nn : NN F' O = NN F O := by unfold NN; rw [h1]
  refine ⟨by rw [r.len]; unfold PL.cool; rw [List.length_map], r.inj, r.live, h3, fun a x h => r.base a x (h2 a x h), fun i c q => ?_, ⟨by unfold PL.cool; rw [List.length_map]; exact r.obs.sz, fun i a c e1 e2 => r.obs.fx i a c (h4 i a e1) (cool_get e2).1, fun i j k c e1 e2 => r.obs.als i j k c (cool_get e1).1 (cool_get e2).1⟩⟩
  obtain ⟨e, ne⟩ := cool_get q
  have s := r.slots i c e
  rw [nn]
  cases c with
  | pub d => exact s
  | own ds => exact s
  | odc kvs => exact s
  | dsp D s' => exact s
  | obj _ => exact s
  | prf _ _ => exact s
  | hot => exact absurd rfl ne
theorem Rel.setHot {K : KB} {F : FC} {O : Own} {ρ : Ev} {σ : St} {H : Hp} (r : Rel K F O ρ σ H) {i : Nat} {a : Addr} (h : F.ht = some a) : Rel K F O (ρ.set i (some .hot)) (σ.set i (some (.ref a))) H := by
  refine ⟨by rw [List.length_set, List.length_set]; exact r.len, r.inj, r.live, r.hidl, r.base, fun j c q => ?_, r.obs.set (fun _ _ => rfl) (fun j hj => List.getElem?_set_ne (Ne.symm hj)) (by simp) (by simp)⟩
  rcases set_get q with ⟨rfl, e, hl⟩ | ⟨hj, q⟩
  · cases e
    exact ⟨a, h, by rw [List.getElem?_set_self (by rw [r.len]; exact hl)]⟩
  · exact (r.slots j c q).st (List.getElem?_set_ne (Ne.symm hj))
/-- the same, but for the wishes -/
theorem Rel.re {K : KB} {F F' : FC} {O : Own} {ρ : Ev} {σ : St} {H : Hp} (r : Rel K F O ρ σ H) (h1 : F'.hid = F.hid) (h2 : F'.H0 = F.H0) (h3 : F'.ht = F.ht) (h4 : F'.fix = F.fix) : Rel K F' O ρ σ H := by
  have nn : NN F' O = NN F O := by unfold NN; rw [h1]
  refine ⟨r.len, r.inj, r.live, fun a h => ?_, fun a x h => r.base a x (by rw [← h2]; exact h), fun i c q => by rw [nn, h3]; exact r.slots i c q, by rw [h4]; exact r.obs⟩
  rw [h2]; exact r.hidl a (by rw [← h1]; exact h)
def coolO : Out → Rs Out
  | .nx ρ => .ok (.nx (cool ρ))
  | .bk ρ => .ok (.bk (cool ρ))
  | .ct ρ => .ok (.ct (cool ρ))
  | .rt d => .ok (.rt d)
  | .xc ρ c fs => .no
  | .rn ds => .ok (.rn ds)
  | .ro ρ d => .no
def goneO (i : Nat) : Out → Rs Out
  | .nx ρ => .ok (.nx ((cool ρ).set i none))
  | .bk ρ => .ok (.bk ((cool ρ).set i none))
  | .ct ρ => .ok (.ct ((cool ρ).set i none))
  | .rt d => .ok (.rt d)
  | .xc ρ c fs => .no
  | .rn ds => .ok (.rn ds)
  | .ro ρ d => .no
/-- try: b, except (the classes of t): h -/
def sTry (t : Nat → Option Bool) (b : Ev → Rs Out) (h : Nat → List PyData → Ev → Rs Out) : Ev → Rs Out := fun ρ => (b ρ).bnd fun o => match o with
  | .xc ρ' c fs => (match t c with
    | some true => (h c fs (cool ρ')).bnd coolO
    | some false => .ok (.xc ρ' c fs)
    | none => .no)
  | o => .ok o
/-- the same with a name for what is in hand -/
def sTryAs (i : Nat) (t : Nat → Option Bool) (b : Ev → Rs Out) (h : Nat → List PyData → Ev → Rs Out) : Ev → Rs Out := fun ρ => (b ρ).bnd fun o => match o with
  | .xc ρ' c fs => (match t c with
    | some true => (h c fs ((cool ρ').set i (some .hot))).bnd (goneO i)
    | some false => .ok (.xc ρ' c fs)
    | none => .no)
  | o => .ok o
/-- the context of a suite: what is owned is left open -/
noncomputable def fcS (F : FC) (O : Own) (H : Hp) (a : Addr) : FC where
  hid := F.hid
  H0 := fun b => open Classical in if ∃ i, O i = some b then none else H b
  ht := some a
  fix := F.fix
theorem rel_suite {K : KB} {F : FC} {O : Own} {ρ : Ev} {σ : St} {H : Hp} (r : Rel K F O ρ σ H) (a : Addr) : Rel K (fcS F O H a) O (cool ρ) σ H ∧ ∀ b x, F.H0 b = some x → (fcS F O H a).H0 b = some x := by
  have h2 : ∀ b x, F.H0 b = some x → (fcS F O H a).H0 b = some x := fun b x e => by
    show (open Classical in if ∃ i, O i = some b then none else H b) = some x
    rw [if_neg (fun ⟨i, z⟩ => (r.base b x e).2 i z)]
    exact (r.base b x e).1
  have h3 : ∀ b, (fcS F O H a).hid b → (fcS F O H a).H0 b ≠ none := fun b hb => by
    cases q : F.H0 b with
    | none => exact absurd q (r.hidl b hb)
    | some x => rw [h2 b x q]; simp
  have c := r.cool (F' := F) rfl (fun _ _ h => h) r.hidl (fun _ _ h => h)
  refine ⟨⟨c.len, c.inj, c.live, h3, fun b x e => ?_, fun i cl q => ?_, c.obs⟩, h2⟩
  · have e' : (open Classical in if ∃ i, O i = some b then none else H b) = some x := e
    split at e'
    · exact nomatch e'
    · rename_i hn
      exact ⟨e', fun i z => hn ⟨i, z⟩⟩
  · have s := c.slots i cl q
    obtain ⟨_, ne⟩ := cool_get q
    cases cl with
    | pub d => exact s
    | own ds => exact s
    | odc kvs => exact s
    | dsp D s' => exact s
    | obj _ => exact s
    | prf _ _ => exact s
    | hot => exact absurd rfl ne
section
variable {X : Cx} {F : FC} {xm : XM} {x n : Str} {cv : Value} {t : Nat → Option Bool} {body suite : List Stmt} {b₀ : Stmt} {np pos pos' : Pos} {b : Ev → Rs Out} {h : Nat → List PyData → Ev → Rs Out}
/-- what the body's outcomes but exceptions want is what the whole wants -/
theorem post_re {K : KB} {F1 : FC} {D : Ends} {O : Own} {H : Hp} {o : Out} (p : Post K F D O H o) (e1 : F1.hid = F.hid) (e2 : F1.H0 = F.H0) (e3 : F1.ht = F.ht) (e4 : F1.fix = F.fix) (ho : ∀ ρ c fs, o ≠ .xc ρ c fs) : Post K F1 D O H o := by
  have nn : ∀ O, NN F1 O = NN F O := fun O => by unfold NN; rw [e1]
  cases o with
  | nx ρ => exact fun O' σ' H' r s => p O' σ' H' (r.re e1.symm e2.symm e3.symm e4.symm) (by rw [nn, nn] at s; exact s)
  | bk ρ => exact fun O' σ' H' r s => p O' σ' H' (r.re e1.symm e2.symm e3.symm e4.symm) (by rw [nn, nn] at s; exact s)
  | ct ρ => exact fun O' σ' H' r s => p O' σ' H' (r.re e1.symm e2.symm e3.symm e4.symm) (by rw [nn, nn] at s; exact s)
  | rt d => exact fun v H' s r => p v H' (by rw [e2] at s; exact s) (by rw [e1] at r; exact r)
  | xc ρ c fs => exact absurd rfl (ho ρ c fs)
  | ro ρ d => exact fun O' σ' H' v r q => p O' σ' H' v (r.re e1.symm e2.symm e3.symm e4.symm) (by rw [nn] at q; exact q)
  | rn ds => exact fun p' xs H' s hp hh hl hz ra => p p' xs H' (by rw [e2] at s; exact s) (by rw [e2] at hp; exact hp) (by rw [e1] at hh; exact hh) hl hz (by rw [e1] at ra; exact ra)
theorem fcS_none {O : Own} {H : Hp} {a b : Addr} (h2 : ∀ b x, F.H0 b = some x → (fcS F O H a).H0 b = some x) (h : (fcS F O H a).H0 b = none) : F.H0 b = none := by
  cases q : F.H0 b with
  | none => rfl
  | some x => rw [h2 b x q] at h; exact nomatch h
/-- what the suite's outcomes want -/
theorem post_suite {K : KB} {D : Ends} {O : Own} {ρ : Ev} {σ : St} {H : Hp} {a : Addr} {o o' : Out} (r : Rel K F O ρ σ H) (e : coolO o = .ok o') (p : Post K F D O H o') : Post K (fcS F O H a) D O H o := by
  have h2 := (rel_suite r a).2
  have bk : ∀ {O' ρ' σ' H'}, Rel K (fcS F O H a) O' ρ' σ' H' → Rel K F O' (cool ρ') σ' H' := fun r' => Rel.cool (F' := F) r' rfl h2 r.hidl (fun _ _ h => h)
  cases o with
  | nx ρ => cases e; exact fun O' σ' H' r' s => p O' σ' H' (bk r') s
  | bk ρ => cases e; exact fun O' σ' H' r' s => p O' σ' H' (bk r') s
  | ct ρ => cases e; exact fun O' σ' H' r' s => p O' σ' H' (bk r') s
  | rt d => cases e; exact fun v H' s r' => p v H' (fun b x e => s b x (h2 b x e)) r'
  | xc ρ c fs => exact nomatch e
  | rn ds => cases e; exact fun p' xs H' s hp hh hl hz ra => p p' xs H' (fun b x e => s b x (h2 b x e)) (fcS_none h2 hp) hh hl hz ra
  | ro ρ d => exact nomatch e
theorem post_suiteA {K : KB} {D : Ends} {O : Own} {ρ : Ev} {σ : St} {H : Hp} {a : Addr} {i : Nat} {o o' : Out} (r : Rel K F O ρ σ H) (e : goneO i o = .ok o') (p : Post K F D O H o') :
    Post K (fcS F O H a) { nx := fun σ' H' => D.nx (σ'.set i none) H', rt := D.rt, bk := fun σ' H' => D.bk (σ'.set i none) H', ct := fun σ' H' => D.ct (σ'.set i none) H' } O H o := by
  have h2 := (rel_suite r a).2
  have bk : ∀ {O' ρ' σ' H'}, Rel K (fcS F O H a) O' ρ' σ' H' → Rel K F O' ((cool ρ').set i none) (σ'.set i none) H' := fun r' => (Rel.cool (F' := F) r' rfl h2 r.hidl (fun _ _ h => h)).setNone
  cases o with
  | nx ρ => cases e; exact fun O' σ' H' r' s => p O' _ H' (bk r') s
  | bk ρ => cases e; exact fun O' σ' H' r' s => p O' _ H' (bk r') s
  | ct ρ => cases e; exact fun O' σ' H' r' s => p O' _ H' (bk r') s
  | rt d => cases e; exact fun v H' s r' => p v H' (fun b x e => s b x (h2 b x e)) r'
  | xc ρ c fs => exact nomatch e
  | rn ds => cases e; exact fun p' xs H' s hp hh hl hz ra => p p' xs H' (fun b x e => s b x (h2 b x e)) (fcS_none h2 hp) hh hl hz ra
  | ro ρ d => exact nomatch e
theorem exS {K : KB} {O : Own} {ρ : Ev} {σ : St} {H : Hp} {a : Addr} {c : Nat} {fs : List PyData} {cls : Value} {d : Option Addr} (r : Rel K F O ρ σ H) (h : ExOk xm (Nw F O) H c fs cls d) : ExOk xm (fun _ => True) (fcS F O H a).H0 c fs cls d := by
  obtain ⟨C, fn, h1, h2, h3⟩ := h
  refine ⟨C, fn, h1, h2, ?_⟩
  split at h3
  · exact h3
  · obtain ⟨dd, e1, e2, e3⟩ := h3
    refine ⟨dd, e1, trivial, ?_⟩
    show (open Classical in if ∃ i, O i = some dd then none else H dd) = _
    rw [if_neg (fun z => e2.1 (.inr z))]
    exact e3
  · exact h3.elim
/-- try .. except x: -/
theorem s_try (hs : X.stack = X.env :: X.outer) (hf : X.env.frame = some X.env.locals) (hc : Names X x cv) {Wo : WX} (tk : Takes X Wo) (hF : Calm F ∨ (F.xm = xm ∧ F.W = Wo)) (ht : ∀ c b, t c = some b → ∃ C fn, xm c = some (C, fn) ∧ PySem.W.exmOne X.K (.ref C) cv = some b)
    (hb : ∀ (pn : List (Addr × Obj)) (xe : Value → Shared → Prop) (F : FC), F.xm = xm → Takes (X.tr pn xe) F.W → PassesOwn (model X.prog X.w) X.A X.env xe → PSs (X.tr pn xe) body (tS X.kb F b))
    (hsu : ∀ (a : Addr) (oe : Obj) (cls : Value) (d : Option Addr) (pn : List (Addr × Obj)) (c : Nat) (fs : List PyData) (F : FC), Zc cls d oe → (∃ vs, oe.data = .fields vs) → ExOk xm (fun _ => True) F.H0 c fs cls d → F.ht = some a → Calm F → PSs (X.suite a ((a, oe) :: pn)) (b₀ :: suite) (tS X.kb F (h c fs))) :
    SP' X F (.Try body [.ExceptHandler (some (.Name x np)) none (b₀ :: suite) pos'] [] [] pos) (sTry t b h) := by
  refine wkS (ps_try_only (tb := fun W D σ H => ∃ F1 : FC, F1.W = W ∧ F1.xm = xm ∧ tS X.kb F1 b D σ H)
    (ts := fun a cls d D σ H => ∃ (F1 : FC) (c : Nat) (fs : List PyData), ExOk xm (fun _ => True) F1.H0 c fs cls d ∧ F1.ht = some a ∧ Calm F1 ∧ tS X.kb F1 (h c fs) D σ H) hs hf hc tk (fun W pn xe tk po => ?_) (fun a oe cls d pn hz hfl => ?_)) fun D σ H ⟨O, ρ, o, r, e, p⟩ => ?_
  · exact ⟨fun pins s σ H D I ⟨F1, e1, e2, q⟩ => (hb pn xe F1 e2 (by rw [e1]; exact tk) po).run pins s σ H D I q⟩
  · exact ⟨fun pins s σ H D I ⟨F1, c, fs, h1, h2, h3, q⟩ => (hsu a oe cls d pn c fs F1 hz hfl h1 h2 h3).run pins s σ H D I q⟩
  · obtain ⟨ob, eb, e⟩ := Rs.bnd_eq e
    refine ⟨{ F with xm := xm, W := _ }, rfl, rfl, O, ρ, ob, r.re rfl rfl rfl rfl, eb, ?_⟩
    cases ob with
    | nx ρ' => cases e; exact post_re p rfl rfl rfl rfl (fun _ _ _ z => nomatch z)
    | bk ρ' => cases e; exact post_re p rfl rfl rfl rfl (fun _ _ _ z => nomatch z)
    | ct ρ' => cases e; exact post_re p rfl rfl rfl rfl (fun _ _ _ z => nomatch z)
    | rt d => cases e; exact post_re p rfl rfl rfl rfl (fun _ _ _ z => nomatch z)
    | rn ds => cases e; exact post_re p rfl rfl rfl rfl (fun _ _ _ z => nomatch z)
    | ro ρ' d => cases e; exact post_re p rfl rfl rfl rfl (fun _ _ _ z => nomatch z)
    | xc ρ' c fs =>
      simp only at e
      cases etc : t c with
      | none => rw [etc] at e; exact nomatch e
      | some bb =>
        rw [etc] at e
        obtain ⟨C, fn, hC, hx⟩ := ht c bb etc
        refine ⟨by show (xm c).isSome = true; rw [hC]; rfl, fun O' σ' H' cls d r' s' ex => ?_⟩
        have ex' : ExOk xm (Nw F O') H' c fs cls d := ex
        have ecls : cls = .ref C := by
          obtain ⟨C', fn', h1, h2, _⟩ := ex'
          rw [hC] at h1; cases h1; exact h2
        have rF : Rel X.kb F O' ρ' σ' H' := r'.re rfl rfl rfl rfl
        refine ⟨bb, by rw [ecls]; exact hx, fun hbb a na => ?_, fun hbb => ?_⟩
        · subst hbb
          obtain ⟨o2, e2, e3⟩ := Rs.bnd_eq e
          refine ⟨fcS F O' H' a, c, fs, exS rF ex', rfl, rfl, O', cool ρ', o2, (rel_suite rF a).1, e2, ?_⟩
          exact post_suite rF e3 (p.from s')
        · subst hbb
          cases e
          rcases hF with hF | hF
          · exact calm_no hF p
          · rw [← hF.2]; exact p.2 O' σ' H' cls d rF s' (by rw [hF.1]; exact ex')
/-- try .. except x as n: -/
theorem s_tryAs {i : Nat} (hN : X.N.Nodup) (hi : X.N[i]? = some n) (hln : X.env.kindOf n = some .local) (hs : X.stack = X.env :: X.outer) (hf : X.env.frame = some X.env.locals) (hc : Names X x cv) {Wo : WX} (tk : Takes X Wo) (hF : Calm F ∨ (F.xm = xm ∧ F.W = Wo)) (ht : ∀ c b, t c = some b → ∃ C fn, xm c = some (C, fn) ∧ PySem.W.exmOne X.K (.ref C) cv = some b)
    (hb : ∀ (pn : List (Addr × Obj)) (xe : Value → Shared → Prop) (F : FC), F.xm = xm → Takes (X.tr pn xe) F.W → PassesOwn (model X.prog X.w) X.A X.env xe → PSs (X.tr pn xe) body (tS X.kb F b))
    (hsu : ∀ (a : Addr) (oe : Obj) (cls : Value) (d : Option Addr) (pn : List (Addr × Obj)) (c : Nat) (fs : List PyData) (F : FC), Zc cls d oe → (∃ vs, oe.data = .fields vs) → ExOk xm (fun _ => True) F.H0 c fs cls d → F.ht = some a → Calm F → PSs (X.suite a ((a, oe) :: pn)) (b₀ :: suite) (tS X.kb F (h c fs))) :
    SP' X F (.Try body [.ExceptHandler (some (.Name x np)) (some n) (b₀ :: suite) pos'] [] [] pos) (sTryAs i t b h) := by
  refine wkS (ps_try_as (tb := fun W D σ H => ∃ F1 : FC, F1.W = W ∧ F1.xm = xm ∧ tS X.kb F1 b D σ H)
    (ts := fun a cls d D σ H => ∃ (F1 : FC) (c : Nat) (fs : List PyData), ExOk xm (fun _ => True) F1.H0 c fs cls d ∧ F1.ht = some a ∧ Calm F1 ∧ tS X.kb F1 (h c fs) D σ H) hs hf hN hi hln hc tk (fun W pn xe tk po => ?_) (fun a oe cls d pn hz hfl => ?_)) fun D σ H ⟨O, ρ, o, r, e, p⟩ => ?_
  · exact ⟨fun pins s σ H D I ⟨F1, e1, e2, q⟩ => (hb pn xe F1 e2 (by rw [e1]; exact tk) po).run pins s σ H D I q⟩
  · exact ⟨fun pins s σ H D I ⟨F1, c, fs, h1, h2, h3, q⟩ => (hsu a oe cls d pn c fs F1 hz hfl h1 h2 h3).run pins s σ H D I q⟩
  · obtain ⟨ob, eb, e⟩ := Rs.bnd_eq e
    refine ⟨{ F with xm := xm, W := _ }, rfl, rfl, O, ρ, ob, r.re rfl rfl rfl rfl, eb, ?_⟩
    cases ob with
    | nx ρ' => cases e; exact post_re p rfl rfl rfl rfl (fun _ _ _ z => nomatch z)
    | bk ρ' => cases e; exact post_re p rfl rfl rfl rfl (fun _ _ _ z => nomatch z)
    | ct ρ' => cases e; exact post_re p rfl rfl rfl rfl (fun _ _ _ z => nomatch z)
    | rt d => cases e; exact post_re p rfl rfl rfl rfl (fun _ _ _ z => nomatch z)
    | rn ds => cases e; exact post_re p rfl rfl rfl rfl (fun _ _ _ z => nomatch z)
    | ro ρ' d => cases e; exact post_re p rfl rfl rfl rfl (fun _ _ _ z => nomatch z)
    | xc ρ' c fs =>
      simp only at e
      cases etc : t c with
      | none => rw [etc] at e; exact nomatch e
      | some bb =>
        rw [etc] at e
        obtain ⟨C, fn, hC, hx⟩ := ht c bb etc
        refine ⟨by show (xm c).isSome = true; rw [hC]; rfl, fun O' σ' H' cls d r' s' ex => ?_⟩
        have ex' : ExOk xm (Nw F O') H' c fs cls d := ex
        have ecls : cls = .ref C := by
          obtain ⟨C', fn', h1, h2, _⟩ := ex'
          rw [hC] at h1; cases h1; exact h2
        have rF : Rel X.kb F O' ρ' σ' H' := r'.re rfl rfl rfl rfl
        refine ⟨bb, by rw [ecls]; exact hx, fun hbb a na => ?_, fun hbb => ?_⟩
        · subst hbb
          obtain ⟨o2, e2, e3⟩ := Rs.bnd_eq e
          refine ⟨fcS F O' H' a, c, fs, exS rF ex', rfl, rfl, O', (cool ρ').set i (some .hot), o2, (rel_suite rF a).1.setHot rfl, e2, ?_⟩
          exact post_suiteA rF e3 (p.from s')
        · subst hbb
          cases e
          rcases hF with hF | hF
          · exact calm_no hF p
          · rw [← hF.2]; exact p.2 O' σ' H' cls d rF s' (by rw [hF.1]; exact ex')
end
end PL


/-! PL14: classes of exceptions, isinstance in a suite, methods of plain values -/
namespace PL
open PySem PySem.Spec PyProof.Rows L2
theorem room65 {k : Nat} {A : Around} (r : Room k A) : A.units + 65 < cLine := by have := r.un; omega
def sRaiseF (c : Nat) (f : Ev → Rs PyData) : Ev → Rs Out := fun ρ => (f ρ).bnd fun d => .ok (.xc ρ c [d])
theorem s_raiseFC {X : Cx} {F : FC} {st : Stmt} {c : Nat} {f : Ev → Rs PyData} (hF : Calm F) : SP' X F st (sRaiseF c f) := wkS ps_never fun D σ H ⟨O, ρ, o, r, e, p⟩ => by
  obtain ⟨d, ed, e⟩ := Rs.bnd_eq e
  cases e; exact calm_no hF p

abbrev baseVE : List Value := [.type "ValueError", .type "Exception", .type "BaseException", .type "object"]
/-- an error's class -/
structure ExcI (K : PySem.W.Frag) (mg : Str → Option Value) (x : Str) where
  C : Addr
  g : mg x = some (.ref C)
  q : PySem.W.excIn K C baseVE "ValueError.__new__" = true
  k : PySem.W.keepIn K (.ref C) = true
  b : PySem.W.subIn K (.ref C) (.type "BaseException") = some true
  t : PySem.W.typeIn K (.ref C) = some (.type "type")
  h : PySem.W.hasDictIn K C = true
/-- a table that tells of classes -/
def TabX (xm : XM) (f : Addr → Bool → Prop) (l : List (Nat × Bool)) : Prop := ∀ c b, l.lookup c = some b → ∃ C fn, xm c = some (C, fn) ∧ f C b
theorem tx_n {xm : XM} {f : Addr → Bool → Prop} : TabX xm f [] := fun _ _ e => nomatch e
theorem tx_c {xm : XM} {f : Addr → Bool → Prop} {c : Nat} {b : Bool} {C : Addr} {fn : Option Str} {l : List (Nat × Bool)} (hx : xm c = some (C, fn)) (hf : f C b) (t : TabX xm f l) : TabX xm f ((c, b) :: l) := fun c' b' e => by
  rw [List.lookup_cons] at e
  split at e
  · rename_i h
    cases e
    rw [eq_of_beq h]
    exact ⟨C, fn, hx, hf⟩
  · exact t c' b' e
theorem sub_self {K : PySem.W.Frag} {mg : Str → Option Value} {x : Str} (D : ExcI K mg x) : PySem.W.subIn K (.ref D.C) (.ref D.C) = some true := by
  have q := D.q
  unfold PySem.W.excIn at q
  split at q
  · rename_i cd sl e
    split at q
    · rename_i C' bm _ _ _ _ n _ em es
      have hC : C' = D.C := by
        have := (Bool.and_eq_true_iff.mp (Bool.and_eq_true_iff.mp (Bool.and_eq_true_iff.mp (Bool.and_eq_true_iff.mp (Bool.and_eq_true_iff.mp q).1).1).1).1).1
        simpa using this
      show PySem.W.mroIn K D.C (.ref D.C) = some true
      unfold PySem.W.mroIn PySem.W.clsIn
      rw [e]
      show (if cd.mro.isEmpty then none else some (cd.mro.contains (.ref D.C))) = some true
      rw [em, hC]
      simp
    · exact nomatch q
  · exact nomatch q
theorem exm_sub {K : PySem.W.Frag} {mg : Str → Option Value} {x y : Str} {b : Bool} (D : ExcI K mg y) (C : ExcI K mg x) (h : PySem.W.subIn K (.ref C.C) (.ref D.C) = some b) : PySem.W.exmOne K (.ref C.C) (.ref D.C) = some b := PySem.W.exm_ref D.b D.h D.t h
theorem kit_sub {K : PySem.W.Frag} {mg : Str → Option Value} {x y : Str} {b : Bool} (D : ExcI K mg y) (C : ExcI K mg x) (h : PySem.W.subIn K (.ref C.C) (.ref D.C) = some b) : PySem.W.kitOne K (.ref C.C) (.ref D.C) = some b := by
  by_cases e : C.C = D.C
  · unfold PySem.W.kitOne
    rw [if_pos (by rw [e]; exact beq_self_eq_true _)]
    have q : PySem.W.exmOne K (.ref C.C) (.ref D.C) = some b := exm_sub D C h
    rw [e] at h
    have hs : PySem.W.subIn K (.ref D.C) (.ref D.C) = some true := sub_self D
    rw [hs] at h; exact h
  · unfold PySem.W.kitOne
    rw [if_neg (fun z => e (by simpa using z))]
    obtain ⟨cd, hc, _⟩ := PySem.W.any_some D.h
    have e2 : ((PySem.W.clsIn K D.C).isSome && PySem.W.typeIn K (.ref D.C) == some (.type "type")) = true := by rw [hc, D.t] <;> rfl
    show (if ((PySem.W.clsIn K D.C).isSome && PySem.W.typeIn K (.ref D.C) == some (.type "type")) = true then PySem.W.subIn K (.ref C.C) (.ref D.C) else none) = some b
    rw [if_pos e2]
    exact h
/-- raise x('..') -/
theorem pm_exc {X : Cx} {x m : Str} {j : Nat} {p p2 pos : Pos} (T : ExcI X.K X.mg x) (hg : Gl X x := by rfl) (hdb : (x == ("__debug__" : Str)) = false := by decide) : PMk X (.Call (.Name x p) [.Constant (.str m) j p2] [] pos) (fun _ H Q => Q (.ref T.C) none H) :=
  pmk_own PySem.F.excBase_ValueError T.q T.g T.k (raises_own T.b T.t) hg hdb
theorem nm_exc {X : Cx} {x : Str} (T : ExcI X.K X.mg x) (hg : Gl X x := by rfl) (hdb : (x == ("__debug__" : Str)) = false := by decide) : Names X x (.ref T.C) := ⟨hg, hdb, .inl T.g⟩

def TabE (xm : XM) (f : Addr → Bool → Prop) (l : List (Nat × Bool)) : Prop := ∀ c b, l.lookup c = some b → ∃ C, xm c = some (C, none) ∧ f C b
theorem ti_n {xm : XM} {f : Addr → Bool → Prop} : TabE xm f [] := fun _ _ e => nomatch e
theorem ti_c {xm : XM} {f : Addr → Bool → Prop} {c : Nat} {b : Bool} {C : Addr} {l : List (Nat × Bool)} (hx : xm c = some (C, none)) (hf : f C b) (t : TabE xm f l) : TabE xm f ((c, b) :: l) := fun c' b' e => by
  rw [List.lookup_cons] at e
  split at e
  · rename_i h
    cases e
    rw [eq_of_beq h]
    exact ⟨C, hx, hf⟩
  · exact t c' b' e
/-! isinstance(n, x) of the exception in hand -/
def isX (i : Nat) (l : List (Nat × Bool)) (c : Nat) : Ev → Rs PyData := fun ρ => match getC ρ i with
  | some .hot => (match l.lookup c with | some b => .ok (.bool b) | none => .no)
  | _ => .no
section
variable {X : Cx} {F : FC} {xm : XM}
theorem p_isX {i : Nat} {a cD : Addr} {oe : Obj} {cls : Value} {d : Option Addr} {pn : List (Addr × Obj)} {c : Nat} {fs : List PyData} {l : List (Nat × Bool)} {x n : Str} {p1 p2 p3 pos : Pos} (hz : Zc cls d oe) (hf : ∃ vs, oe.data = .fields vs) (hx : ExOk xm (fun _ => True) F.H0 c fs cls d) (hht : F.ht = some a)
    (T : TabE xm (fun C b => ExcC X.K C ∧ PySem.W.kitOne X.K (.ref C) (.ref cD) = some b) l)
    (hn : PE (X.suite a ((a, oe) :: pn)) (.Name n p1) (tVar i)) (hg : Gl X "isinstance") (hm : X.mg "isinstance" = none) (hgx : Gl X x := by rfl) (hmx : X.mg x = some (.ref cD)) (hdx : (x == ("__debug__" : Str)) = false := by decide)
    (hb : bootBuiltins "isinstance" = some (.builtin "isinstance") := by decide +kernel)
    (h1 : starEach [.Name n p1, .Name x p2] (X.suite a ((a, oe) :: pn)).env = (false, eval (.Name n p1) (X.suite a ((a, oe) :: pn)).env) :: starEach [.Name x p2] (X.suite a ((a, oe) :: pn)).env := by rfl)
    (h2 : starEach [.Name x p2] (X.suite a ((a, oe) :: pn)).env = (false, eval (.Name x p2) (X.suite a ((a, oe) :: pn)).env) :: starEach [] (X.suite a ((a, oe) :: pn)).env := by rfl)
    (hpl : (backTo pos (starEach [.Name x p2] (X.suite a ((a, oe) :: pn)).env)).any (·.1) = false := by rfl) :
    EP' (X.suite a ((a, oe) :: pn)) F (.Call (.Name "isinstance" p3) [.Name n p1, .Name x p2] [] pos) (isX i l c) := by
  refine ⟨fun pins s σ H Q I ⟨O, ρ, dd, r, e, q⟩ => ?_⟩
  unfold isX at e
  split at e <;> first | (cases e; done) | skip
  rename_i hc
  split at e <;> first | (cases e; done) | skip
  rename_i b hl
  cases e
  obtain ⟨C, e1, h3, h4⟩ := T c b hl
  obtain ⟨C', fn', e1', e2, e3⟩ := hx
  rw [e1] at e1'; cases e1'
  cases fs with
  | cons _ _ => exact e3.elim
  | nil =>
    simp only at e3
    subst e2 e3
    obtain ⟨a', ha', hs⟩ := r.slots i _ (getC_iff.mp hc)
    rw [hht] at ha'; cases ha'
    exact (pe_callB (call_isE h3 hz hf) hg hm hb (pa_cons hn (pa_cons (pe_glob (v := .ref cD) hgx hmx rfl hdx) pa_nil h2) h1) (hpl := hpl) (he := h1)).run pins s σ H Q I ⟨_, hs, .ref cD, .ref cD, b, rfl, fun u ru => ru, h4, q _ H (Same.refl H) .bool⟩
end

/-! methods of plain values -/
def rPM (K : PySem.W.Frag) (op : PyData → List PyData → Rs PyData) : V → List V → Hp → VK → Prop := fun x xs H Q => ∃ (N : Addr → Prop) (d : PyData) (ds : List PyData) (e : PyData), (∀ a, N a → H a ≠ none) ∧ R K (hide N H) d x ∧ RA K (hide N H) ds xs ∧ op d ds = .ok e ∧ ∀ v H', Same H H' → R K (hide N H') e v → Q v H'
/-- d is of the type T -/
def tyD (T : String) : PyData → Bool
  | .list _ => T == "list"
  | .str _ => T == "str"
  | .int _ => T == "int"
  | _ => false
def apM (T : String) (op : PyData → List PyData → Rs PyData) (f : Ev → Rs PyData) (g : Ev → Rs (List PyData)) : Ev → Rs PyData := fun ρ => (f ρ).bnd fun d => (g ρ).bnd fun ds => if tyD T d = true then op d ds else .no
theorem tyV_d {K : PySem.W.Frag} {T : String} {H : Hp} {d : PyData} {x : V} (h : tyD T d = true) (r : R K H d x) : tyV K T x H := by
  cases d with
  | list ds =>
    obtain ⟨z, a, xs, rfl, h1, t1⟩ := r.listV
    exact .inl ⟨eq_of_beq h, xs, h1⟩
  | str y => rw [R] at r; rw [r.1]; exact eq_of_beq h
  | int i => rw [r.intV]; exact eq_of_beq h
  | _ => exact nomatch h
section
variable {X : Cx} {F : FC}
theorem p_bm {T id : String} {name : Str} {o e : Expr} {es : List Expr} {op : PyData → List PyData → Rs PyData} {f : Ev → Rs PyData} {g : Ev → Rs (List PyData)} {apos cpos : Pos} (pa : PlainAttrs T) (slot : Slot T name id) (hty : typeOf (.builtin id) = pure (.type "method_descriptor")) (hm : MtR X id (rPM X.K op)) (ho : EP' X F o f) (ha : AP' X F (e :: es) g)
    (hbase : attributeBase o name X.env (eval o X.env) = eval o X.env := by rfl)
    (hfew : ((backTo cpos (starEach (e :: es) X.env)).all (fun x => !x.1) && (backToKw cpos (keywordEach [] X.env)).all (fun x => x.1.isSome)
      && decide ((e :: es).length + ([] : List Keyword).length + (if ([] : List Keyword).isEmpty then 0 else 1) < 30)) = true := by rfl)
    (hline : (apos.endLine == cpos.line) = true := by rfl) (hs : starEach (e :: es) X.env = (false, eval e X.env) :: starEach es X.env := by rfl) (hplain : (backTo cpos (starEach es X.env)).any (·.1) = false := by rfl) :
    EP' X F (.Call (.Attribute o name apos) (e :: es) [] cpos) (apM T op f g) :=
  wkE (pe_bm pa slot hty hm ho ha hbase hfew hline hs hplain) fun σ H Q ⟨O, ρ, d, r, e, q⟩ => by
    obtain ⟨d1, e1, e⟩ := Rs.bnd_eq e
    obtain ⟨ds, e2, e⟩ := Rs.bnd_eq e
    split at e <;> first | (cases e; done) | skip
    rename_i ht
    exact ⟨O, ρ, d1, r, e1, fun x H1 s1 r1 => ⟨tyV_d ht (r1.mono hide_le), O, ρ, ds, r.mono s1, e2, fun xs H2 s2 r2 => ⟨NN F O, d1, ds, d, fun z n => ((r.mono s1).mono s2).nlive n, r1.mono (hide_same s2), r2, e, fun v H' s3 r3 => q v H' ((s1.trans s2).trans s3) r3⟩⟩⟩
theorem p_bm0 {T id : String} {name : Str} {o : Expr} {op : PyData → List PyData → Rs PyData} {f : Ev → Rs PyData} {apos cpos : Pos} (pa : PlainAttrs T) (slot : Slot T name id) (hty : typeOf (.builtin id) = pure (.type "method_descriptor")) (hm : MtR X id (rPM X.K op)) (ho : EP' X F o f)
    (hbase : attributeBase o name X.env (eval o X.env) = eval o X.env := by rfl) (hline : (apos.endLine == cpos.line) = true := by rfl) :
    EP' X F (.Call (.Attribute o name apos) [] [] cpos) (apM T op f aN) :=
  wkE (pe_bm0 pa slot hty hm ho hbase hline) fun σ H Q ⟨O, ρ, d, r, e, q⟩ => by
    obtain ⟨d1, e1, e⟩ := Rs.bnd_eq e
    obtain ⟨ds, e2, e⟩ := Rs.bnd_eq e
    cases e2
    split at e <;> first | (cases e; done) | skip
    rename_i ht
    exact ⟨O, ρ, d1, r, e1, fun x H1 s1 r1 => ⟨tyV_d ht (r1.mono hide_le), NN F O, d1, [], d, fun z n => (r.mono s1).nlive n, r1, .nil, e, fun v H' s3 r3 => q v H' (s1.trans s3) r3⟩⟩
end
/-- the first place of an equal one -/
def indexL (d : PyData) : List PyData → Option Nat
  | [] => none
  | z :: r => if PyData.eqv z d = true then some 0 else (indexL d r).map (· + 1)
theorem indexL_spec {d : PyData} : ∀ {ds : List PyData} {j : Nat}, indexL d ds = some j → ∃ z, ds[j]? = some z ∧ PyData.eqv z d = true ∧ ∀ m z', m < j → ds[m]? = some z' → PyData.eqv z' d = false
  | [], j, h => nomatch h
  | z :: r, j, h => by
    unfold indexL at h
    split at h
    · cases h
      exact ⟨z, rfl, by assumption, fun m z' hm => absurd hm (Nat.not_lt_zero m)⟩
    · rename_i hn
      obtain ⟨k, hk, rfl⟩ := Option.map_eq_some_iff.mp h
      obtain ⟨y, h1, h2, h3⟩ := indexL_spec hk
      refine ⟨y, by simpa using h1, h2, fun m z' hm e => ?_⟩
      cases m with
      | zero => simp at e; subst e; simpa using hn
      | succ m => exact h3 m z' (by omega) (by simpa using e)
def indexD : PyData → List PyData → Rs PyData
  | .list ds, [d] => if SeqAt.shaped (.list ds) = true ∧ SeqAt.shaped d = true ∧ nodAll ds = true ∧ nod d = true then (match indexL d ds with | some j => .ok (.int j) | none => .no) else .no
  | _, _ => .no
/-- the same for a tuple; a call of a tuple's method -/
def intsO : List PyData → Option (List Int)
  | [] => some []
  | .int i :: ds => (intsO ds).map fun l => i :: l
  | _ :: _ => none
def indexT : PyData → List PyData → Rs PyData
  | .tuple ds, [.int k] => (match intsO ds with
    | some ns => if k ∈ ns then .ok (.int (ns.idxOf k : Nat)) else .no
    | none => .no)
  | _, _ => .no
/-- enumerate of a tuple -/
def enumTD : List PyData → Rs (List PyData)
  | [.tuple a] => .ok (a.mapIdx fun i x => .tuple [.int i, x])
  | _ => .no
def apT (op : PyData → List PyData → Rs PyData) (f : Ev → Rs PyData) (g : Ev → Rs (List PyData)) : Ev → Rs PyData := fun ρ => (f ρ).bnd fun d => (g ρ).bnd fun ds => op d ds
theorem m_index {X : Cx} (hu : X.A.units + 65 < cLine) : MtR X "list.index" (rPM X.K indexD) := by
  intro pins s σ H x xs v us Q I rx rxs ⟨N, d, ds, e, n, r, ra, eo, q⟩
  unfold indexD at eo
  split at eo <;> first | (cases eo; done) | skip
  rename_i ds' d'
  split at eo <;> first | (cases eo; done) | skip
  rename_i hc
  split at eo <;> first | (cases eo; done) | skip
  rename_i j hj
  cases eo
  obtain ⟨z, h1, h2, h3⟩ := indexL_spec hj
  obtain ⟨y, rfl, r2⟩ := ra.inv1
  have rl := (r.mono hide_le).dp (by rw [nod]; exact hc.2.2.1)
  have r' := r
  obtain ⟨_, a, _, rfl, _, _⟩ := r'.listV
  exact mt_indexD hu pins s σ H _ _ v us Q I rx rxs ⟨a, y, d', ds', j, z, rfl, rfl, rl, (r2.mono hide_le).dp hc.2.2.2, hc.1, hc.2.1, h1, h2, h3, q _ H (Same.refl H) .int⟩
end PL
/-! calls that see a list of one's own and give what is on no heap -/
namespace PL
open PySem PySem.Spec PyProof.Rows L2
def tAW (K : KB) (F : FC) (g : Ev → Rs (List PyData)) : TA := fun σ H Q => ∃ O ρ ds, Rel K F O ρ σ H ∧ g ρ = .ok ds ∧ ∀ vs H', Same H H' → RA K.K H' ds vs → Q vs H'
abbrev WA' (X : Cx) (F : FC) (es : List Expr) (g : Ev → Rs (List PyData)) : Prop := PA X es (tAW X.kb F g)
section
variable {X : Cx} {F : FC}
theorem wa_n : WA' X F [] aN := wkA pa_nil fun σ H Q ⟨O, ρ, d, r, e, q⟩ => by
  cases e
  exact q [] H (Same.refl H) .nil
theorem wa_c {e : Expr} {es : List Expr} {f : Ev → Rs PyData} {g : Ev → Rs (List PyData)} (h : WE' X F e f) (t : WA' X F es g)
    (hs : starEach (e :: es) X.env = (false, eval e X.env) :: starEach es X.env := by rfl) : WA' X F (e :: es) (aC f g) := wkA (pa_cons h t hs) fun σ H Q ⟨O, ρ, d, r, e, q⟩ => by
  obtain ⟨a, ea, e⟩ := Rs.bnd_eq e
  obtain ⟨b, eb, e⟩ := Rs.bnd_eq e
  cases e
  exact ⟨O, ρ, a, r, ea, fun x H1 s1 r1 => ⟨O, ρ, b, r.mono s1, eb, fun xs H2 s2 r2 => q (x :: xs) H2 (s1.trans s2) (.cons (r1.mono s2) r2)⟩⟩
theorem no_hideA {K : PySem.W.Frag} {H : Hp} {ds : List PyData} {vs : List V} (r : RA K H ds vs) : RA K (hide (fun _ => False) H) ds vs := r.mono fun _ _ e => hide_of (fun z => z) e
theorem w_callI {k n : Nat} {ps : List Str} {st : Stmt} {G : List PyData → Rs PyData} {x : Str} {p pos : Pos} {e : Expr} {es : List Expr} {g : Ev → Rs (List PyData)} (I : FnI X.K X.mg x st ps) (Fn : FnOk X.prog X.w X.K X.mg X.base CX0 k I.a I.d ps (spP X.K n G)) (hr : Room k X.A)
    (ha : WA' X F (e :: es) g) (hl : Ln n g) (hg : Gl X x := by rfl) (hdb : (x == ("__debug__" : Str)) = false := by decide) (he : starEach (e :: es) X.env = (false, eval e X.env) :: starEach es X.env := by rfl) (hpl : (backTo pos (starEach es X.env)).any (·.1) = false := by rfl) :
    EP' X F (.Call (.Name x p) (e :: es) [] pos) (flatE (apC G g)) :=
  wkE (pe_call Fn hr hg I.m I.F.kp I.b .nil pass0 ha hdb he hpl) fun σ H Q ⟨O, ρ, d, r, e, q⟩ => by
    obtain ⟨d', ed, e⟩ := Rs.bnd_eq e
    obtain ⟨a, ea, e2⟩ := Rs.bnd_eq ed
    exact ⟨O, ρ, a, r, ea, fun vs H1 s1 r1 => ⟨fun _ => False, a, d', fun z n => n.elim, by rw [List.append_nil]; exact no_hideA r1, hl ρ a ea, e2, fun v H' s3 r3 => q v H' (s1.trans s3) (flat_any e r3)⟩⟩
/-! x.pop(), x.clear() -/
def sPop (i : Nat) : Ev → Rs Out := fun ρ => match getC ρ i with
  | some (.own ds) => if ds = [] then .no else .ok (.nx (ρ.set i (some (.own ds.dropLast))))
  | _ => .no
def sClear (i : Nat) : Ev → Rs Out := fun ρ => match getC ρ i with
  | some (.own _) => .ok (.nx (ρ.set i (some (.own []))))
  | _ => .no
theorem s_pop {st : Stmt} {i : Nat} (h : PS X st (tDrop (tBM0 X.K "list" rPop (tVar i)))) : SP' X F st (sPop i) := wkS h fun D σ H ⟨O, ρ, o, r, e, p⟩ => by
  unfold sPop at e
  split at e <;> first | (cases e; done) | skip
  rename_i ds hc
  split at e <;> first | (cases e; done) | skip
  rename_i hn
  cases e
  obtain ⟨hz, a, xs, h1, h2, h3, h4⟩ := own_at r hc
  have hl := h4.len
  have hp : 0 < ds.length := List.length_pos_iff.mpr hn
  have hlt : xs.length - 1 < xs.length := by omega
  have e1 : xs.dropLast = xs.take (xs.length - 1) := List.dropLast_eq_take
  have e2 : ds.dropLast = ds.take (xs.length - 1) := by rw [List.dropLast_eq_take, hl]
  refine ⟨_, h2, .inl ⟨rfl, xs, .of h3⟩, a, xs, xs[xs.length - 1], rfl, rfl, h3, List.getElem?_eq_getElem hlt, ?_⟩
  obtain ⟨m1, m2⟩ := r.mut (i := i) (xs := xs.dropLast) (es := ds.dropLast) (getC_iff.mp hc) h1 (by rw [List.length_dropLast]; omega) (by rw [e1, e2]; exact h4.take _)
  exact p O _ _ m1 m2
theorem s_clear {st : Stmt} {i : Nat} (h : PS X st (tDrop (tBM0 X.K "list" rClear (tVar i)))) : SP' X F st (sClear i) := wkS h fun D σ H ⟨O, ρ, o, r, e, p⟩ => by
  unfold sClear at e
  split at e <;> first | (cases e; done) | skip
  rename_i ds hc
  cases e
  obtain ⟨hz, a, xs, h1, h2, h3, h4⟩ := own_at r hc
  refine ⟨_, h2, .inl ⟨rfl, xs, .of h3⟩, a, xs, rfl, rfl, h3, ?_⟩
  obtain ⟨m1, m2⟩ := r.mut (i := i) (xs := []) (es := []) (getC_iff.mp hc) h1 (Nat.zero_le _) .nil
  exact p O _ _ m1 m2
end
end PL


/-! PL20: enumerate of a tuple -/
namespace PL
open PySem PySem.Spec PyProof.Rows
open Sem (wp)
theorem enum_new1 {v : Value} {o : Obj} {H : Heap → Prop} (B : Begins v o H) :
    Meets (Builtin.«enumerate.__new__» ⟨[.type "enumerate", v], []⟩) (fun _ R s => H s.heap ∧
      R (.ok (.ret (.ref (s.heap.push o).objs.size))) { s with heap := (s.heap.push o).push { cls := .type "enumerate", data := .fields #[.none, .bool false, .ref s.heap.objs.size, rawInt 0, .none, .none] } }) :=
  .of_wp fun prog w A R s h => by
    obtain ⟨hp, g, d, tk, os⟩ := s; obtain ⟨h1, h⟩ := h
    have hsub := sub_enumerate
    have q1 : ∀ {A' : Around} {E : Value → Shared → Prop} {Q : Value → Shared → Prop}, Q (.ref hp.objs.size) ⟨hp.push o, g, d, tk, os⟩ → wpAny (model prog w) A' (pyIter v) Q E ⟨hp, g, d, tk, os⟩ :=
      fun q => B.iter prog w _ _ ⟨hp, g, d, tk, os⟩ _ h1 q
    wp_walk using q1
    refine wpAny_stack_any fun st => wpAny_pure ?_
    split
    · rename_i c _ _ _ _ _
      cases (c == Value.type "enumerate")
      · wp_walk using q1
        exact ⟨_, rfl, h⟩
      · wp_walk using q1
        exact ⟨_, rfl, h⟩
    · wp_walk using q1
      exact ⟨_, rfl, h⟩
section
variable {prog : Program} {w : World} {A : Around} {E : Value → Shared → Prop} {s : Shared}
theorem call_enum1 {v : Value} {o : Obj} {H : Heap → Prop} {Q : Value → Shared → Prop} (B : Begins v o H) (h1 : H s.heap)
    (h : ∀ h', IsEnum h' (s.heap.objs.size + 1) s.heap.objs.size 0 .none → h'.get? s.heap.objs.size = some o → h'.objs.size = s.heap.objs.size + 2 →
      (∀ b o, s.heap.get? b = some o → h'.get? b = some o) → Q (.ref (s.heap.objs.size + 1)) { s with heap := h' }) :
    wpAny (model prog w) A (call (.type "enumerate") [v]) Q E s := by
  refine callType_new F.called_enumerate (by decide) (F.typeCall_enumerate_1 _) (F.newCall_enumerate_1 _) (fun obj => F.args_object_init_2 obj _) F.entry_enumerate_new
    (enum_new1 B) ⟨h1, ?_⟩
  have hz : (s.heap.push o).objs.size = s.heap.objs.size + 1 := Heap.size_push ..
  show _ ∧ _
  rw [hz]
  have he : IsEnum ((s.heap.push o).push { cls := .type "enumerate", data := .fields #[.none, .bool false, .ref s.heap.objs.size, rawInt 0, .none, .none] }) (s.heap.objs.size + 1) s.heap.objs.size 0 .none := by
    have := Heap.get?_push_size (s.heap.push o) (o := { cls := .type "enumerate", data := .fields #[.none, .bool false, .ref s.heap.objs.size, rawInt 0, .none, .none] }) rfl
    rw [hz] at this; exact this
  exact ⟨⟨_, he, rfl⟩, h _ he (Heap.get?_push_of_some _ (Heap.get?_push_size _ B.free)) (by rw [Heap.size_push, hz]) fun b o x => Heap.get?_push_of_some _ (Heap.get?_push_of_some _ x)⟩
end
end PL
namespace PL
open PySem PySem.Spec PyProof.Rows L2
/-- a tuple's items with their numbers, each in a new pair -/
def IteT (K : PySem.W.Frag) (a : Addr) : It where
  go := fun i H => ∃ (xs : List V) (x : V), SqT K H a xs ∧ xs[i]? = some x
  yld := fun i H v H' => ∃ T x, v = .ref T ∧ H T = none ∧ H' = upd H T (.tup [.int (i : Nat), x]) ∧ ∀ xs, SqT K H a xs → xs[i]? = some x
  stop := fun i H => ∃ xs : List V, SqT K H a xs ∧ xs.length = i
theorem turn_enumT {P : Program} {w : World} {K : PySem.W.Frag} {elts : List Expr} {kk : Nat} {tpos : Pos} (a e it : Addr) (hne : e ≠ it) (het : e ≠ a) (hti : a ≠ it) :
    Turn P w K (.Tuple elts kk tpos) (IteT K a) [e, it] e (fun i h => (∃ old, IsEnum h e it ((i : Nat) : Int) old) ∧ h.IsTupleIter it a i) where
  mem := by simp
  obj := fun i h st b hb => by
    obtain ⟨⟨old, he⟩, o, ho, hc, hd⟩ := st
    have e' : b = e ∨ b = it := by simpa using hb
    rcases e' with z | z
    · subst z; exact ⟨_, he, fun v q => nomatch q⟩
    · subst z; exact ⟨o, ho, fun v q => by rw [hd] at q; cases q⟩
  keep := fun i h h' st k => ⟨let ⟨old, he⟩ := st.1; ⟨old, k e (by simp) _ he⟩, st.2.at fun o q => k it (by simp) o q⟩
  item := by
    intro X hP hw hK hc i pins s σ H E I hf st hg
    subst hP hw hK
    obtain ⟨⟨old, he⟩, hit⟩ := st
    obtain ⟨xs, x, hq, hx⟩ := hg
    obtain ⟨its, rv, p, hz⟩ := I.tuple hq
    obtain ⟨u, hu, ru⟩ := rv.get hx
    have hel : e < s.heap.objs.size := Heap.lt_size he
    have hil : it < s.heap.objs.size := by obtain ⟨_, q, _⟩ := hit; exact Heap.lt_size q
    have hlt : i < its.toArray.size := by
      rw [List.size_toArray]
      exact (List.getElem?_eq_some_iff.mp hu).1
    refine wpAny_pyNext_enum_itemD (Draws.tuple (A := X.A.in1) (I.ok.hd hc) it a hti its.toArray) he ⟨hit, p⟩ hlt hne (by simp [hne, het]) fun y h' tk hP ho hst' hT hsz hk => ?_
    have ey : y = u := by
      have e1 : its[i]? = some y := by simpa using hP
      rw [hu] at e1; exact (Option.some.inj e1).symm
    subst ey
    refine ⟨_, rfl, wpAny_letOwnedTupleGo_enum (s := { s with heap := h', toks := tk + 1 }) ho fun h'' he' sb => ?_⟩
    have hT2 : h''.get? s.heap.objs.size = some { cls := .type "tuple", data := .seq #[.int i tk, y] } := (sb.2 _ (Nat.ne_of_gt hel)).trans hT
    have new : ObjOk X.prog X.w (upd H s.heap.objs.size (.tup [.int (i : Nat), x])) h'' s.heap.objs.size (.tup [.int (i : Nat), x]) :=
      ⟨by show 2 ≤ sizeLine; decide, [.int i tk, y], .cons ⟨_, rfl⟩ (.cons ru .nil), ⟨_, hT2, rfl, _, rfl⟩⟩
    have I1 : Inv X pins σ (upd H s.heap.objs.size (.tup [.int (i : Nat), x])) { s with heap := h'', toks := tk + 1 } :=
      I.turnedNew (ch := [e, it]) (fun b ob hb q => (sb.2 b (fun z => hb (by simp [z]))).trans (hk b ob (fun z => hb (by simp [z])) (fun z => hb (by simp [z])) q)) hf (Nat.le_refl _) new
    refine ⟨.ref s.heap.objs.size, _, I1, rfl, ⟨_, x, rfl, I.hok.fresh (Nat.le_refl _), rfl, fun ys hy => by rw [I.tuple_inj hy hq]; exact hx⟩, ⟨⟨y, ?_⟩, hst'.1.at fun o q => (sb.2 it (Ne.symm hne)).trans q⟩, fun b hb => ?_⟩
    · have e1 : ((i + 1 : Nat) : Int) = (i : Int) + 1 := by omega
      rw [e1]; exact he'
    · have hb' : b < s.heap.objs.size := by
        have e' : b = e ∨ b = it := by simpa using hb
        rcases e' with z | z
        · rw [z]; exact hel
        · rw [z]; exact hil
      rw [upd_ne (Nat.ne_of_lt hb')]
      exact (hf b hb).1
  done := by
    intro X hP hw hK hc i pins s σ H E I hf st hg
    subst hP hw hK
    obtain ⟨⟨old, he⟩, hit⟩ := st
    obtain ⟨xs, hq, hx⟩ := hg
    obtain ⟨its, rv, p, hz⟩ := I.tuple hq
    obtain ⟨f0, f1, f2, f3, f4, f5⟩ := hf it (by simp)
    have hl : its.toArray.size = i := by rw [List.size_toArray, ← rv.length]; exact hx
    exact wpAny_pyNext_enum_endD (Draws.tuple (A := X.A.in1) (I.ok.hd hc) it a hti its.toArray) he ⟨by rw [hl]; exact hit, p⟩ fun h' eb => ⟨rfl, I.turned (t' := s.toks) (fun b o hb q => eb b o hb q) f0 f1 f3 f4 f5⟩
  self := fun A i s Q E st h => let ⟨_, he⟩ := st.1; wpAny_pyIter_enum he h
def iEnumT (K : PySem.W.Frag) (ta : TA) : TI := fun σ H R => ta σ H fun vs H1 => ∃ a xs, vs = [.ref a] ∧ SqT K H1 a xs ∧ R (IteT K a) H1
theorem pi_enumT {X : Cx} {e : Expr} {ta : TA} {p pos tpos : Pos} {elts : List Expr} {kk : Nat} (hg : Gl X "enumerate") (hm : X.mg "enumerate" = none) (ha : PA X [e] ta) (hs : starEach [e] X.env = [(false, eval e X.env)] := by rfl) :
    PI X (.Tuple elts kk tpos) (.Call (.Name "enumerate" p) [e] [] pos) (iEnumT X.K ta) := by
  refine ⟨fun pins s σ H R I h => ?_⟩
  refine Call_ (ld_blt I hg hm boot_enumerate (PyProof.Rows.callWith_type1 (thn (ha.run pos pins s σ H _ I h) fun us s1 ⟨vs, H1, I1, r1, q1⟩ => ?_) hs rfl))
  obtain ⟨a, xs, ex, hq, q⟩ := q1
  subst ex
  cases r1 with
  | cons r rr =>
    cases rr
    cases r
    obtain ⟨its, rv, p', hz⟩ := I1.tuple hq
    have hal : a < s1.heap.objs.size := p'.lt
    refine call_enum1 (begins_tuple a its.toArray) p' fun h' he hit hsz hk => wpAny_pyIter_enum he ?_
    have I2 : Inv X pins σ H1 { s1 with heap := h' } := I1.kept (t' := s1.toks) hk
    refine ⟨s1.heap.objs.size + 1, [s1.heap.objs.size + 1, s1.heap.objs.size], _, _, H1, rfl, I2, turn_enumT a (s1.heap.objs.size + 1) s1.heap.objs.size (Nat.succ_ne_self _) (Nat.ne_of_gt (Nat.lt_succ_of_lt hal)) (Nat.ne_of_lt hal), ⟨⟨.none, he⟩, ⟨_, hit, rfl, rfl⟩⟩, fun b hb => ?_, q⟩
    have e' : b = s1.heap.objs.size + 1 ∨ b = s1.heap.objs.size := by simpa using hb
    have hle : s1.heap.objs.size ≤ b := by
      rcases e' with z | z
      · rw [z]; exact Nat.le_add_right _ _
      · rw [z]; exact Nat.le_refl _
    exact I1.fpOk hle (I1.hok.fresh hle)
theorem wk_enumT {is : List Nat} {K : PySem.W.Frag} {B E : Hp} {a : Addr} {ds : List PyData} {xs : List V} (z : ds.length ≤ sizeLine) (h : SqT K B a xs) (t : RA K E ds xs) : Wk (.many is) K B E (IteT K a) (ds.mapIdx fun i x => .tuple [.int i, x]) := by
  refine ⟨by rw [List.length_mapIdx]; exact z, fun H i s hi => ?_, fun H s => ⟨xs, sqt_mono s h, by rw [List.length_mapIdx, t.len]⟩, fun H i x H' s hi y => ?_⟩
  · rw [List.length_mapIdx] at hi
    obtain ⟨x, e1, e2⟩ := t.get (List.getElem?_eq_getElem hi)
    exact ⟨xs, x, sqt_mono s h, e1⟩
  · obtain ⟨T, u, e, hT, eH, y1⟩ := y
    subst e eH
    obtain ⟨d, e1, e2⟩ := t.getV (y1 xs (sqt_mono s h))
    exact ⟨same_upd hT, _, by rw [List.getElem?_mapIdx, e1]; rfl, fun N hn se => pair_R hn hT .int (e2.mono se)⟩
theorem i_enumT {is : List Nat} {X : Cx} {F : FC} {e : Expr} {g : Ev → Rs (List PyData)} {p pos tpos : Pos} {elts : List Expr} {kk : Nat} (hg : Gl X "enumerate") (hm : X.mg "enumerate" = none) (ha : AP' X F [e] g) (hs : starEach [e] X.env = [(false, eval e X.env)] := by rfl) : PI X (.Tuple elts kk tpos) (.Call (.Name "enumerate" p) [e] [] pos) (tI X.kb F (.many is) (apN enumTD g)) :=
  wkI (pi_enumT hg hm ha hs) fun σ H Q ⟨O, ρ, ds, r, e, q⟩ => by
    obtain ⟨l, el, e⟩ := Rs.bnd_eq e
    unfold enumTD at e
    split at e <;> first | (cases e; done) | skip
    cases e
    refine ⟨O, ρ, _, r, el, fun vs H1 s1 r1 => ?_⟩
    obtain ⟨x, ev, g1⟩ := r1.inv1
    obtain ⟨z1, a, xs, e1, h1, t1⟩ := g1.tupV
    subst e1
    exact ⟨a, xs, ev, sqT_le h1, q _ H1 s1 (wk_enumT z1 h1 t1)⟩
end PL
namespace PL
open PySem PySem.Spec PyProof.Rows L2
/-! tuple.index -/
def TupD (K : PySem.W.Frag) (x : V) (H : Hp) : Prop := ∃ a xs, x = .ref a ∧ SqT K H a xs ∧ NoD K H a
def tTIx (K : PySem.W.Frag) (to : TE) (t : TA) : TE := fun σ H Q => to σ H fun x H1 => TupD K x H1 ∧ t σ H1 fun vs H2 => ∃ (a : Addr) (ns : List Int) (k : Int), x = .ref a ∧ vs = [.int k] ∧ SqT K H2 a (ns.map V.int) ∧ k ∈ ns ∧ Q (.int (ns.idxOf k : Nat)) H2
theorem nod_at {X : Cx} {pins : List (Addr × Obj)} {σ : St} {H : Hp} {s : Shared} {a : Addr} (I : Inv X pins σ H s) (h : NoD X.K H a) : ∃ ob, s.heap.get? a = some ob ∧ ob.dict = none := by
  rcases h with ⟨o, u, h1, h2⟩ | ⟨o, h1, h2⟩
  · exact ⟨o, (I.hok a _ h2).1, h1⟩
  · exact ⟨o, I.kIn a o h1, h2⟩
section
variable {X : Cx} {F : FC}
theorem pe_tupIx {to : TE} {t : TA} {o e : Expr} {apos cpos : Pos} (ho : PE X o to) (ha : PA X [e] t)
    (hbase : attributeBase o "index" X.env (eval o X.env) = eval o X.env := by rfl)
    (hfew : ((backTo cpos (starEach [e] X.env)).all (fun x => !x.1) && (backToKw cpos (keywordEach [] X.env)).all (fun x => x.1.isSome)
      && decide ([e].length + ([] : List Keyword).length + (if ([] : List Keyword).isEmpty then 0 else 1) < 30)) = true := by rfl)
    (hline : (apos.endLine == cpos.line) = true := by rfl) (hs : starEach [e] X.env = (false, eval e X.env) :: starEach [] X.env := by rfl) (hplain : (backTo cpos (starEach [] X.env)).any (·.1) = false := by rfl) :
    PE X (.Call (.Attribute o "index" apos) [e] [] cpos) (tTIx X.K to t) := by
  refine ⟨fun pins s σ H Q I h => ?_⟩
  refine wpAny_Call_method_late hbase hfew hline rfl (thn (ho.run pins s σ H _ I h) fun v s1 ⟨x, H1, I1, r1, ty, q1⟩ => ?_)
  obtain ⟨a, xs, ex, hq, hn⟩ := ty
  subst ex
  obtain rfl : v = Value.ref a := r1
  obtain ⟨its, rv, p, _⟩ := I1.tuple hq
  obtain ⟨o', ho', hc, _⟩ := id p
  refine ⟨"tuple", "tuple.index", PySem.F.plainAttrs_tuple, PySem.F.slot_tuple_index, PySem.F.type_tuple_index, ⟨o', ho', hc⟩, fun b e => by cases e; exact nod_at I1 hn, ?_⟩
  have hA := ha.run cpos pins s1 σ H1 _ I1 q1
  rw [hs] at hA ⊢
  refine Calls.callWith_builtin (by show (false || (backTo cpos (starEach [] X.env)).any (·.1)) = false; rw [hplain] <;> rfl) (Calls.evalArgs_plain ?_)
  refine thn hA fun us s2 ⟨vs, H2, I2, r2, a2, ns, k, e1, e2, e3, e4, q⟩ => ?_
  cases e1
  subst e2
  obtain ⟨u, rfl, t', rfl⟩ := vals1 r2
  obtain ⟨its2, rv2, p2, _⟩ := I2.tuple e3
  exact SeqAt.tuple_index_ints (vs := its2) p2 (intsAre_of rv2) e4 ⟨.int (ns.idxOf k : Nat), H2, I2.tok _, ⟨_, rfl⟩, q⟩
theorem ints_ra {K : PySem.W.Frag} {H : Hp} : ∀ {ds : List PyData} {ns : List Int} {xs : List V}, intsO ds = some ns → RA K H ds xs → xs = ns.map V.int
  | [], ns, xs, e, r => by cases e; exact r.inv0
  | d :: ds, ns, xs, e, r => by
    cases d with
    | int i =>
      rw [intsO] at e
      obtain ⟨l, e1, rfl⟩ := Option.map_eq_some_iff.mp e
      obtain ⟨x, q, rfl, h1, h2⟩ := r.inv
      rw [h1.intV, ints_ra e1 h2]; rfl
    | _ => exact nomatch e
theorem p_tupIx {o e : Expr} {f : Ev → Rs PyData} {g : Ev → Rs (List PyData)} {apos cpos : Pos} (ho : EP' X F o f) (ha : AP' X F [e] g)
    (hbase : attributeBase o "index" X.env (eval o X.env) = eval o X.env := by rfl)
    (hfew : ((backTo cpos (starEach [e] X.env)).all (fun x => !x.1) && (backToKw cpos (keywordEach [] X.env)).all (fun x => x.1.isSome)
      && decide ([e].length + ([] : List Keyword).length + (if ([] : List Keyword).isEmpty then 0 else 1) < 30)) = true := by rfl)
    (hline : (apos.endLine == cpos.line) = true := by rfl) (hs : starEach [e] X.env = (false, eval e X.env) :: starEach [] X.env := by rfl) (hplain : (backTo cpos (starEach [] X.env)).any (·.1) = false := by rfl) :
    EP' X F (.Call (.Attribute o "index" apos) [e] [] cpos) (apT indexT f g) :=
  wkE (pe_tupIx ho ha hbase hfew hline hs hplain) fun σ H Q ⟨O, ρ, d, r, e, q⟩ => by
    obtain ⟨d1, e1, e⟩ := Rs.bnd_eq e
    obtain ⟨ds, e2, e⟩ := Rs.bnd_eq e
    unfold indexT at e
    split at e <;> first | (cases e; done) | skip
    rename_i es k e'
    split at e <;> first | (cases e; done) | skip
    rename_i ns hns
    split at e <;> first | (cases e; done) | skip
    rename_i hk
    cases e
    refine ⟨O, ρ, _, r, e1, fun x H1 s1 r1 => ?_⟩
    obtain ⟨z, a, xs, ex, h1, t1, nd⟩ := r1.tupN
    subst ex
    have nd : NoD X.kb.K (hide (NN F O) H1) a := by
      rcases nd with nd | nd
      · exact nd
      · exfalso
        cases es with
        | nil => exact nomatch nd
        | cons d0 r0 =>
          cases d0 with
          | str y => exact nomatch hns
          | _ => exact nomatch nd
    refine ⟨⟨a, xs, rfl, sqT_le h1, nd.mono hide_le⟩, O, ρ, _, r.mono s1, e2, fun vs H2 s2 r2 => ?_⟩
    obtain ⟨y, ev, g1⟩ := r2.inv1
    refine ⟨a, ns, k, rfl, by rw [ev, g1.intV], ?_, hk, q _ H2 (s1.trans s2) .int⟩
    rw [← ints_ra hns t1]
    exact sqt_mono s2 (sqT_le h1)
end
end PL


/-! PL21: set(xs) of a list, its length, sorted of it -/
namespace PL
open PySem PySem.Spec PyProof.Rows L2
section
variable {P : Program} {w : World} {A : Around} {E : Value → Shared → Prop} {s : Shared}
/-- the object of a new set -/
def newS (w : World) : Obj := { cls := .type "set", dict := none, data := .set #[] 0 (.fresh 0 0 (!w.params.followText "set-order")) }
/-- a way to put things into the set at S: SP i says what is in it after i of them -/
structure Fill (P : Program) (w : World) (S : Addr) (n : Nat) (Pv : Nat → Value → Prop) (SP : Nat → Heap → Prop) : Prop where
  keep : ∀ i h h', SP i h → (∀ o, h.get? S = some o → h'.get? S = some o) → SP i h'
  put : ∀ (A : Around) (E : Value → Shared → Prop) i v (s : Shared) (Q : Bool → Shared → Prop), i < n → Pv i v → SP i s.heap →
    (∀ b h' tk, Heap.SameBut S s.heap h' → SP (i + 1) h' → s.toks ≤ tk → Q b { s with heap := h', toks := tk }) → wpAny (model P w) A (setAdd S v) Q E s
theorem set_fill {I S : Addr} {fp wr : List Addr} {G : Array GenState → Array GenState → Prop} {n : Nat} {Pv : Nat → Value → Prop} {Z : Nat → Shared → Prop} {R : Result → Shared → Prop} {SP : Nat → Heap → Prop}
    (W : WalksS P w A.in1 I fp wr G n Pv Z) (nS : S ∉ fp) (L : Fill P w S n Pv SP) : ∀ (k i : Nat) (s : Shared), n - i = k → i ≤ n → Z i s → SP i s.heap →
      (∀ s', Moved (S :: wr) G s s' → SP n s'.heap → R (.ok (.ret .none)) s') → codeAny (model P w) A (.builtin "set.update.loop" ⟨[.ref S, .ref I], []⟩) R s := by
  have nW : S ∉ wr := fun z => nS (W.sub _ z)
  have up : ∀ b ∈ wr, b ∈ S :: wr := fun _ z => List.mem_cons_of_mem _ z
  intro k
  induction k with
  | zero =>
    intro i s e1 e2 z0 sp hR
    obtain rfl : i = n := by omega
    refine codeAny_builtin F.entry_set_update_loop ?_
    rw [Around.under_plainId F.plain_set_update_loop _]
    show wpAny _ A.in1 (pyNext (.ref I) >>= _) _ _ s
    refine wpAny_bind (W.done s _ _ z0 fun s' mv => ?_)
    show wpAny _ A.in1 (ret Value.none) _ _ s'
    exact wpAny_pure (hR s' (mv.mono up) (L.keep _ _ _ sp fun o q => mv.heap S o nW q))
  | succ k ih =>
    intro i s e1 e2 z0 sp hR
    have lt : i < n := by omega
    refine codeAny_builtin F.entry_set_update_loop ?_
    rw [Around.under_plainId F.plain_set_update_loop _]
    show wpAny _ A.in1 (pyNext (.ref I) >>= _) _ _ s
    refine wpAny_bind (W.item i s _ _ lt z0 fun v s' pv z1 mv => ?_)
    have sp1 := L.keep _ _ _ sp fun o q => mv.heap S o nW q
    show wpAny _ A.in1 (holding [v] (setAdd S v) >>= _) _ _ s'
    refine wpAny_bind (wpAny_holding (L.put _ _ i v s' _ lt pv sp1 fun b h' tk sb sp2 tl => ?_))
    refine wpAny_pure ⟨plainId_quiet F.plain_set_update_loop _, ih (i + 1) _ (by omega) lt (W.frame _ s' _ _ z1 tl fun b hb o e => ?_) sp2 fun s'' mv2 sp3 => ?_⟩
    · rw [sb.2 b fun h : b = S => nS (by rw [← h]; exact hb)]
      exact e
    · refine hR s'' (Moved.trans W.gtrans ((mv.mono up).then_heap tl fun b o hb e => ?_) mv2) sp3
      rw [sb.2 b fun h : b = S => hb (by rw [h]; exact List.mem_cons_self)]
      exact e
/-- `set.__new__` -/
theorem set_new1 (a : Value) {Z : Value → Shared → Prop} (h : Z (.ref s.heap.objs.size) { s with heap := s.heap.push (newS w) }) :
    codeAny (model P w) A (.call (.builtin "set.__new__") ⟨[.type "set", a], []⟩) (wants Z E) s := code_set_led1 a h
theorem newS_at {h : Heap} : (h.push (newS w)).get? h.objs.size = some (newS w) := Heap.get?_push_size _ rfl
set_option maxHeartbeats 8000000 in
/-- `set(l)` of a list -/
theorem call_set_lst {l : Addr} {its : Array Value} {n : Nat} {Pv : Nat → Value → Prop} {SP : Nat → Heap → Prop} {Q : Value → Shared → Prop} (hn : A.handled = none) (ol : s.heap.IsList l its) (zn : its.size = n)
    (pv : ∀ i v, its[i]? = some v → Pv i v) (L : Fill P w s.heap.objs.size n Pv SP) (sp0 : ∀ h : Heap, h.get? s.heap.objs.size = some (newS w) → SP 0 h)
    (q : ∀ (h' : Heap) (tk : Nat), SP n h' → (∀ b o, s.heap.get? b = some o → h'.get? b = some o) → Q (.ref s.heap.objs.size) { s with heap := h', toks := tk }) :
    wpAny (model P w) A (call (.type "set") [.ref l]) Q E s := by
  subst zn
  obtain ⟨c0, t0, m0⟩ := F.called_set.mro
  have m1 := F.called_set.made
  have m2 := F.called_set.sub
  refine wpAny_call (codeAny_of_tree ?_)
  show wpAny _ _ (callAny (.type "set") _) _ _ _
  refine wpAny_pure ⟨Code.quiet_builtin _ (by decide +kernel), codeAny_builtin F.entry_type_call ?_⟩
  rw [Around.under_plain (weight_type_call_type "set" [.ref l] []) rfl]
  have m3 := F.called_set.notType
  have m4 := F.called_set.canCreate
  have m5 := F.typeCall_set_1 (.ref l)
  repeat (any_goals (first | assumption | wp_step))
  refine codeAny_mono (set_new1 (.ref l) (E := E) (Z := fun obj z => obj = .ref s.heap.objs.size ∧ z = { s with heap := s.heap.push (newS w) }) ⟨rfl, rfl⟩) fun r z hr => ?_
  cases r with
  | error e => exact hr
  | ok fl =>
    cases fl with
    | ret obj =>
      obtain ⟨rfl, rfl⟩ := hr
      have oT : Shared.TypeIs { s with heap := s.heap.push (newS w) } (.ref s.heap.objs.size) "set" := ⟨_, newS_at, rfl⟩
      have b1 := F.called_set.init.lookup
      have b2 := F.called_set.init.bind (.ref s.heap.objs.size)
      repeat (any_goals (first | assumption | wp_step))
      refine codeAny_mono (codeAny_call_builtin (R := wants (fun r z2 => r = .none ∧ ∃ h' tk, z2 = { s with heap := h', toks := tk } ∧ SP its.size h' ∧ (∀ b o, s.heap.get? b = some o → h'.get? b = some o)) E)
        F.called_set.init.plain F.entry_set_init (check_set_init_1 oT ?_)) fun r2 z2 hr2 => ?_
      · obtain ⟨o, ho, hc, nl, hd⟩ := ol
        obtain ⟨oc, od, odt, osl⟩ := o
        simp only at hc hd
        subst hc; subst hd
        have ho1 : (s.heap.push (newS w)).get? l = some { cls := .type "list", dict := od, data := .seq its nl, slots := osl } := Heap.get?_push_of_some _ ho
        have y1 := F.sub_list_set
        have y2 := F.sub_list_frozenset
        have y3 : (Value.type "list" == Value.type "dict") = false := by decide
        have ol1 : (s.heap.push (newS w)).IsList l its := ⟨_, ho1, rfl, nl, rfl⟩
        unfold Builtin.«set.__init__» noKeywords Builtin.Frozenset.updateFrom
        generalize hPI : pyIter = PI
        wp_walk
        subst hPI
        refine wpAny_pyIter_list ol1 ?_
        refine wpAny_bind (wpAny_runValue ?_)
        have lS : l < s.heap.objs.size := Heap.lt_size ho
        have n3 : A.in1.in1.in1.handled = none := by simp [hn]
        have neI : l ≠ (s.heap.push (newS w)).objs.size := by
          have e1 : l < s.heap.objs.size + 1 := Nat.lt_succ_of_lt lS
          rw [Heap.size_push]
          exact Nat.ne_of_lt e1
        have nS : s.heap.objs.size ∉ [(s.heap.push (newS w)).objs.size, l] := by
          rw [Heap.size_push]
          simp only [List.mem_cons, List.not_mem_nil, or_false, not_or]
          exact ⟨Nat.ne_of_lt (Nat.lt_succ_self _), fun z => absurd lS (by rw [z]; exact Nat.lt_irrefl _)⟩
        refine set_fill (Z := _) ((Walks.list n3 _ l neI its).toS) nS ⟨L.keep, fun A' E' i v s' Q' lt pq => L.put A' E' i v s' Q' lt (pv i v pq)⟩ (its.size - 0) 0 _ (by omega) (Nat.zero_le _)
          ⟨⟨_, Heap.get?_push_size _ rfl, rfl, rfl⟩, ol1.push _⟩ (sp0 _ (Heap.get?_push_of_some _ newS_at)) fun s' mv sp => ?_
        obtain ⟨h', g', d', tk', os'⟩ := s'
        have eg : g' = s.gens := mv.gens
        have ed : d' = s.drawn := mv.drawn
        have eo : os' = s.os := mv.os
        subst eg; subst ed; subst eo
        show wpAny _ _ _ _ _ _
        refine wpAny_pure ?_
        show wpAny _ _ (ret Value.none) _ _ _
        refine wpAny_pure ⟨rfl, h', tk', rfl, sp, fun b o e => ?_⟩
        have b0 : b < s.heap.objs.size := Heap.lt_size e
        refine mv.heap b o ?_ (Heap.get?_push_of_some _ (Heap.get?_push_of_some _ e))
        rw [Heap.size_push]
        simp only [List.mem_cons, List.not_mem_nil, or_false, not_or]
        have b1 : b < s.heap.objs.size + 1 := Nat.lt_succ_of_lt b0
        exact ⟨Nat.ne_of_lt b0, Nat.ne_of_lt b1⟩
      · cases r2 with
        | error e => exact hr2
        | ok fl2 =>
          cases fl2 with
          | ret r =>
            obtain ⟨rfl, h', tk, rfl, sp, hk⟩ := hr2
            repeat (any_goals (first | assumption | wp_step))
            exact q _ _ sp hk
          | _ => exact hr2.elim
    | _ => exact hr.elim
end
/-! ### ints -/
theorem intsFill (P : Program) (w : World) (S : Addr) (ns : List Int) (hb : ns.length + 1 < scanBound) :
    Fill P w S ns.length (fun i v => ∃ k t, ns[i]? = some k ∧ v = .int k t) (fun i h => ∃ c, c ≤ i ∧ SetR w h S (fun j => decide (j ∈ ns.take i)) c) where
  keep := fun i h h' ⟨c, hc, r⟩ k => ⟨c, hc, r.at k⟩
  put := fun A E i v s Q lt ⟨z, t, hz, e⟩ ⟨c, hc, r⟩ q => by
    subst e
    unfold setAdd
    refine wpAny_holding ?_
    refine wpAny_bind ((intKind P w).pyHash (k := z) (intKind_is _ _ _ _) ?_)
    refine setR_add_hashed (s := { s with toks := s.toks + 1 }) r (by omega) fun h' sb r2 => ?_
    refine q _ h' _ sb ⟨if decide (z ∈ ns.take i) = true then c else c + 1, by split <;> omega, r2.congr fun j => ?_⟩ (Nat.le_succ _)
    rw [List.take_add_one, hz]
    simp [List.mem_append]
/-- set(xs) of a list of ints -/
def rSetL (w : World) (K : PySem.W.Frag) : List V → Hp → VK → Prop := fun xs H Q => ∃ (l : Addr) (ns : List Int), xs = [V.ref l] ∧ SqL K H l (ns.map V.int) ∧ ns.length + 1 < scanBound ∧
  ∀ p c, H p = none → c ≤ ns.length → Q (.ref p) (upd H p (SetO w p (fun j => decide (j ∈ ns)) c))
section
variable {X : Cx}
theorem cr_setL (hc : X.calm = true) : CallR X (.type "set") (rSetL X.w X.K) := by
  intro pins s σ H xs us Q I r ⟨l, ns, e, hl, hb, q⟩
  subst e
  rw [Vals.ref1 r]
  obtain ⟨its, rv, pl, hz⟩ := I.list hl
  have ia := intsAre_of rv
  have hlen : its.toArray.size = ns.length := by rw [List.size_toArray, ← rv.length, List.length_map]
  refine call_set_lst (n := ns.length) (I.ok.hd hc) pl.isList hlen (fun i v hv => ?_) (intsFill X.prog X.w _ ns hb) (fun h e => ⟨0, Nat.le_refl 0, setR_new_at e⟩) fun h' tk ⟨c, hc', hS⟩ k => ?_
  · obtain ⟨n, t, e1, e2⟩ := PyProof.Rows.IntsAre.at ia i v (by simpa using hv)
    exact ⟨n, t, e2, e1⟩
  · rw [List.take_length] at hS
    have hf := I.hok.fresh (Nat.le_refl s.heap.objs.size)
    exact ⟨.ref _, upd H s.heap.objs.size (SetO X.w s.heap.objs.size (fun j => decide (j ∈ ns)) c), I.laid (t' := tk) k (Nat.le_refl _) (setO_new hS), rfl, q _ c hf hc'⟩
end
/-- into an ascending list without doubles -/
def insU (x : Int) : List Int → List Int
  | [] => [x]
  | y :: ys => if x < y then x :: y :: ys else if x = y then y :: ys else y :: insU x ys
def setU (ns : List Int) : List Int := ns.foldr insU []
theorem insU_mem {x z : Int} : ∀ {ys : List Int}, z ∈ insU x ys ↔ z = x ∨ z ∈ ys
  | [] => by simp [insU]
  | y :: ys => by
    unfold insU
    split
    · simp
    · split
      · rename_i e
        subst e
        simp
      · simp only [List.mem_cons, insU_mem (ys := ys)]
        constructor
        · rintro (h | h | h)
          · exact .inr (.inl h)
          · exact .inl h
          · exact .inr (.inr h)
        · rintro (h | h | h)
          · exact .inr (.inl h)
          · exact .inl h
          · exact .inr (.inr h)
theorem insU_asc {x : Int} : ∀ {ys : List Int}, ys.Pairwise (· < ·) → (insU x ys).Pairwise (· < ·)
  | [], _ => by simp [insU]
  | y :: ys, h => by
    obtain ⟨h1, h2⟩ := List.pairwise_cons.mp h
    unfold insU
    split
    · rename_i lt
      exact List.pairwise_cons.mpr ⟨fun z hz => by
        rcases List.mem_cons.mp hz with e | hz
        · omega
        · have := h1 z hz; omega, h⟩
    · split
      · exact h
      · exact List.pairwise_cons.mpr ⟨fun z hz => by
          rcases insU_mem.mp hz with e | hz
          · omega
          · exact h1 z hz, insU_asc h2⟩
theorem setU_mem {z : Int} : ∀ {ns : List Int}, z ∈ setU ns ↔ z ∈ ns
  | [] => Iff.rfl
  | n :: ns => by
    show z ∈ insU n (setU ns) ↔ _
    rw [insU_mem, setU_mem, List.mem_cons]
theorem setU_asc : ∀ {ns : List Int}, (setU ns).Pairwise (· < ·)
  | [] => List.Pairwise.nil
  | n :: ns => insU_asc setU_asc
theorem asc_uniq : ∀ {as bs : List Int}, as.Pairwise (· < ·) → bs.Pairwise (· < ·) → (∀ k, k ∈ as ↔ k ∈ bs) → as = bs
  | [], [], _, _, _ => rfl
  | [], b :: bs, _, _, h => absurd ((h b).mpr List.mem_cons_self) (by simp)
  | a :: as, [], _, _, h => absurd ((h a).mp List.mem_cons_self) (by simp)
  | a :: as, b :: bs, ha, hb, h => by
    obtain ⟨a1, a2⟩ := List.pairwise_cons.mp ha
    obtain ⟨b1, b2⟩ := List.pairwise_cons.mp hb
    have e : a = b := by
      rcases List.mem_cons.mp ((h a).mp List.mem_cons_self) with e | e
      · exact e
      · rcases List.mem_cons.mp ((h b).mpr List.mem_cons_self) with e' | e'
        · exact e'.symm
        · have := b1 a e
          have := a1 b e'
          omega
    subst e
    rw [asc_uniq a2 b2 fun k => ?_]
    constructor
    · intro hk
      rcases List.mem_cons.mp ((h k).mp (List.mem_cons_of_mem _ hk)) with e | e
      · subst e
        exact absurd (a1 k hk) (by omega)
      · exact e
    · intro hk
      rcases List.mem_cons.mp ((h k).mpr (List.mem_cons_of_mem _ hk)) with e | e
      · subst e
        exact absurd (b1 k hk) (by omega)
      · exact e
def intOf? : PyData → Option Int
  | .int i => some i
  | _ => none
def intsOf? : List PyData → Option (List Int)
  | [] => some []
  | d :: ds => match intOf? d, intsOf? ds with
    | some i, some is => some (i :: is)
    | _, _ => none
theorem intsOf?_eq : ∀ {ds : List PyData} {ns : List Int}, intsOf? ds = some ns → ds = ns.map .int
  | [], ns, h => by cases h; rfl
  | d :: ds, ns, h => by
    unfold intsOf? at h
    split at h <;> first | (cases h; done) | skip
    rename_i i is h1 h2
    cases h
    unfold intOf? at h1
    split at h1 <;> first | (cases h1; done) | skip
    cases h1
    rw [intsOf?_eq h2]
    rfl
theorem intsOf?_map : ∀ ns : List Int, intsOf? (ns.map .int) = some ns
  | [] => rfl
  | n :: ns => by
    show (match intOf? (.int n), intsOf? (ns.map .int) with | some i, some is => some (i :: is) | _, _ => none) = _
    rw [intsOf?_map ns]
    rfl
theorem insU_len (x : Int) : ∀ ys : List Int, (insU x ys).length ≤ ys.length + 1
  | [] => Nat.le_refl _
  | y :: ys => by
    unfold insU
    split
    · exact Nat.le_refl _
    · split
      · exact Nat.le_succ _
      · exact Nat.succ_le_succ (insU_len x ys)
theorem setU_len : ∀ ns : List Int, (setU ns).length ≤ ns.length
  | [] => Nat.le_refl _
  | n :: ns => Nat.le_trans (insU_len n (setU ns)) (Nat.succ_le_succ (setU_len ns))
theorem RA.intsV {K : PySem.W.Frag} {H : Hp} : ∀ {ns : List Int} {xs : List V}, RA K H (ns.map .int) xs → xs = ns.map V.int
  | [], _, h => h.inv0
  | n :: ns, _, h => by
    obtain ⟨x, r, rfl, h1, h2⟩ := h.inv
    rw [h1.intV, RA.intsV h2]
    rfl
/-- sorted(set(l)) of a list of ints -/
def setIN : List PyData → Rs (List PyData)
  | [.list ds] => match intsOf? ds with
    | some ns => if ns.length < 64 then .ok ((setU ns).map .int) else .no
    | none => .no
  | _ => .no
theorem setIN_ok (ns : List Int) (h : ns.length < 64) : setIN [.list (ns.map .int)] = .ok ((setU ns).map .int) := by
  show (match intsOf? (ns.map .int) with | some ns => if ns.length < 64 then Rs.ok ((setU ns).map PyData.int) else Rs.no | none => Rs.no) = _
  rw [intsOf?_map]
  exact if_pos h
section
variable {X : Cx} {F : FC}
theorem n_setI {a : Expr} {g : Ev → Rs (List PyData)} {p p2 q pos : Pos} (hc : X.calm = true) (hg : Gl X "sorted") (hm : X.mg "sorted" = none) (hg2 : Gl X "set") (hm2 : X.mg "set" = none) (ha : AP' X F [a] g)
    (he : starEach [a] X.env = (false, eval a X.env) :: starEach [] X.env := by rfl) (he2 : starEach [.Call (.Name "set" p2) [a] [] q] X.env = (false, eval (.Call (.Name "set" p2) [a] [] q) X.env) :: starEach [] X.env := by rfl) :
    NP' X F (.Call (.Name "sorted" p) [.Call (.Name "set" p2) [a] [] q] [] pos) (apN setIN g) :=
  wkE (pe_callB (cr_sortedSet hc) hg hm (by decide +kernel) (pa_cons (pe_callTy (cr_setL hc) hg2 hm2 (by decide +kernel) ha (by decide) (by decide) he rfl) pa_nil he2) (by decide) (by decide) he2 rfl) fun σ H Q ⟨O, ρ, es, r, e, qq⟩ => by
    obtain ⟨ds, ed, e⟩ := Rs.bnd_eq e
    refine ⟨O, ρ, ds, r, ed, fun vs H1 s1 ra => ?_⟩
    unfold setIN at e
    split at e <;> first | (cases e; done) | skip
    rename_i ds
    split at e <;> first | (cases e; done) | skip
    rename_i ns hns
    split at e <;> first | (cases e; done) | skip
    rename_i h64
    cases e
    have hd := intsOf?_eq hns
    subst hd
    obtain ⟨x, rfl, r1⟩ := ra.inv1
    obtain ⟨z1, a, ys, rfl, h1, t1⟩ := r1.listV
    have ey : ys = ns.map V.int := t1.intsV
    subst ey
    refine ⟨a, ns, rfl, sqL_le h1, by unfold scanBound; omega, fun p' c hp hcl => ?_⟩
    show rSortedSet X.w [.ref p'] _ Q
    refine ⟨p', _, c, rfl, upd_same, by omega, fun ns' p'' hs hmem hlen hp'' => ?_⟩
    have en : ns' = setU ns := asc_uniq hs setU_asc fun k => by
      rw [hmem k, setU_mem]
      simp
    subst en
    have hne : p'' ≠ p' := fun z => by
      subst z
      rw [upd_same] at hp''
      exact nomatch hp''
    have hp1 : H1 p'' = none := by rwa [upd_ne hne] at hp''
    have s3 : Same H (upd (upd H1 p' (SetO X.w p' (fun j => decide (j ∈ ns)) c)) p'' (.lst ((setU ns).map V.int))) := (s1.trans (same_upd hp)).trans (same_upd hp'')
    exact qq p'' _ _ s3 (s1.free hp1) upd_same (by rw [List.length_map]; have := setU_len ns; rw [sizeLine_eq]; omega) RA.ints
end
end PL
namespace PL
open PySem PySem.Spec PyProof.Rows L2 PpSet
/-! ### bools -/
def cntB (bs : List Bool) : Nat := (if true ∈ bs then 1 else 0) + if false ∈ bs then 1 else 0
theorem cntB_le (bs : List Bool) : cntB bs ≤ 2 := by
  unfold cntB
  split <;> split <;> omega
theorem cntB_snoc (bs : List Bool) (b : Bool) : cntB (bs ++ [b]) = if decide (b ∈ bs) = true then cntB bs else cntB bs + 1 := by
  unfold cntB
  cases b <;> by_cases h1 : true ∈ bs <;> by_cases h2 : false ∈ bs <;> simp [List.mem_append, h1, h2]
theorem boolsFill (P : Program) (w : World) (S : Addr) (bs : List Bool) :
    Fill P w S bs.length (fun i v => ∃ b, bs[i]? = some b ∧ v = .bool b) (fun i h => SetB w h S (fun j => decide (j ∈ bs.take i)) (cntB (bs.take i))) where
  keep := fun i h h' r k => r.at k
  put := fun A E i v s Q lt ⟨b, hb, e⟩ r q => by
    subst e
    unfold setAdd
    refine wpAny_holding ?_
    refine wpAny_bind ((boolK P w).pyHash (boolK_is P w b) ?_)
    refine setB_add_hashed (s := { s with toks := s.toks + 1 }) r (by have := cntB_le (bs.take i); unfold scanBound; omega) fun h' sb r2 => ?_
    refine q _ h' _ sb ?_ (Nat.le_succ _)
    have e : bs.take (i + 1) = bs.take i ++ [b] := by rw [List.take_add_one, hb]; rfl
    rw [e, cntB_snoc]
    exact r2.congr fun j => by simp [List.mem_append]
/-- set(xs) of a list of bools -/
def rSetBL (w : World) (K : PySem.W.Frag) : List V → Hp → VK → Prop := fun xs H Q => ∃ (l : Addr) (bs : List Bool), xs = [V.ref l] ∧ SqL K H l (bs.map V.bl) ∧
  ∀ p, H p = none → Q (.ref p) (upd H p (SetBO w p (fun j => decide (j ∈ bs)) (cntB bs)))
theorem bools_at : ∀ {bs : List Bool} {its : List Value} {i : Nat} {v : Value}, Vals (bs.map V.bl) its → its[i]? = some v → ∃ b, bs[i]? = some b ∧ v = .bool b
  | [], _, i, v, r, h => by cases r; simp at h
  | b :: bs, _, 0, v, r, h => by
    cases r with
    | cons r1 r2 =>
      simp at h
      subst h
      exact ⟨b, rfl, r1⟩
  | b :: bs, _, i + 1, v, r, h => by
    cases r with
    | cons r1 r2 =>
      obtain ⟨c, h1, h2⟩ := bools_at (i := i) r2 (by simpa using h)
      exact ⟨c, by simpa using h1, h2⟩
section
variable {X : Cx}
theorem cr_setBL (hc : X.calm = true) : CallR X (.type "set") (rSetBL X.w X.K) := by
  intro pins s σ H xs us Q I r ⟨l, bs, e, hl, q⟩
  subst e
  rw [Vals.ref1 r]
  obtain ⟨its, rv, pl, hz⟩ := I.list hl
  have hlen : its.toArray.size = bs.length := by rw [List.size_toArray, ← rv.length, List.length_map]
  refine call_set_lst (n := bs.length) (I.ok.hd hc) pl.isList hlen (fun i v hv => bools_at rv (by simpa using hv)) (boolsFill X.prog X.w _ bs) (fun h e => ?_) fun h' tk hS k => ?_
  · exact ⟨_, #[], 0, _, e, ⟨rfl, rfl, rfl⟩, rfl, (fun e he => by simp at he), (by simp), (fun k => by simp), (by decide), (by rfl), rfl, List.Pairwise.nil, by
      show _ ∨ (!X.w.params.followText "set-order") = true
      cases X.w.params.followText "set-order"
      · exact .inr rfl
      · exact .inl rfl⟩
  · rw [List.take_length] at hS
    have hf := I.hok.fresh (Nat.le_refl s.heap.objs.size)
    exact ⟨.ref _, upd H s.heap.objs.size (SetBO X.w s.heap.objs.size (fun j => decide (j ∈ bs)) (cntB bs)), I.laid (t' := tk) k (Nat.le_refl _) (setBO_new hS), rfl, q _ hf⟩
def rLenSB (w : World) : List V → Hp → VK → Prop := fun xs H Q => ∃ a S n, xs = [V.ref a] ∧ H a = some (SetBO w a S n) ∧ Q (.int (n : Int)) H
theorem cr_lenSB : CallR X (.builtin "len") (rLenSB X.w) := by
  intro pins s σ H xs us Q I r ⟨a, S, n, e, ha, q⟩
  subst e
  rw [Vals.ref1 r]
  obtain ⟨o, es, ep, t, ho, hex, hd, _, _, _, hb, hf, hn, _⟩ := setBO_get I ha
  refine call_len_set ho hex hd hf (by unfold scanBound at hb; omega) ⟨.int n, H, I.tok _, ⟨_, by rw [hn]⟩, q⟩
end
def boolOf? : PyData → Option Bool
  | .bool b => some b
  | _ => none
def boolsOf? : List PyData → Option (List Bool)
  | [] => some []
  | d :: ds => match boolOf? d, boolsOf? ds with
    | some i, some is => some (i :: is)
    | _, _ => none
theorem boolsOf?_eq : ∀ {ds : List PyData} {ns : List Bool}, boolsOf? ds = some ns → ds = ns.map .bool
  | [], ns, h => by cases h; rfl
  | d :: ds, ns, h => by
    unfold boolsOf? at h
    split at h <;> first | (cases h; done) | skip
    rename_i i is h1 h2
    cases h
    unfold boolOf? at h1
    split at h1 <;> first | (cases h1; done) | skip
    cases h1
    rw [boolsOf?_eq h2]
    rfl
theorem RA.boolsV {K : PySem.W.Frag} {H : Hp} : ∀ {ns : List Bool} {xs : List V}, RA K H (ns.map .bool) xs → xs = ns.map V.bl
  | [], _, h => h.inv0
  | n :: ns, _, h => by
    obtain ⟨x, r, rfl, h1, h2⟩ := h.inv
    rw [R] at h1
    rw [h1, RA.boolsV h2]
    rfl
/-- len(set(l)) of a list of bools -/
def lenSetB : List PyData → Rs PyData
  | [.list ds] => match boolsOf? ds with
    | some bs => .ok (.int (cntB bs : Nat))
    | none => .no
  | _ => .no
section
variable {X : Cx} {F : FC}
theorem p_lenSetB {a : Expr} {g : Ev → Rs (List PyData)} {p p2 q pos : Pos} (hc : X.calm = true) (hg : Gl X "len") (hm : X.mg "len" = none) (hg2 : Gl X "set") (hm2 : X.mg "set" = none) (ha : AP' X F [a] g)
    (he : starEach [a] X.env = (false, eval a X.env) :: starEach [] X.env := by rfl) (he2 : starEach [.Call (.Name "set" p2) [a] [] q] X.env = (false, eval (.Call (.Name "set" p2) [a] [] q) X.env) :: starEach [] X.env := by rfl) :
    EP' X F (.Call (.Name "len" p) [.Call (.Name "set" p2) [a] [] q] [] pos) (apC lenSetB g) :=
  wkE (pe_callB cr_lenSB hg hm (by decide +kernel) (pa_cons (pe_callTy (cr_setBL hc) hg2 hm2 (by decide +kernel) ha (by decide) (by decide) he rfl) pa_nil he2) (by decide) (by decide) he2 rfl) fun σ H Q ⟨O, ρ, es, r, e, qq⟩ => by
    obtain ⟨ds, ed, e⟩ := Rs.bnd_eq e
    refine ⟨O, ρ, ds, r, ed, fun vs H1 s1 ra => ?_⟩
    unfold lenSetB at e
    split at e <;> first | (cases e; done) | skip
    rename_i ds
    split at e <;> first | (cases e; done) | skip
    rename_i bs hbs
    cases e
    have hd := boolsOf?_eq hbs
    subst hd
    obtain ⟨x, rfl, r1⟩ := ra.inv1
    obtain ⟨z1, a, ys, rfl, h1, t1⟩ := r1.listV
    have ey : ys = bs.map V.bl := t1.boolsV
    subst ey
    refine ⟨a, bs, rfl, sqL_le h1, fun p' hp => ?_⟩
    exact ⟨p', _, _, rfl, upd_same, qq _ _ (s1.trans (same_upd hp)) .int⟩
end
end PL


/-! PL22: a tuple times an int -/
namespace PL
open PySem PySem.Spec PyProof.Rows L2
/-- t * 1 of a tuple that is not empty: the tuple itself -/
theorem tup_mul1 (l : Addr) (its : Array Value) (n : Nat) (dd : Option Addr) (sl : Array (Option Value)) (u : Tok) :
    Meets (Builtin.«tuple.__mul__» ⟨[.ref l, .int 1 u], []⟩) (fun _ R s => s.heap.get? l = some { cls := .type "tuple", dict := dd, data := .seq its n, slots := sl } ∧ R (.ok (.ret (Value.ref l))) s) :=
  .of_wp fun prog w A R s h => by
    obtain ⟨hp, g, d, tk, os⟩ := s
    obtain ⟨ol, h⟩ := h
    have f1 := AutoSeq1.idx_int
    have c0 : (decide ((1 : Int) < -(2 ^ 63)) || decide ((1 : Int) ≥ 2 ^ 63)) = false := by decide
    have c1 : (its.isEmpty || (1 : Int) == 1) = true := by rw [show ((1 : Int) == 1) = true from rfl, Bool.or_true]
    wp_walk using wpAny_loadPart' ol
    repeat (first
      | (refine wpAny_ite_false (decide_eq_false (by rw [c0]; exact Bool.false_ne_true)) ?_; wp_walk using wpAny_loadPart' ol)
      | (refine wpAny_ite_true (decide_eq_true (by rw [c1])) ?_; wp_walk using wpAny_loadPart' ol))
    exact ⟨_, rfl, h⟩
/-- t * 0 -/
theorem tup_mul0 (l : Addr) (its : Array Value) (n : Nat) (dd : Option Addr) (sl : Array (Option Value)) (u : Tok) (ne : its.isEmpty = false) :
    Meets (Builtin.«tuple.__mul__» ⟨[.ref l, .int 0 u], []⟩) (fun _ R s => s.heap.get? l = some { cls := .type "tuple", dict := dd, data := .seq its n, slots := sl } ∧
      R (.ok (.ret (Value.ref s.heap.objs.size))) { s with heap := s.heap.push { cls := Value.type "tuple", data := Data.seq #[] }, toks := s.toks }) :=
  .of_wp fun prog w A R s h => by
    obtain ⟨hp, g, d, tk, os⟩ := s
    obtain ⟨ol, h⟩ := h
    have f1 := AutoSeq1.idx_int
    have c0 : (decide ((0 : Int) < -(2 ^ 63)) || decide ((0 : Int) ≥ 2 ^ 63)) = false := by decide
    have c1 : (its.isEmpty || (0 : Int) == 1) = false := by rw [ne]; rfl
    have c2 : (decide ((0 : Int) ≤ 0) || its.isEmpty) = true := by rw [ne]; rfl
    wp_walk using wpAny_loadPart' ol
    repeat (first
      | (refine wpAny_ite_false (decide_eq_false (by rw [c0]; exact Bool.false_ne_true)) ?_; wp_walk using wpAny_loadPart' ol)
      | (refine wpAny_ite_false (decide_eq_false (by rw [c1]; exact Bool.false_ne_true)) ?_; wp_walk using wpAny_loadPart' ol)
      | (refine wpAny_ite_true (decide_eq_true (by rw [c2])) ?_; wp_walk using wpAny_loadPart' ol))
    exact ⟨_, rfl, h⟩
def rMulT (K : PySem.W.Frag) : R2 := fun x y H Q => ∃ l k xs, x = .ref l ∧ y = .int k ∧ SqT K H l xs ∧ xs ≠ [] ∧ 0 ≤ k ∧ k ≤ 1000 ∧ xs.length ≤ 1000 ∧ (k = 1 → Q (.ref l) H) ∧ (k ≠ 1 → NewT H (List.replicate k.toNat xs).flatten Q)
section
variable {X : Cx}
theorem op_mulT : OpR X (binaryOp .Mult) (rMulT X.K) := by
  intro pins s σ H x y v u Q I rx ry ⟨l, k, xs, e1, e2, hT, ne, k0, k1, zz, q1, q2⟩
  subst e1; subst e2
  cases rx
  obtain ⟨t, rfl⟩ := ry
  obtain ⟨its, r, ⟨⟨cls, dd, data, sl⟩, ho, hc, n, hd⟩, zs⟩ := I.tuple hT
  simp only at hc hd
  subst hc hd
  have le : its.length = xs.length := r.length.symm
  have ni : its ≠ [] := fun e => ne (List.eq_nil_of_length_eq_zero (by rw [← le, e]; rfl))
  have hi : its.toArray.isEmpty = false := by
    cases its with
    | nil => exact absurd rfl ni
    | cons a b => rfl
  refine wpAny_binaryOp_repeat_ref (T := "tuple") (U := "int") (by decide) ⟨_, ho, rfl⟩ (fun s' => typeIs_int s' k t) noFill_tuple_mul F.fills_int_mul F.slot_int_rmul repeat_tuple F.slot_int_index.lookup
    (call_meets F.slot_int_rmul (typeIs_int s k t) F.entry_int_rmul (F.args_int_rmul_2 _ _) (int_rmul_tuple k t l its.toArray n dd sl) ⟨ho, rfl, ⟨_, ho, rfl⟩, ?_⟩)
  by_cases h1 : k = 1
  · subst h1
    exact call_meets F.slot_tuple_mul ⟨_, ho, rfl⟩ F.entry_tuple_mul (F.args_tuple_mul_2 _ _) (tup_mul1 l its.toArray n dd sl t) ⟨ho, ⟨.ref l, H, I, rfl, q1 rfl⟩⟩
  by_cases h0 : k = 0
  · subst h0
    refine call_meets F.slot_tuple_mul ⟨_, ho, rfl⟩ F.entry_tuple_mul (F.args_tuple_mul_2 _ _) (tup_mul0 l its.toArray n dd sl t hi) ⟨ho, ?_⟩
    exact new_ok (xs := []) (its := []) I (Nat.zero_le _) .nil (q2 h1)
  · have sz : its.toArray.size = xs.length := by rw [List.size_toArray, le]
    have hm : ((its.toArray.size : Nat) : Int) * k ≤ 1000000 := by
      rw [sz]
      have a1 : ((xs.length : Nat) : Int) * k ≤ 1000 * k := Int.mul_le_mul_of_nonneg_right (by omega) (by omega)
      omega
    have fl : ∀ ys : List Value, ys.length = xs.length → (List.replicate k.toNat ys).flatten.length ≤ sizeLine := fun ys e => by
      rw [PyProof.Rows.lm_len_rep_flat, e, sizeLine_eq]
      have a1 : k.toNat * xs.length ≤ 1000 * 1000 := Nat.mul_le_mul (by omega) zz
      omega
    refine call_meets F.slot_tuple_mul ⟨_, ho, rfl⟩ F.entry_tuple_mul (F.args_tuple_mul_2 _ _) (tuple_mulW l its.toArray n dd sl k t ?_ ?_ ?_ (by omega) ?_ (by rw [size_rep, List.size_toArray]; exact fl its le)) ⟨ho, ?_⟩
    · rw [decide_eq_false (by omega), decide_eq_false (by omega)]
      rfl
    · rw [hi, Bool.false_or]
      exact beq_eq_false_iff_ne.mpr h1
    · rw [hi, Bool.or_false]
      exact decide_eq_false (by omega)
    · unfold Builtin.Tuple.tupleTooMany
      rw [sizeLine_eq]
      exact decide_eq_false (by omega)
    · rw [size_rep]
      refine new_ok I ?_ (r.rep k.toNat) (q2 h1)
      rw [PyProof.Rows.lm_len_rep_flat, ← le, ← PyProof.Rows.lm_len_rep_flat]
      exact fl its le
/-- two ints, or a tuple times an int -/
def mulT : PyData → PyData → Rs PyData
  | .tuple ds, .int k => if ds ≠ [] ∧ 0 ≤ k ∧ k ≤ 1000 ∧ ds.length ≤ 1000 then .ok (.tuple (List.replicate k.toNat ds).flatten) else .no
  | a, b => mulN a b
theorem o_mulT : OpR X (binaryOp .Mult) (rP2 X.K mulT) := by
  intro pins s σ H x y v u Q I rx ry ⟨N, d1, d2, d, n, r1, r2, e, q⟩
  unfold mulT at e
  split at e
  · split at e <;> first | (cases e; done) | skip
    rename_i ds k hc
    cases e
    obtain ⟨c1, c2, c3, c4⟩ := hc
    obtain ⟨z1, a, xs, e1, h1, t1, k1⟩ := r1.tupN
    refine op_mulT pins s σ H x y v u Q I rx ry ⟨a, k, xs, e1, r2.intV, sqT_le h1, fun z => ?_, c2, c3, by rw [t1.len]; exact c4, fun z => ?_, fun _ p o hp ho => q _ _ (same_upd hp) (newT ho n hp ?_ (t1.rep _))⟩
    · rw [z] at t1
      exact c1 (List.eq_nil_of_length_eq_zero t1.len.symm)
    · subst z
      exact q _ H (Same.refl H) (by simpa using R.tup z1 h1 t1 k1)
    · rw [PyProof.Rows.lm_len_rep_flat, sizeLine_eq]
      have a1 : k.toNat * ds.length ≤ 1000 * 1000 := Nat.mul_le_mul (by omega) c4
      omega
  · exact o_mulN pins s σ H x y v u Q I rx ry ⟨N, d1, d2, d, n, r1, r2, e, q⟩
end
end PL


/-! PLM: reckoning with the functions of plain data -/
namespace PL
open PySem
theorem atI_nat {α : Type} (xs : List α) (k : Nat) : L2.atI xs (k : Int) = xs[k]? := by
  unfold L2.atI L2.ixN
  by_cases h : k < xs.length
  · simp [h]
  · simp [h, List.getElem?_eq_none (Nat.le_of_not_lt h)]
theorem atI_of {α : Type} {xs : List α} {i : Int} (h0 : 0 ≤ i) : L2.atI xs i = xs[i.toNat]? := by
  obtain ⟨k, rfl⟩ := Int.eq_ofNat_of_zero_le h0
  exact atI_nat xs k
theorem atI_zero {α : Type} (xs : List α) : L2.atI xs 0 = xs[0]? := atI_nat xs 0
theorem tgt_one (i : Nat) (d : PyData) (ρ : Ev) : tgt (.one i) d ρ = .ok (ρ.set i (some (.pub d))) := rfl
/-- a walk that always goes on -/
theorem forL_inv {t : Tg} {f : Ev → Rs Out} (I : Nat → Ev → Prop) : ∀ (ds : List PyData) (k : Nat) (ρ : Ev), (∀ i d ρ, ds[i]? = some d → I (k + i) ρ → ∃ ρ1 ρ2, tgt t d ρ = .ok ρ1 ∧ (f ρ1 = .ok (.nx ρ2) ∨ f ρ1 = .ok (.ct ρ2)) ∧ I (k + i + 1) ρ2) → I k ρ → ∃ ρ', forL t f ds ρ = .ok (.nx ρ') ∧ I (k + ds.length) ρ'
  | [], k, ρ, _, h => ⟨ρ, rfl, h⟩
  | d :: r, k, ρ, step, h => by
    obtain ⟨ρ1, ρ2, e1, e2, h2⟩ := step 0 d ρ rfl h
    obtain ⟨ρ', e3, h3⟩ := forL_inv I r (k + 1) ρ2 (fun i d' ρ e h => by
      have := step (i + 1) d' ρ (by simpa using e) (by rw [show k + (i + 1) = k + 1 + i by omega]; exact h)
      rw [show k + (i + 1) + 1 = k + 1 + i + 1 by omega] at this
      exact this) h2
    refine ⟨ρ', ?_, by rw [List.length_cons, show k + (r.length + 1) = k + 1 + r.length by omega]; exact h3⟩
    show (tgt t d ρ).bnd _ = _
    rw [e1]
    rcases e2 with e2 | e2
    · show (f ρ1).bnd _ = _; rw [e2]; exact e3
    · show (f ρ1).bnd _ = _; rw [e2]; exact e3
theorem forL_one {j : Nat} {f : Ev → Rs Out} (I : Nat → Ev → Prop) (ds : List PyData) (ρ : Ev) (h : ∀ i d ρ, ds[i]? = some d → I i ρ → ∃ ρ2, f (ρ.set j (some (.pub d))) = .ok (.nx ρ2) ∧ I (i + 1) ρ2) (h0 : I 0 ρ) : ∃ ρ', forL (.one j) f ds ρ = .ok (.nx ρ') ∧ I ds.length ρ' := by
  have := forL_inv (t := .one j) (f := f) I ds 0 ρ (fun i d ρ e h1 => by
    rw [Nat.zero_add] at h1 ⊢
    obtain ⟨ρ2, e1, e2⟩ := h i d ρ e h1
    exact ⟨_, ρ2, rfl, .inl e1, e2⟩) h0
  rw [Nat.zero_add] at this
  exact this
theorem forL_range {j n : Nat} {f : Ev → Rs Out} (I : Nat → Ev → Prop) (ρ : Ev) (h : ∀ i ρ, i < n → I i ρ → ∃ ρ2, f (ρ.set j (some (.pub (.int i)))) = .ok (.nx ρ2) ∧ I (i + 1) ρ2) (h0 : I 0 ρ) : ∃ ρ', forL (.one j) f (rangeL 0 n) ρ = .ok (.nx ρ') ∧ I n ρ' := by
  have := forL_one (j := j) (f := f) I (rangeL 0 n) ρ (fun i d ρ e h1 => by
    have hi : i < n := by
      have := (List.getElem?_eq_some_iff.mp e).1
      simpa [rangeL] using this
    have ed : d = .int i := by simpa [rangeL, hi] using e.symm
    subst ed
    exact h i ρ hi h1) h0
  rw [show (rangeL 0 n).length = n by simp [rangeL]] at this
  exact this
/-- a walk that goes on, or gives a value -/
theorem forL_ret {t : Tg} {f : Ev → Rs Out} (I : Nat → Ev → Prop) (R : PyData → Prop) : ∀ (ds : List PyData) (k : Nat) (ρ : Ev), (∀ i d ρ, ds[i]? = some d → I (k + i) ρ → ∃ ρ1, tgt t d ρ = .ok ρ1 ∧ ((∃ ρ2, (f ρ1 = .ok (.nx ρ2) ∨ f ρ1 = .ok (.ct ρ2)) ∧ I (k + i + 1) ρ2) ∨ ∃ v, f ρ1 = .ok (.rt v) ∧ R v)) → I k ρ → (∃ ρ', forL t f ds ρ = .ok (.nx ρ') ∧ I (k + ds.length) ρ') ∨ ∃ v, forL t f ds ρ = .ok (.rt v) ∧ R v
  | [], k, ρ, _, h => .inl ⟨ρ, rfl, h⟩
  | d :: r, k, ρ, step, h => by
    obtain ⟨ρ1, e1, h2⟩ := step 0 d ρ rfl h
    have e0 : forL t f (d :: r) ρ = (f ρ1).bnd fun o => match o with
      | .nx ρ2 => forL t f r ρ2
      | .ct ρ2 => forL t f r ρ2
      | .bk ρ2 => .ok (.nx ρ2)
      | .rt d => .ok (.rt d)
      | .xc ρ c fs => .ok (.xc ρ c fs)
      | .rn ds => .ok (.rn ds)
      | .ro ρ d => .ok (.ro ρ d) := by
      show (tgt t d ρ).bnd _ = _
      rw [e1]; rfl
    rw [e0]
    rcases h2 with ⟨ρ2, e2, h2⟩ | ⟨v, e2, hv⟩
    · have go := forL_ret I R r (k + 1) ρ2 (fun i d' ρ e h => by
        have := step (i + 1) d' ρ (by simpa using e) (by rw [show k + (i + 1) = k + 1 + i by omega]; exact h)
        rw [show k + (i + 1) + 1 = k + 1 + i + 1 by omega] at this
        exact this) h2
      rw [List.length_cons, show k + (r.length + 1) = k + 1 + r.length by omega]
      rcases e2 with e2 | e2 <;> rw [e2] <;> exact go
    · exact .inr ⟨v, by rw [e2]; rfl, hv⟩
/-- a comprehension over typed things -/
theorem compL_map {α : Type} {t : Tg} {elt : Ev → Rs PyData} {ρ : Ev} {enc out : α → PyData} {to : α → Ev} : ∀ (l : List α), (∀ a ∈ l, tgt t (enc a) ρ = .ok (to a) ∧ elt (to a) = .ok (out a)) → compL t noIf elt ρ (l.map enc) = .ok (l.map out)
  | [], _ => rfl
  | a :: r, h => by
    obtain ⟨e1, e2⟩ := h a List.mem_cons_self
    have ih := compL_map r fun b hb => h b (List.mem_cons_of_mem _ hb)
    show (tgt t (enc a) ρ).bnd _ = _
    rw [e1]
    show (elt (to a)).bnd _ = _
    rw [e2]
    show (compL t noIf elt ρ (r.map enc)).bnd _ = _
    rw [ih]; rfl
theorem compL_filter {α : Type} {t : Tg} {cond : Ev → Rs Bool} {elt : Ev → Rs PyData} {ρ : Ev} {enc out : α → PyData} {to : α → Ev} {p : α → Bool} : ∀ (l : List α), (∀ a ∈ l, tgt t (enc a) ρ = .ok (to a) ∧ cond (to a) = .ok (p a) ∧ (p a = true → elt (to a) = .ok (out a))) → compL t cond elt ρ (l.map enc) = .ok ((l.filter p).map out)
  | [], _ => rfl
  | a :: r, h => by
    obtain ⟨e1, e2, e3⟩ := h a List.mem_cons_self
    have ih := compL_filter r fun b hb => h b (List.mem_cons_of_mem _ hb)
    show (tgt t (enc a) ρ).bnd _ = _
    rw [e1]
    show (cond (to a)).bnd _ = _
    rw [e2]
    cases hp : p a with
    | true =>
      show (elt (to a)).bnd _ = _
      rw [e3 hp]
      show (compL t cond elt ρ (r.map enc)).bnd _ = _
      rw [ih, List.filter_cons, if_pos hp]; rfl
    | false =>
      show compL t cond elt ρ (r.map enc) = _
      rw [ih, List.filter_cons, if_neg (by simp [hp])]
theorem compL_ex {t : Tg} {cond : Ev → Rs Bool} {elt : Ev → Rs PyData} {ρ : Ev} (P : PyData → Prop) : ∀ ds : List PyData, (∀ d ∈ ds, ∃ ρ1 b, tgt t d ρ = .ok ρ1 ∧ cond ρ1 = .ok b ∧ (b = true → ∃ y, elt ρ1 = .ok y ∧ P y)) → ∃ ys, compL t cond elt ρ ds = .ok ys ∧ (∀ y ∈ ys, P y) ∧ ys.length ≤ ds.length
  | [], _ => ⟨[], rfl, by simp, Nat.le_refl _⟩
  | d :: r, h => by
    obtain ⟨ρ1, b, e1, e2, e3⟩ := h d List.mem_cons_self
    obtain ⟨ys, i1, i2, i3⟩ := compL_ex P r fun x hx => h x (List.mem_cons_of_mem _ hx)
    have e0 : compL t cond elt ρ (d :: r) = if b = true then (elt ρ1).bnd fun y => (compL t cond elt ρ r).bnd fun ys => .ok (y :: ys) else compL t cond elt ρ r := by
      show (tgt t d ρ).bnd _ = _
      rw [e1]
      show (cond ρ1).bnd _ = _
      rw [e2]; rfl
    rw [e0]
    cases b with
    | true =>
      obtain ⟨y, e4, e5⟩ := e3 rfl
      refine ⟨y :: ys, by rw [if_pos rfl, e4, i1]; rfl, fun z hz => ?_, by simp only [List.length_cons]; omega⟩
      rcases List.mem_cons.mp hz with rfl | hz
      · exact e5
      · exact i2 z hz
    | false => exact ⟨ys, by rw [if_neg (by simp), i1], i2, by simp only [List.length_cons]; omega⟩
theorem whL_ex {g : Ev → Rs Bool} {f : Ev → Rs Out} (I : Nat → Ev → Prop) (Q : Ev → Prop) (h : ∀ m ρ, I m ρ → (g ρ = .ok false ∧ Q ρ) ∨ (g ρ = .ok true ∧ ∃ ρ2 m', f ρ = .ok (.nx ρ2) ∧ m' < m ∧ I m' ρ2)) : ∀ n m ρ, I m ρ → m < n → ∃ ρ', whL g f n ρ = .ok (.nx ρ') ∧ Q ρ'
  | 0, m, ρ, _, hm => absurd hm (Nat.not_lt_zero _)
  | n + 1, m, ρ, hI, hm => by
    rcases h m ρ hI with ⟨e, q⟩ | ⟨e, ρ2, m', e2, lt, hI2⟩
    · exact ⟨ρ, by show (g ρ).bnd _ = _; rw [e]; rfl, q⟩
    · obtain ⟨ρ', e3, q⟩ := whL_ex I Q h n m' ρ2 hI2 (by omega)
      exact ⟨ρ', by show (g ρ).bnd _ = _; rw [e]; show (f ρ).bnd _ = _; rw [e2]; exact e3, q⟩
theorem sq_nx {f g : Ev → Rs Out} {ρ ρ' : Ev} (h : f ρ = .ok (.nx ρ')) : sq f g ρ = g ρ' := by show (f ρ).bnd _ = _; rw [h]; rfl
theorem sq_rt {f g : Ev → Rs Out} {ρ : Ev} {d : PyData} (h : f ρ = .ok (.rt d)) : sq f g ρ = .ok (.rt d) := by show (f ρ).bnd _ = _; rw [h]; rfl
theorem sSet_of {i : Nat} {f : Ev → Rs PyData} {ρ : Ev} {d : PyData} (h : f ρ = .ok d) : sSet i f ρ = .ok (.nx (ρ.set i (some (.pub d)))) := by show (f ρ).bnd _ = _; rw [h]; rfl
theorem sOwn_of {i : Nat} {f : Ev → Rs (List PyData)} {ρ : Ev} {d : List PyData} (h : f ρ = .ok d) : sOwn i f ρ = .ok (.nx (ρ.set i (some (.own d)))) := by show (f ρ).bnd _ = _; rw [h]; rfl
theorem sFor_of {it : Ev → Rs (List PyData)} {t : Tg} {f : Ev → Rs Out} {ρ : Ev} {ds : List PyData} {o : Rs Out} (h : it ρ = .ok ds) (h' : forL t f ds ρ = o) : sFor it t f ρ = o := by show (it ρ).bnd _ = _; rw [h]; exact h'
theorem sRet_of {f : Ev → Rs PyData} {ρ : Ev} {d : PyData} (h : f ρ = .ok d) : sRet f ρ = .ok (.rt d) := by show (f ρ).bnd _ = _; rw [h]; rfl
theorem argX_of {G : List PyData → Rs PyData} {g : Ev → Rs (List PyData)} {ρ : Ev} {d : PyData} (h : apC G g ρ = .ok d) : argX G g ρ = .ok d := by
  obtain ⟨a, ea, e⟩ := Rs.bnd_eq h
  unfold argX; rw [ea]; exact e
theorem argX_ex {G : List PyData → Rs PyData} {g : Ev → Rs (List PyData)} {ρ : Ev} {ds : List PyData} {c : Nat} {fs : List PyData} (h : g ρ = .ok ds) (e : G ds = .ex c fs) : argX G g ρ = .ex c fs := by
  unfold argX; rw [h]; exact e
theorem sDoX_of {G : List PyData → Rs PyData} {g : Ev → Rs (List PyData)} {ρ : Ev} {d : PyData} (h : apC G g ρ = .ok d) : sDoX (argX G g) ρ = .ok (.nx ρ) := by
  unfold sDoX; rw [argX_of h]; rfl
theorem sDoX_ex {G : List PyData → Rs PyData} {g : Ev → Rs (List PyData)} {ρ : Ev} {ds : List PyData} {c : Nat} {fs : List PyData} (h : g ρ = .ok ds) (e : G ds = .ex c fs) : sDoX (argX G g) ρ = .ok (.xc ρ c fs) := by
  unfold sDoX; rw [argX_ex h e]; rfl
theorem sSetX_of {i : Nat} {G : List PyData → Rs PyData} {g : Ev → Rs (List PyData)} {ρ : Ev} {d : PyData} (h : apC G g ρ = .ok d) : sSetX i (argX G g) ρ = .ok (.nx (ρ.set i (some (.pub d)))) := by
  unfold sSetX; rw [argX_of h]; rfl
theorem sRetX_of {G : List PyData → Rs PyData} {g : Ev → Rs (List PyData)} {ρ : Ev} {d : PyData} (h : apC G g ρ = .ok d) : sRetX (argX G g) ρ = .ok (.rt d) := by
  unfold sRetX; rw [argX_of h]; rfl
theorem sSetX_ex {i : Nat} {G : List PyData → Rs PyData} {g : Ev → Rs (List PyData)} {ρ : Ev} {ds : List PyData} {c : Nat} {fs : List PyData} (h : g ρ = .ok ds) (e : G ds = .ex c fs) : sSetX i (argX G g) ρ = .ok (.xc ρ c fs) := by
  unfold sSetX; rw [argX_ex h e]; rfl
theorem sRetX_ex {G : List PyData → Rs PyData} {g : Ev → Rs (List PyData)} {ρ : Ev} {ds : List PyData} {c : Nat} {fs : List PyData} (h : g ρ = .ok ds) (e : G ds = .ex c fs) : sRetX (argX G g) ρ = .ok (.xc ρ c fs) := by
  unfold sRetX; rw [argX_ex h e]; rfl
theorem sq_xc {f g : Ev → Rs Out} {ρ ρ' : Ev} {c : Nat} {fs : List PyData} (h : f ρ = .ok (.xc ρ' c fs)) : sq f g ρ = .ok (.xc ρ' c fs) := by show (f ρ).bnd _ = _; rw [h]; rfl
theorem run_xc {n : Nat} {b : Ev → Rs Out} {ds : List PyData} {ρ : Ev} {c : Nat} {fs : List PyData} (h : b (startE n ds) = .ok (.xc ρ c fs)) : run n b ds = .ex c fs := by unfold run; rw [h]
theorem run_nx {n : Nat} {b : Ev → Rs Out} {ds : List PyData} {ρ : Ev} (h : b (startE n ds) = .ok (.nx ρ)) : run n b ds = .ok .none := by unfold run; rw [h]
theorem run_rn {n : Nat} {b : Ev → Rs Out} {ds es : List PyData} (h : b (startE n ds) = .ok (.rn es)) : run n b ds = .ok (.list es) ∧ runN n b ds = .ok es := by unfold run runN; rw [h]; exact ⟨rfl, rfl⟩
theorem run_rt {n : Nat} {b : Ev → Rs Out} {ds : List PyData} {d : PyData} (h : b (startE n ds) = .ok (.rt d)) : run n b ds = .ok d := by unfold run; rw [h]
theorem lst_of {f : Ev → Rs (List PyData)} {ρ : Ev} {ds : List PyData} (h : f ρ = .ok ds) : lst f ρ = .ok (.list ds) := by show (f ρ).bnd _ = _; rw [h]; rfl
theorem comp_of {it : Ev → Rs (List PyData)} {t : Tg} {own : List Nat} {cond : Ev → Rs Bool} {elt : Ev → Rs PyData} {ρ : Ev} {ds : List PyData} {r : Rs (List PyData)} (h : it ρ = .ok ds) (h' : compL t cond elt (wipeE ρ own) ds = r) : comp it t own cond elt ρ = r := by show (it ρ).bnd _ = _; rw [h]; exact h'
theorem addD_i (i j : Int) : addD (.int i) (.int j) = .ok (.int (i + j)) := rfl
theorem addD_t {xs ys : List PyData} (h : xs.length + ys.length ≤ sizeLine) : addD (.tuple xs) (.tuple ys) = .ok (.tuple (xs ++ ys)) := if_pos h
theorem addD_l {xs ys : List PyData} (h : xs.length + ys.length ≤ sizeLine) : addD (.list xs) (.list ys) = .ok (.list (xs ++ ys)) := if_pos h
theorem subD_i (i j : Int) : subD (.int i) (.int j) = .ok (.int (i - j)) := rfl
theorem modD_i {i j : Int} (h : 0 < j) : modD (.int i) (.int j) = .ok (.int (i % j)) := if_pos h
theorem divD_i {i j : Int} (h : 0 < j) (h' : j < 1073741824) : divD (.int i) (.int j) = .ok (.int (i / j)) := if_pos ⟨h, h'⟩
theorem mulN_i {i j : Int} (h : mulOk i j = true) : mulN (.int i) (.int j) = .ok (.int (i * j)) := if_pos h
theorem mulOk_l {a b : Int} (h : -18446744073709551616 < a) (h' : a < 18446744073709551616) : mulOk a b = true := by unfold mulOk; exact decide_eq_true (.inl ⟨by simpa using h, by simpa using h'⟩)
theorem mulOk_r {a b : Int} (h : -18446744073709551616 < b) (h' : b < 18446744073709551616) : mulOk a b = true := by unfold mulOk; exact decide_eq_true (.inr ⟨by simpa using h, by simpa using h'⟩)
theorem powD_i {i j : Int} (h : 0 ≤ j) (h1 : j ≤ 1000000) (h2 : i.natAbs < 18446744073709551616) : powD (.int i) (.int j) = .ok (.int (i ^ j.toNat)) := if_pos ⟨h, h1, by simpa using h2⟩
theorem ltD_i (i j : Int) : ltD (.int i) (.int j) = .ok (.bool (decide (i < j))) := rfl
theorem leD_i (i j : Int) : leD (.int i) (.int j) = .ok (.bool (decide (i ≤ j))) := rfl
theorem gtD_i (i j : Int) : gtD (.int i) (.int j) = .ok (.bool (decide (j < i))) := rfl
theorem geD_i (i j : Int) : geD (.int i) (.int j) = .ok (.bool (decide (j ≤ i))) := rfl
theorem ixD_l {ds : List PyData} {i : Int} {d : PyData} (h : L2.atI ds i = some d) : ixD (.list ds) (.int i) = .ok d := by show (match L2.atI ds i with | some d => Rs.ok d | none => Rs.no) = _; rw [h]
theorem ixD_t {ds : List PyData} {i : Int} {d : PyData} (h : L2.atI ds i = some d) : ixD (.tuple ds) (.int i) = .ok d := by show (match L2.atI ds i with | some d => Rs.ok d | none => Rs.no) = _; rw [h]
theorem lenD_l (ds : List PyData) : lenD [.list ds] = .ok (.int ds.length) := rfl
theorem lenD_t (ds : List PyData) : lenD [.tuple ds] = .ok (.int ds.length) := rfl
theorem intD_i (i : Int) : intD [.int i] = .ok (.int i) := rfl
theorem maxD_i (i j : Int) : maxD [.int i, .int j] = .ok (.int (if j > i then j else i)) := rfl
theorem minD_i (i j : Int) : minD [.int i, .int j] = .ok (.int (if j < i then j else i)) := rfl
theorem isB_b (b : Bool) : isB (.bool b) = .ok b := rfl
theorem truD_b (b : Bool) : truD (.bool b) = .ok b := rfl
theorem asI_i (i : Int) : asI (.int i) = .ok i := rfl
theorem seqOf_l (ds : List PyData) : seqOf (.list ds) = .ok ds := rfl
theorem seqOf_t (ds : List PyData) : seqOf (.tuple ds) = .ok ds := rfl
theorem rng1_i {j : Int} (h : j ≤ 16777216) (h' : -4611686018427387904 ≤ j) : rng1 [.int j] = .ok (rangeL 0 j.toNat) := if_pos ⟨by rw [rgMax_eq]; exact h, by simpa using h'⟩
theorem rng2_i {i j : Int} (h1 : -2305843009213693952 ≤ i) (h2 : i < 2305843009213693952) (h3 : -2305843009213693952 ≤ j) (h4 : j < 2305843009213693952) (h5 : j - i ≤ 16777216) : rng2 [.int i, .int j] = .ok (rangeL i (j - i).toNat) := if_pos ⟨by simpa using h1, by simpa using h2, by simpa using h3, by simpa using h4, by rw [rgMax_eq]; exact h5⟩
end PL


namespace M
open PySem PL

def c_KINDS : PyData := (.tuple [(.str "allow"), (.str "bar")])
/-! ascends: 0=things 1=at -/
def ascends_e1 : Ev → Rs PyData := (ap2 ltD (ap2 ixD (vr 0) (ap2 subD (vr 1) (cn (.int (1))))) (ap2 ixD (vr 0) (vr 1)))
def b_ascends : Ev → Rs Out := (sq (sRet (apC allD (aC (lst (comp (apN rng2 (aC (cn (.int (1))) (aC (apC lenD (aC (vr 0) aN)) aN))) (.one 1) [1] noIf ascends_e1)) aN))) sNil)
def G_ascends : List PyData → Rs PyData := run 2 b_ascends
/-! is_integer: 0=thing 1=least 2=most -/
def b_is_integer : Ev → Rs Out := (sq (sRet (andV (ap1 (isiD "int") (vr 0)) (andV (notV (ap1 (isiD "bool") (vr 0))) (chain leD leD (vr 1) (vr 0) (vr 2))))) sNil)
def G_is_integer : List PyData → Rs PyData := run 3 b_is_integer
/-! is_number: 0=thing 1=many -/
def b_is_number : Ev → Rs Out := (sq (sRet (apC G_is_integer (aC (vr 0) (aC (cn (.int (0))) (aC (ap2 subD (vr 1) (cn (.int (1)))) aN))))) sNil)
def G_is_number : List PyData → Rs PyData := run 2 b_is_number
/-! is_row: 0=thing 1=length -/
def b_is_row : Ev → Rs Out := (sq (sRet (andV (ap1 (isiD "tuple") (vr 0)) (ap2 eqD (apC lenD (aC (vr 0) aN)) (vr 1)))) sNil)
def G_is_row : List PyData → Rs PyData := run 2 b_is_row
/-! is_word: 0=thing 1=words -/
def b_is_word : Ev → Rs Out := (sq (sRet (andV (ap1 (isiD "str") (vr 0)) (ap2 inD (vr 0) (vr 1)))) sNil)
def G_is_word : List PyData → Rs PyData := run 2 b_is_word
/-! is_who: 0=thing 1=people 2=kind 3=number -/
def b_is_who : Ev → Rs Out := (sq (sIf (tNot' (tru (apC G_is_row (aC (vr 0) (aC (cn (.int (2))) aN))))) (sq (sRet (cn (.bool false))) sNil) sNil) (sq (sAsg (.many [2, 3]) (vr 0)) (sq (sIf (tru (apC G_is_word (aC (vr 2) (aC (tupE (aC (cn (.str "p")) aN)) aN)))) (sq (sRet (apC G_is_number (aC (vr 3) (aC (vr 1) aN)))) sNil) sNil) (sq (sRet (andV (apC G_is_word (aC (vr 2) (aC (tupE (aC (cn (.str "g")) aN)) aN))) (apC G_is_number (aC (vr 3) (aC (cn (.int (3))) aN))))) sNil))))
def G_is_who : List PyData → Rs PyData := run 4 b_is_who
/-! is_entry: 0=thing 1=people 2=folders 3=folder 4=who 5=kind -/
def b_is_entry : Ev → Rs Out := (sq (sIf (tNot' (tru (apC G_is_row (aC (vr 0) (aC (cn (.int (3))) aN))))) (sq (sRet (cn (.bool false))) sNil) sNil) (sq (sAsg (.many [3, 4, 5]) (vr 0)) (sq (sRet (andV (apC G_is_number (aC (vr 3) (aC (vr 2) aN))) (andV (apC G_is_who (aC (vr 4) (aC (vr 1) aN))) (apC G_is_word (aC (vr 5) (aC (cn c_KINDS) aN)))))) sNil)))
def G_is_entry : List PyData → Rs PyData := run 6 b_is_entry
/-! is_entries: 0=thing 1=people 2=folders 3=entry 4=folder 5=who 6=kind -/
def is_entries_e1 : Ev → Rs PyData := (tupE (aC (vr 4) (aC (vr 5) aN)))
def is_entries_e2 : Ev → Rs PyData := (apC G_is_entry (aC (vr 3) (aC (vr 1) (aC (vr 2) aN))))
def b_is_entries : Ev → Rs Out := (sq (sIf (tOr' (tNot' (tru (ap1 (isiD "tuple") (vr 0)))) (tB' (ap2 gtD (apC lenD (aC (vr 0) aN)) (cn (.int (12)))))) (sq (sRet (cn (.bool false))) sNil) sNil) (sq (sIf (tNot' (tru (apC allD (aC (lst (comp (seqE (vr 0)) (.one 3) [3] noIf is_entries_e2)) aN)))) (sq (sRet (cn (.bool false))) sNil) sNil) (sq (sRet (apC G_ascends (aC (lst (comp (seqE (vr 0)) (.many [4, 5, 6]) [4, 5, 6] noIf is_entries_e1)) aN))) sNil)))
def G_is_entries : List PyData → Rs PyData := run 7 b_is_entries
/-! groups_of: 0=members 1=who 2=deep 3=found 4=at 5=group 6=member -/
def groups_of_f1 : Ev → Rs Out := (sq (sIf (tAnd' (tB' (ap2 eqD (vr 6) (tupE (aC (cn (.str "g")) (aC (ownIx 3 (vr 4)) aN))))) (tB' (ap2 ninD (vr 5) (ownV 3)))) (sq (sApp 3 (vr 5)) sNil) sNil) sNil)
def groups_of_w2 : Ev → Rs Out := (sq (sFor (seqE (vr 0)) (.many [5, 6]) groups_of_f1) (sq (sAug 4 (fun a b => a + b) (cn (.int (1)))) sNil))
def groups_of_t3 : Ev → Rs Bool := (tAnd' (tru (vr 2)) (tB' (ap2 ltD (vr 4) (fun ρ => ((ownV 3) ρ).bnd fun d => (lenD [d]).bnd flatD))))
def groups_of_e4 : Ev → Rs PyData := (vr 5)
def groups_of_c5 : Ev → Rs Bool := (tB' (ap2 eqD (vr 6) (vr 1)))
def b_groups_of : Ev → Rs Out := (sq (sOwn 3 (comp (seqE (vr 0)) (.many [5, 6]) [5, 6] groups_of_c5 groups_of_e4)) (sq (sSet 4 (cn (.int (0)))) (sq (whL groups_of_t3 groups_of_w2 100000) (sq (fun ρ => (sRet (apC tupleD (aC (lst (apN sortedN (aC (vr 3) aN))) aN))) (pubE 3 ρ)) sNil))))
def G_groups_of : List PyData → Rs PyData := run 7 b_groups_of
/-! is_member: 0=thing 1=people 2=group 3=who -/
def b_is_member : Ev → Rs Out := (sq (sIf (tNot' (tru (apC G_is_row (aC (vr 0) (aC (cn (.int (2))) aN))))) (sq (sRet (cn (.bool false))) sNil) sNil) (sq (sAsg (.many [2, 3]) (vr 0)) (sq (sRet (andV (apC G_is_number (aC (vr 2) (aC (cn (.int (3))) aN))) (apC G_is_who (aC (vr 3) (aC (vr 1) aN))))) sNil)))
def G_is_member : List PyData → Rs PyData := run 4 b_is_member
/-! is_members: 0=thing 1=people 2=member 3=group -/
def is_members_e1 : Ev → Rs PyData := (ap2 inD (vr 3) (apC G_groups_of (aC (vr 0) (aC (tupE (aC (cn (.str "g")) (aC (vr 3) aN))) (aC (cn (.bool true)) aN)))))
def is_members_e2 : Ev → Rs PyData := (apC G_is_member (aC (vr 2) (aC (vr 1) aN)))
def b_is_members : Ev → Rs Out := (sq (sIf (tNot' (tru (ap1 (isiD "tuple") (vr 0)))) (sq (sRet (cn (.bool false))) sNil) sNil) (sq (sIf (tNot' (tru (apC allD (aC (lst (comp (seqE (vr 0)) (.one 2) [2] noIf is_members_e2)) aN)))) (sq (sRet (cn (.bool false))) sNil) sNil) (sq (sIf (tNot' (tru (apC G_ascends (aC (vr 0) aN)))) (sq (sRet (cn (.bool false))) sNil) sNil) (sq (sRet (notV (apC anyD (aC (lst (comp (apN rng1 (aC (cn (.int (3))) aN)) (.one 3) [3] noIf is_members_e1)) aN)))) sNil))))
def G_is_members : List PyData → Rs PyData := run 4 b_is_members
/-! comes_to_top: 0=parents 1=folder 2=at 3=_ -/
def comes_to_top_f1 : Ev → Rs Out := (sq (sIf (tB' (ap2 neD (vr 2) (cn (.int (0))))) (sq (sSet 2 (ap2 ixD (vr 0) (ap2 subD (vr 2) (cn (.int (1)))))) sNil) sNil) sNil)
def b_comes_to_top : Ev → Rs Out := (sq (sSet 2 (vr 1)) (sq (sFor (seqE (vr 0)) (.one 3) comes_to_top_f1) (sq (sRet (ap2 eqD (vr 2) (cn (.int (0))))) sNil)))
def G_comes_to_top : List PyData → Rs PyData := run 4 b_comes_to_top
/-! is_parents: 0=thing 1=folders 2=folder 3=parent -/
def is_parents_e1 : Ev → Rs PyData := (apC G_comes_to_top (aC (vr 0) (aC (vr 2) aN)))
def is_parents_e2 : Ev → Rs PyData := (apC G_is_number (aC (vr 3) (aC (vr 1) aN)))
def b_is_parents : Ev → Rs Out := (sq (sIf (tOr' (tNot' (tru (ap1 (isiD "tuple") (vr 0)))) (tB' (ap2 gtD (apC lenD (aC (vr 0) aN)) (cn (.int (5)))))) (sq (sRet (cn (.bool false))) sNil) sNil) (sq (sSet 1 (ap2 addD (apC lenD (aC (vr 0) aN)) (cn (.int (1))))) (sq (sIf (tNot' (tru (apC allD (aC (lst (comp (seqE (vr 0)) (.one 3) [3] noIf is_parents_e2)) aN)))) (sq (sRet (cn (.bool false))) sNil) sNil) (sq (sRet (apC allD (aC (lst (comp (apN rng1 (aC (vr 1) aN)) (.one 2) [2] noIf is_parents_e1)) aN))) sNil))))
def G_is_parents : List PyData → Rs PyData := run 4 b_is_parents
/-! is_shut: 0=thing 1=folders 2=flag -/
def is_shut_e1 : Ev → Rs PyData := (ap1 (isiD "bool") (vr 2))
def b_is_shut : Ev → Rs Out := (sq (sRet (andV (apC G_is_row (aC (vr 0) (aC (vr 1) aN))) (apC allD (aC (lst (comp (seqE (vr 0)) (.one 2) [2] noIf is_shut_e1)) aN)))) sNil)
def G_is_shut : List PyData → Rs PyData := run 3 b_is_shut
/-! fit_together: 0=people 1=parents 2=shut 3=entries 4=members 5=folders -/
def b_fit_together : Ev → Rs Out := (sq (sIf (tNot' (tru (apC G_is_parents (aC (vr 1) aN)))) (sq (sRet (cn (.bool false))) sNil) sNil) (sq (sSet 5 (ap2 addD (apC lenD (aC (vr 1) aN)) (cn (.int (1))))) (sq (sRet (andV (apC G_is_shut (aC (vr 2) (aC (vr 5) aN))) (andV (apC G_is_entries (aC (vr 3) (aC (vr 0) (aC (vr 5) aN)))) (apC G_is_members (aC (vr 4) (aC (vr 0) aN)))))) sNil)))
def G_fit_together : List PyData → Rs PyData := run 6 b_fit_together
/-! is_house: 0=thing 1=people 2=parents 3=shut 4=entries 5=members -/
def b_is_house : Ev → Rs Out := (sq (sIf (tNot' (tru (apC G_is_row (aC (vr 0) (aC (cn (.int (5))) aN))))) (sq (sRet (cn (.bool false))) sNil) sNil) (sq (sAsg (.many [1, 2, 3, 4, 5]) (vr 0)) (sq (sRet (andV (apC G_is_integer (aC (vr 1) (aC (cn (.int (1))) (aC (cn (.int (4))) aN)))) (apC G_fit_together (aC (vr 1) (aC (vr 2) (aC (vr 3) (aC (vr 4) (aC (vr 5) aN)))))))) sNil)))
def G_is_house : List PyData → Rs PyData := run 6 b_is_house
/-! need_house: 0=house -/
def b_need_house : Ev → Rs Out := (sq (sIf (tNot' (tru (apC G_is_house (aC (vr 0) aN)))) (sq (sRaise 1) sNil) sNil) sNil)
def G_need_house : List PyData → Rs PyData := run 1 b_need_house
/-! is_rule: 0=thing 1=first 2=moving 3=known 4=deep -/
def b_is_rule : Ev → Rs Out := (sq (sIf (tNot' (tru (apC G_is_row (aC (vr 0) (aC (cn (.int (4))) aN))))) (sq (sRet (cn (.bool false))) sNil) sNil) (sq (sAsg (.many [1, 2, 3, 4]) (vr 0)) (sq (sIf (tOr' (tNot' (tru (apC G_is_word (aC (vr 1) (aC (tupE (aC (cn (.str "bar")) (aC (cn (.str "near")) aN))) aN))))) (tNot' (tru (apC G_is_word (aC (vr 2) (aC (tupE (aC (cn (.str "keeps")) (aC (cn (.str "drops")) aN))) aN)))))) (sq (sRet (cn (.bool false))) sNil) sNil) (sq (sRet (andV (apC G_is_word (aC (vr 3) (aC (tupE (aC (cn (.str "now")) (aC (cn (.str "login")) aN))) aN))) (ap1 (isiD "bool") (vr 4)))) sNil))))
def G_is_rule : List PyData → Rs PyData := run 5 b_is_rule
/-! need_rule: 0=rule -/
def b_need_rule : Ev → Rs Out := (sq (sIf (tNot' (tru (apC G_is_rule (aC (vr 0) aN)))) (sq (sRaise 2) sNil) sNil) sNil)
def G_need_rule : List PyData → Rs PyData := run 1 b_need_rule
/-! is_groups: 0=thing 1=group -/
def is_groups_e1 : Ev → Rs PyData := (apC G_is_number (aC (vr 1) (aC (cn (.int (3))) aN)))
def b_is_groups : Ev → Rs Out := (sq (sRet (andV (ap1 (isiD "tuple") (vr 0)) (andV (apC allD (aC (lst (comp (seqE (vr 0)) (.one 1) [1] noIf is_groups_e1)) aN)) (apC G_ascends (aC (vr 0) aN))))) sNil)
def G_is_groups : List PyData → Rs PyData := run 2 b_is_groups
/-! is_logins: 0=thing 1=people 2=groups -/
def is_logins_e1 : Ev → Rs PyData := (apC G_is_groups (aC (vr 2) aN))
def b_is_logins : Ev → Rs Out := (sq (sRet (andV (apC G_is_row (aC (vr 0) (aC (vr 1) aN))) (apC allD (aC (lst (comp (seqE (vr 0)) (.one 2) [2] noIf is_logins_e1)) aN)))) sNil)
def G_is_logins : List PyData → Rs PyData := run 3 b_is_logins
/-! is_state: 0=house 1=thing 2=parents 3=shut 4=entries 5=members 6=logins -/
def b_is_state : Ev → Rs Out := (sq (sIf (tNot' (tru (apC G_is_row (aC (vr 1) (aC (cn (.int (5))) aN))))) (sq (sRet (cn (.bool false))) sNil) sNil) (sq (sAsg (.many [2, 3, 4, 5, 6]) (vr 1)) (sq (sIf (tNot' (tru (apC G_is_row (aC (vr 2) (aC (apC lenD (aC (ap2 ixD (vr 0) (cn (.int (1)))) aN)) aN))))) (sq (sRet (cn (.bool false))) sNil) sNil) (sq (sRet (andV (apC G_fit_together (aC (ap2 ixD (vr 0) (cn (.int (0)))) (aC (vr 2) (aC (vr 3) (aC (vr 4) (aC (vr 5) aN)))))) (apC G_is_logins (aC (vr 6) (aC (ap2 ixD (vr 0) (cn (.int (0)))) aN))))) sNil))))
def G_is_state : List PyData → Rs PyData := run 7 b_is_state
/-! need_state: 0=house 1=state -/
def b_need_state : Ev → Rs Out := (sq (sIf (tNot' (tru (apC G_is_state (aC (vr 0) (aC (vr 1) aN))))) (sq (sRaise 3) sNil) sNil) sNil)
def G_need_state : List PyData → Rs PyData := run 2 b_need_state
/-! counted_groups: 0=rule 1=state 2=person 3=_ 4=known 5=deep -/
def b_counted_groups : Ev → Rs Out := (sq (sAsg (.many [3, 3, 4, 5]) (vr 0)) (sq (sIf (tB' (ap2 eqD (vr 4) (cn (.str "login")))) (sq (sRet (ap2 ixD (ap2 ixD (vr 1) (cn (.int (4)))) (vr 2))) sNil) sNil) (sq (sRet (apC G_groups_of (aC (ap2 ixD (vr 1) (cn (.int (3)))) (aC (tupE (aC (cn (.str "p")) (aC (vr 2) aN))) (aC (vr 5) aN))))) sNil)))
def G_counted_groups : List PyData → Rs PyData := run 6 b_counted_groups
/-! counts_for: 0=who 1=person 2=groups 3=kind 4=number -/
def b_counts_for : Ev → Rs Out := (sq (sAsg (.many [3, 4]) (vr 0)) (sq (sIf (tB' (ap2 eqD (vr 3) (cn (.str "p")))) (sq (sRet (ap2 eqD (vr 4) (vr 1))) sNil) sNil) (sq (sRet (ap2 inD (vr 4) (vr 2))) sNil)))
def G_counts_for : List PyData → Rs PyData := run 5 b_counts_for
/-! line_up: 0=parents 1=folder 2=line -/
def line_up_w1 : Ev → Rs Out := (sq (sApp 2 (ap2 ixD (vr 0) (ap2 subD (ownIx 2 (ap1 negD (cn (.int (1))))) (cn (.int (1)))))) sNil)
def line_up_t2 : Ev → Rs Bool := (tB' (ap2 neD (ownIx 2 (ap1 negD (cn (.int (1))))) (cn (.int (0)))))
def b_line_up : Ev → Rs Out := (sq (sOwn 2 (aC (vr 1) aN)) (sq (whL line_up_t2 line_up_w1 100000) (sq (fun ρ => (sRet (vr 2)) (pubE 2 ρ)) sNil)))
def G_line_up : List PyData → Rs PyData := run 3 b_line_up
/-! way_of: 0=parents 1=shut 2=folder 3=way 4=at -/
def way_of_f1 : Ev → Rs Out := (sq (sApp 3 (vr 4)) (sq (sIf (tru (ap2 ixD (vr 1) (vr 4))) (sq (fun ρ => .ok (.bk ρ)) sNil) sNil) sNil))
def b_way_of : Ev → Rs Out := (sq (sOwn 3 aN) (sq (sFor (seqE (apC G_line_up (aC (vr 0) (aC (vr 2) aN)))) (.one 4) way_of_f1) (sq (fun ρ => (sRet (vr 3)) (pubE 3 ρ)) sNil)))
def G_way_of : List PyData → Rs PyData := run 5 b_way_of
/-! deciding_entries: 0=rule 1=state 2=person 3=folder 4=groups 5=deciding 6=at 7=parents 8=shut 9=entries 10=_ 11=place 12=who 13=kind -/
def deciding_entries_f1 : Ev → Rs Out := (sq (sIf (tAnd' (tB' (ap2 eqD (vr 11) (vr 6))) (tru (apC G_counts_for (aC (vr 12) (aC (vr 2) (aC (vr 4) aN)))))) (sq (sApp 5 (tupE (aC (vr 11) (aC (vr 12) (aC (vr 13) aN))))) sNil) sNil) sNil)
def deciding_entries_f2 : Ev → Rs Out := (sq (sFor (seqE (vr 9)) (.many [11, 12, 13]) deciding_entries_f1) (sq (sIf (tAnd' (tru (ownV 5)) (tB' (ap2 eqD (ap2 ixD (vr 0) (cn (.int (0)))) (cn (.str "near"))))) (sq (fun ρ => .ok (.bk ρ)) sNil) sNil) sNil))
def b_deciding_entries : Ev → Rs Out := (sq (sAsg (.many [7, 8, 9, 10, 10]) (vr 1)) (sq (sSet 4 (apC G_counted_groups (aC (vr 0) (aC (vr 1) (aC (vr 2) aN))))) (sq (sOwn 5 aN) (sq (sFor (seqE (apC G_way_of (aC (vr 7) (aC (vr 8) (aC (vr 3) aN))))) (.one 6) deciding_entries_f2) (sq (fun ρ => (sRet (vr 5)) (pubE 5 ρ)) sNil)))))
def G_deciding_entries : List PyData → Rs PyData := run 14 b_deciding_entries
/-! person_sees: 0=rule 1=state 2=person 3=folder 4=kinds 5=_ 6=kind -/
def person_sees_e1 : Ev → Rs PyData := (vr 6)
def b_person_sees : Ev → Rs Out := (sq (sSet 4 (lst (comp (seqE (apC G_deciding_entries (aC (vr 0) (aC (vr 1) (aC (vr 2) (aC (vr 3) aN)))))) (.many [5, 5, 6]) [5, 5, 6] noIf person_sees_e1))) (sq (sRet (andV (ap2 inD (cn (.str "allow")) (vr 4)) (ap2 ninD (cn (.str "bar")) (vr 4)))) sNil))
def G_person_sees : List PyData → Rs PyData := run 7 b_person_sees
/-! all_sights: 0=house 1=rule 2=state 3=spots 4=person 5=folder -/
def all_sights_e1 : Ev → Rs PyData := (tupE (aC (vr 4) (aC (vr 5) aN)))
def all_sights_c2 : Ev → Rs Bool := (tru (apC G_person_sees (aC (vr 1) (aC (vr 2) (aC (vr 4) (aC (vr 5) aN))))))
def all_sights_e3 : Ev → Rs PyData := (tupE (aC (vr 4) (aC (vr 5) aN)))
def all_sights_i4 : Ev → Rs (List PyData) := (apN rng1 (aC (apC lenD (aC (ap2 ixD (vr 0) (cn (.int (2)))) aN)) aN))
def b_all_sights : Ev → Rs Out := (sq (sDoX (argX G_need_house (aC (vr 0) aN))) (sq (sDoX (argX G_need_rule (aC (vr 1) aN))) (sq (sDoX (argX G_need_state (aC (vr 0) (aC (vr 2) aN)))) (sq (sSet 3 (lst (comp2 (apN rng1 (aC (ap2 ixD (vr 0) (cn (.int (0)))) aN)) (.one 4) [4, 5] noIf all_sights_i4 (.one 5) [5] noIf all_sights_e3))) (sq (sRetL (comp (seqE (vr 3)) (.many [4, 5]) [4, 5] all_sights_c2 all_sights_e1)) sNil)))))
def G_all_sights : List PyData → Rs PyData := run 6 b_all_sights
def GN_all_sights : List PyData → Rs (List PyData) := runN 6 b_all_sights
/-! law_ascends: 0=house_here 1=rule_here 2=states 3=sights 4=less 5=more 6=state_here 7=one -/
def law_ascends_e1 : Ev → Rs PyData := (ap2 inD (vr 7) (vr 5))
def law_ascends_f2 : Ev → Rs Out := (sq (sIf (tNot' (tru (apC allD (aC (lst (comp (seqE (vr 4)) (.one 7) [7] noIf law_ascends_e1)) aN)))) (sq (sRet (cn (.bool false))) sNil) sNil) sNil)
def law_ascends_e3 : Ev → Rs PyData := (apC G_all_sights (aC (vr 0) (aC (vr 1) (aC (vr 6) aN))))
def b_law_ascends : Ev → Rs Out := (sq (sSet 3 (lst (comp (seqE (vr 2)) (.one 6) [6] noIf law_ascends_e3))) (sq (sFor (seqE (lst (aC (tupE (aC (ap2 ixD (vr 3) (cn (.int (0)))) (aC (ap2 ixD (vr 3) (cn (.int (1)))) aN))) (aC (tupE (aC (ap2 ixD (vr 3) (cn (.int (1)))) (aC (ap2 ixD (vr 3) (cn (.int (2)))) aN))) aN)))) (.many [4, 5]) law_ascends_f2) (sq (sRet (cn (.bool true))) sNil)))
def G_law_ascends : List PyData → Rs PyData := run 8 b_law_ascends
/-! law_cell_at: 0=script 1=k -/
def b_law_cell_at : Ev → Rs Out := (sq (sIf (tB' (ap2 ltD (vr 1) (apC lenD (aC (vr 0) aN)))) (sq (sRet (apC intD (aC (ap2 ixD (vr 0) (vr 1)) aN))) sNil) sNil) (sq (sIf (tB' (ap2 gtD (apC lenD (aC (vr 0) aN)) (cn (.int (0))))) (sq (sRet (ap2 addD (ap2 addD (ap2 mulN (ap2 modD (apC intD (aC (ap2 ixD (vr 0) (cn (.int (0)))) aN)) (cn (.int (1000003)))) (cn (.int (31)))) (ap2 mulN (cn (.int (7919))) (vr 1))) (cn (.int (3))))) sNil) sNil) (sq (sRet (ap2 addD (ap2 mulN (cn (.int (7919))) (vr 1)) (cn (.int (5))))) sNil)))
def G_law_cell_at : List PyData → Rs PyData := run 2 b_law_cell_at
/-! law_draws: 0=cell 1=many 2=left 3=base 4=draws_here 5=k 6=mixed -/
def law_draws_f1 : Ev → Rs Out := (sq (sIf (tB' (ap2 gtD (vr 2) (cn (.int (0))))) (sq (sApp 4 (ap2 modD (apC intD (aC (vr 2) aN)) (cn (.int (1000003))))) (sq (sSet 2 (ap2 divD (vr 2) (cn (.int (1000003))))) sNil)) (sq (sSet 6 (ap2 modD (apC intD (aC (ap2 powD (ap2 addD (ap2 addD (vr 3) (ap2 mulN (cn (.int (104729))) (vr 5))) (cn (.int (13)))) (cn (.int (3)))) aN)) (cn (.int (2305843009213693951))))) (sq (sApp 4 (ap2 modD (ap2 divD (ap2 modD (apC intD (aC (ap2 mulN (vr 6) (cn (.int (69621)))) aN)) (cn (.int (2147483647)))) (cn (.int (11)))) (cn (.int (1000003))))) sNil))) sNil)
def b_law_draws : Ev → Rs Out := (sq (sSet 2 (apC maxD (aC (cn (.int (0))) (aC (ap2 subD (vr 0) (ap2 powD (cn (.int (10))) (cn (.int (18))))) aN)))) (sq (sSet 3 (ap2 modD (apC intD (aC (vr 0) aN)) (cn (.int (1000000000000000003))))) (sq (sOwn 4 aN) (sq (sFor (apN rng1 (aC (vr 1) aN)) (.one 5) law_draws_f1) (sq (fun ρ => (sRet (vr 4)) (pubE 4 ρ)) sNil)))))
def G_law_draws : List PyData → Rs PyData := run 7 b_law_draws
/-! law_groups: 0=members 1=who_here 2=deep 3=found 4=k 5=inner 6=group 7=one -/
def law_groups_e1 : Ev → Rs PyData := (ap2 inD (tupE (aC (vr 6) (aC (vr 7) aN))) (vr 0))
def law_groups_e2 : Ev → Rs PyData := (vr 6)
def law_groups_c3 : Ev → Rs Bool := (tOr' (tB' (ap2 inD (vr 6) (vr 3))) (tru (apC anyD (aC (lst (comp (seqE (vr 5)) (.one 7) [7] noIf law_groups_e1)) aN))))
def law_groups_e4 : Ev → Rs PyData := (tupE (aC (cn (.str "g")) (aC (vr 6) aN)))
def law_groups_f5 : Ev → Rs Out := (sq (sSet 5 (lst (comp (seqE (vr 3)) (.one 6) [6] noIf law_groups_e4))) (sq (sSet 3 (lst (comp (apN rng1 (aC (cn (.int (3))) aN)) (.one 6) [6] law_groups_c3 law_groups_e2))) sNil))
def law_groups_e6 : Ev → Rs PyData := (vr 6)
def law_groups_c7 : Ev → Rs Bool := (tB' (ap2 inD (tupE (aC (vr 6) (aC (vr 1) aN))) (vr 0)))
def b_law_groups : Ev → Rs Out := (sq (sSet 3 (lst (comp (apN rng1 (aC (cn (.int (3))) aN)) (.one 6) [6] law_groups_c7 law_groups_e6))) (sq (sFor (apN rng1 (aC (ifE (tru (vr 2)) (cn (.int (2))) (cn (.int (0)))) aN)) (.one 4) law_groups_f5) (sq (sRet (vr 3)) sNil)))
def G_law_groups : List PyData → Rs PyData := run 8 b_law_groups
/-! law_counts: 0=rule_here 1=state_here 2=person 3=who_here 4=groups_here -/
def b_law_counts : Ev → Rs Out := (sq (sSet 4 (lst (apN listN (aC (ap2 ixD (ap2 ixD (vr 1) (cn (.int (4)))) (vr 2)) aN)))) (sq (sIf (tB' (ap2 eqD (ap2 ixD (vr 0) (cn (.int (2)))) (cn (.str "now")))) (sq (sSet 4 (apC G_law_groups (aC (ap2 ixD (vr 1) (cn (.int (3)))) (aC (tupE (aC (cn (.str "p")) (aC (vr 2) aN))) (aC (ap2 ixD (vr 0) (cn (.int (3)))) aN))))) sNil) sNil) (sq (sRet (orV (ap2 eqD (vr 3) (tupE (aC (cn (.str "p")) (aC (vr 2) aN)))) (andV (ap2 eqD (ap2 ixD (vr 3) (cn (.int (0)))) (cn (.str "g"))) (ap2 inD (ap2 ixD (vr 3) (cn (.int (1)))) (vr 4))))) sNil)))
def G_law_counts : List PyData → Rs PyData := run 5 b_law_counts
/-! law_way: 0=state_here 1=folder 2=way_here 3=k -/
def law_way_f1 : Ev → Rs Out := (sq (sIf (tAnd' (tB' (ap2 gtD (ownIx 2 (ap1 negD (cn (.int (1))))) (cn (.int (0))))) (tNot' (tru (ap2 ixD (ap2 ixD (vr 0) (cn (.int (1)))) (ownIx 2 (ap1 negD (cn (.int (1))))))))) (sq (sApp 2 (ap2 ixD (ap2 ixD (vr 0) (cn (.int (0)))) (ap2 subD (ownIx 2 (ap1 negD (cn (.int (1))))) (cn (.int (1)))))) sNil) sNil) sNil)
def b_law_way : Ev → Rs Out := (sq (sOwn 2 (aC (vr 1) aN)) (sq (sFor (apN rng1 (aC (apC lenD (aC (ap2 ixD (vr 0) (cn (.int (0)))) aN)) aN)) (.one 3) law_way_f1) (sq (fun ρ => (sRet (vr 2)) (pubE 2 ρ)) sNil)))
def G_law_way : List PyData → Rs PyData := run 4 b_law_way
/-! law_elsewhere: 0=house_here 1=rule_here 2=states 3=folder 4=who_here 5=sights 6=person 7=place 8=state_here 9=seen -/
def law_elsewhere_e1 : Ev → Rs PyData := (ap2 inD (tupE (aC (vr 6) (aC (vr 7) aN))) (vr 9))
def law_elsewhere_f2 : Ev → Rs Out := (sq (sIf (tOr' (tNot' (tru (apC G_law_counts (aC (vr 1) (aC (ap2 ixD (vr 2) (cn (.int (0)))) (aC (vr 6) (aC (vr 4) aN))))))) (tB' (ap2 ninD (vr 3) (apC G_law_way (aC (ap2 ixD (vr 2) (cn (.int (0)))) (aC (vr 7) aN)))))) (sq (sIf (tB' (ap2 neD (apC lenSetB (aC (lst (comp (seqE (vr 5)) (.one 9) [9] noIf law_elsewhere_e1)) aN)) (cn (.int (1))))) (sq (sRet (cn (.bool false))) sNil) sNil) sNil) sNil) sNil)
def law_elsewhere_f3 : Ev → Rs Out := (sq (sFor (apN rng1 (aC (ap2 addD (apC lenD (aC (ap2 ixD (vr 0) (cn (.int (1)))) aN)) (cn (.int (1)))) aN)) (.one 7) law_elsewhere_f2) sNil)
def law_elsewhere_e4 : Ev → Rs PyData := (apC G_all_sights (aC (vr 0) (aC (vr 1) (aC (vr 8) aN))))
def b_law_elsewhere : Ev → Rs Out := (sq (sSet 5 (lst (comp (seqE (vr 2)) (.one 8) [8] noIf law_elsewhere_e4))) (sq (sFor (apN rng1 (aC (ap2 ixD (vr 0) (cn (.int (0)))) aN)) (.one 6) law_elsewhere_f3) (sq (sRet (cn (.bool true))) sNil)))
def G_law_elsewhere : List PyData → Rs PyData := run 10 b_law_elsewhere
/-! law_who: 0=draw 1=people 2=number -/
def b_law_who : Ev → Rs Out := (sq (sSet 2 (ap2 modD (apC intD (aC (vr 0) aN)) (ap2 addD (vr 1) (cn (.int (3)))))) (sq (sIf (tB' (ap2 ltD (vr 2) (vr 1))) (sq (sRet (tupE (aC (cn (.str "p")) (aC (vr 2) aN)))) sNil) sNil) (sq (sRet (tupE (aC (cn (.str "g")) (aC (ap2 subD (vr 2) (vr 1)) aN)))) sNil)))
def G_law_who : List PyData → Rs PyData := run 3 b_law_who
/-! law_body: 0=draws_here 1=people 2=count 3=names 4=parents 5=inside 6=k 7=shut 8=kinds 9=entries 10=line 11=links 12=members 13=person 14=folder 15=draw 16=some 17=spot 18=group -/
def law_body_e1 : Ev → Rs PyData := (tupE (aC (vr 18) (aC (tupE (aC (cn (.str "p")) (aC (vr 13) aN))) aN)))
def law_body_c2 : Ev → Rs Bool := (tB' (ap2 eqD (ap2 modD (apC intD (aC (ap2 ixD (vr 16) (vr 18)) aN)) (cn (.int (3)))) (cn (.int (1)))))
def law_body_f3 : Ev → Rs Out := (sq (sSet 16 (slE (vr 0) (oS (ap2 addD (cn (.int (33))) (ap2 mulN (cn (.int (3))) (vr 13)))) (oS (ap2 addD (cn (.int (36))) (ap2 mulN (cn (.int (3))) (vr 13)))))) (sq (sSet 12 (ap2 addD (vr 12) (lst (comp (apN rng1 (aC (cn (.int (3))) aN)) (.one 18) [18] law_body_c2 law_body_e1)))) sNil))
def law_body_e4 : Ev → Rs PyData := (tupE (aC (ap2 ixD (ap2 ixD (vr 11) (vr 6)) (cn (.int (0)))) (aC (tupE (aC (cn (.str "g")) (aC (ap2 ixD (ap2 ixD (vr 11) (vr 6)) (cn (.int (1)))) aN))) aN)))
def law_body_c5 : Ev → Rs Bool := (tB' (ap2 eqD (ap2 modD (apC intD (aC (ap2 ixD (vr 0) (ap2 addD (cn (.int (30))) (vr 6))) aN)) (cn (.int (2)))) (cn (.int (1)))))
def law_body_e6 : Ev → Rs PyData := (tupE (aC (ap2 ixD (vr 17) (cn (.int (0)))) (aC (ap2 ixD (vr 17) (cn (.int (1)))) (aC (dgetE 8 (vr 17)) aN))))
def law_body_f7 : Ev → Rs Out := (sq (sSet 15 (apC intD (aC (ap2 ixD (vr 0) (ap2 addD (cn (.int (17))) (vr 6))) aN))) (sq (sDput 8 (tupE (aC (ap2 modD (vr 15) (ap2 addD (vr 2) (cn (.int (1))))) (aC (apC G_law_who (aC (ap2 divD (vr 15) (cn (.int (6)))) (aC (vr 1) aN))) aN))) (ap2 ixD (lst (aC (cn (.str "allow")) (aC (cn (.str "bar")) aN))) (ap2 modD (ap2 divD (vr 15) (cn (.int (42)))) (cn (.int (2)))))) sNil))
def law_body_e8 : Ev → Rs PyData := (ap2 eqD (ap2 modD (apC intD (aC (ap2 ixD (vr 0) (ap2 addD (cn (.int (10))) (vr 6))) aN)) (cn (.int (4)))) (cn (.int (1))))
def law_body_f9 : Ev → Rs Out := (sq (sPopAt 14 3 (ap2 modD (apC intD (aC (ap2 ixD (vr 0) (vr 6)) aN)) (fun ρ => ((ownV 3) ρ).bnd fun d => (lenD [d]).bnd flatD))) (sq (sSetIx 4 (ap2 subD (vr 14) (cn (.int (1)))) (ownIx 5 (ap2 modD (apC intD (aC (ap2 ixD (vr 0) (ap2 addD (cn (.int (5))) (vr 6))) aN)) (fun ρ => ((ownV 5) ρ).bnd fun d => (lenD [d]).bnd flatD)))) (sq (sApp 5 (vr 14)) sNil)))
def b_law_body : Ev → Rs Out := (sq (sOwn 3 (apN rng2 (aC (cn (.int (1))) (aC (ap2 addD (vr 2) (cn (.int (1)))) aN)))) (sq (sOwn 4 (mulL (aC (cn (.int (0))) aN) (vr 2))) (sq (sOwn 5 (aC (cn (.int (0))) aN)) (sq (sFor (apN rng1 (aC (vr 2) aN)) (.one 6) law_body_f9) (sq (sSet 7 (lst (comp (apN rng1 (aC (ap2 addD (vr 2) (cn (.int (1)))) aN)) (.one 6) [6] noIf law_body_e8))) (sq (sDic 8) (sq (sFor (apN rng1 (aC (ap2 modD (apC intD (aC (ap2 ixD (vr 0) (cn (.int (16)))) aN)) (cn (.int (13)))) aN)) (.one 6) law_body_f7) (sq (sSet 9 (lst (comp (dkeysL 8) (.one 17) [17] noIf law_body_e6))) (sq (sSet 10 (ap2 ixD (lst (aC (lst (aC (cn (.int (0))) (aC (cn (.int (1))) (aC (cn (.int (2))) aN)))) (aC (lst (aC (cn (.int (0))) (aC (cn (.int (2))) (aC (cn (.int (1))) aN)))) (aC (lst (aC (cn (.int (1))) (aC (cn (.int (0))) (aC (cn (.int (2))) aN)))) (aC (lst (aC (cn (.int (1))) (aC (cn (.int (2))) (aC (cn (.int (0))) aN)))) (aC (lst (aC (cn (.int (2))) (aC (cn (.int (0))) (aC (cn (.int (1))) aN)))) (aC (lst (aC (cn (.int (2))) (aC (cn (.int (1))) (aC (cn (.int (0))) aN)))) aN))))))) (ap2 modD (apC intD (aC (ap2 ixD (vr 0) (cn (.int (29)))) aN)) (cn (.int (6)))))) (sq (sSet 11 (lst (aC (tupE (aC (ap2 ixD (vr 10) (cn (.int (0)))) (aC (ap2 ixD (vr 10) (cn (.int (1)))) aN))) (aC (tupE (aC (ap2 ixD (vr 10) (cn (.int (0)))) (aC (ap2 ixD (vr 10) (cn (.int (2)))) aN))) (aC (tupE (aC (ap2 ixD (vr 10) (cn (.int (1)))) (aC (ap2 ixD (vr 10) (cn (.int (2)))) aN))) aN))))) (sq (sSet 12 (lst (comp (apN rng1 (aC (cn (.int (3))) aN)) (.one 6) [6] law_body_c5 law_body_e4))) (sq (sFor (apN rng1 (aC (vr 1) aN)) (.one 13) law_body_f3) (sq (sRet (tupE (aC (fun ρ => (ownL 4 ρ).bnd fun ds => .ok (.tuple ds)) (aC (apC tupleD (aC (vr 7) aN)) (aC (apC tupleD (aC (lst (apN sortedN (aC (vr 9) aN))) aN)) (aC (apC tupleD (aC (lst (apN sortedN (aC (vr 12) aN))) aN)) aN)))))) sNil)))))))))))))
def G_law_body : List PyData → Rs PyData := run 19 b_law_body
/-! law_house: 0=cell 1=draws_here 2=people -/
def b_law_house : Ev → Rs Out := (sq (sSet 1 (apC G_law_draws (aC (vr 0) (aC (cn (.int (47))) aN)))) (sq (sSet 2 (ap2 addD (cn (.int (1))) (ap2 modD (apC intD (aC (ap2 ixD (vr 1) (cn (.int (0)))) aN)) (cn (.int (4)))))) (sq (sRet (ap2 addD (tupE (aC (vr 2) aN)) (apC G_law_body (aC (slE (vr 1) (oS (cn (.int (2)))) oN) (aC (vr 2) (aC (ap2 modD (apC intD (aC (ap2 ixD (vr 1) (cn (.int (1)))) aN)) (cn (.int (6)))) aN)))))) sNil)))
def G_law_house : List PyData → Rs PyData := run 3 b_law_house
/-! law_rule: 0=draw 1=first -/
def b_law_rule : Ev → Rs Out := (sq (sSet 0 (apC intD (aC (vr 0) aN))) (sq (sSet 1 (ap2 ixD (lst (aC (cn (.str "bar")) (aC (cn (.str "near")) aN))) (ap2 modD (vr 0) (cn (.int (2)))))) (sq (sRet (tupE (aC (vr 1) (aC (ap2 ixD (lst (aC (cn (.str "keeps")) (aC (cn (.str "drops")) aN))) (ap2 modD (ap2 divD (vr 0) (cn (.int (2)))) (cn (.int (2))))) (aC (ap2 ixD (lst (aC (cn (.str "now")) (aC (cn (.str "login")) aN))) (ap2 modD (ap2 divD (vr 0) (cn (.int (4)))) (cn (.int (2))))) (aC (ap2 eqD (ap2 modD (ap2 divD (vr 0) (cn (.int (8)))) (cn (.int (2)))) (cn (.int (1)))) aN)))))) sNil)))
def G_law_rule : List PyData → Rs PyData := run 2 b_law_rule
/-! law_state: 0=cell 1=people 2=count 3=draws_here 4=logins 5=person 6=some 7=group -/
def law_state_e1 : Ev → Rs PyData := (vr 7)
def law_state_c2 : Ev → Rs Bool := (tB' (ap2 eqD (ap2 modD (apC intD (aC (ap2 ixD (vr 6) (vr 7)) aN)) (cn (.int (3)))) (cn (.int (1)))))
def law_state_f3 : Ev → Rs Out := (sq (sSet 6 (slE (vr 3) (oS (ap2 addD (cn (.int (45))) (ap2 mulN (cn (.int (3))) (vr 5)))) (oS (ap2 addD (cn (.int (48))) (ap2 mulN (cn (.int (3))) (vr 5)))))) (sq (sApp 4 (apC tupleD (aC (lst (comp (apN rng1 (aC (cn (.int (3))) aN)) (.one 7) [7] law_state_c2 law_state_e1)) aN))) sNil))
def b_law_state : Ev → Rs Out := (sq (sSet 3 (apC G_law_draws (aC (vr 0) (aC (cn (.int (57))) aN)))) (sq (sOwn 4 aN) (sq (sFor (apN rng1 (aC (vr 1) aN)) (.one 5) law_state_f3) (sq (sRet (ap2 addD (apC G_law_body (aC (vr 3) (aC (vr 1) (aC (vr 2) aN)))) (tupE (aC (fun ρ => (ownL 4 ρ).bnd fun ds => .ok (.tuple ds)) aN)))) sNil))))
def G_law_state : List PyData → Rs PyData := run 8 b_law_state
/-! law_with: 0=state_here 1=entries -/
def b_law_with : Ev → Rs Out := (sq (sRet (ap2 addD (ap2 addD (slE (vr 0) oN (oS (cn (.int (2))))) (tupE (aC (apC tupleD (aC (lst (apN sortedN (aC (vr 1) aN))) aN)) aN))) (slE (vr 0) (oS (cn (.int (3)))) oN))) sNil)
def G_law_with : List PyData → Rs PyData := run 2 b_law_with
/-! law: 0=script 1=house_here 2=state_here 3=draws_here 4=rule_here 5=folder 6=who_here 7=rest 8=states 9=one 10=near 11=spots 12=row 13=sight 14=place -/
def law_e1 : Ev → Rs PyData := (ap2 inD (vr 14) (vr 11))
def law_e2 : Ev → Rs PyData := (apC anyD (aC (lst (comp (seqE (apC G_law_way (aC (vr 9) (aC (ap2 ixD (vr 13) (cn (.int (1)))) aN)))) (.one 14) [14] noIf law_e1)) aN))
def law_e3 : Ev → Rs PyData := (ap2 ixD (vr 12) (cn (.int (0))))
def law_c4 : Ev → Rs Bool := (tB' (ap2 eqD (ap2 ixD (vr 12) (cn (.int (2)))) (cn (.str "allow"))))
def law_e5 : Ev → Rs PyData := (ap2 inD (vr 13) (vr 10))
def law_f6 : Ev → Rs Out := (sq (sSet 10 (apC G_all_sights (aC (vr 1) (aC (ap2 addD (tupE (aC (cn (.str "near")) aN)) (slE (vr 4) (oS (cn (.int (1)))) oN)) (aC (vr 9) aN))))) (sq (sIf (tNot' (tru (apC allD (aC (lst (comp (seqE (apC G_all_sights (aC (vr 1) (aC (ap2 addD (tupE (aC (cn (.str "bar")) aN)) (slE (vr 4) (oS (cn (.int (1)))) oN)) (aC (vr 9) aN))))) (.one 13) [13] noIf law_e5)) aN)))) (sq (sRet (cn (.bool false))) sNil) sNil) (sq (sSet 11 (lst (comp (seqE (ap2 ixD (vr 9) (cn (.int (2))))) (.one 12) [12] law_c4 law_e3))) (sq (sIf (tNot' (tru (apC allD (aC (lst (comp (seqE (vr 10)) (.one 13) [13] noIf law_e2)) aN)))) (sq (sRet (cn (.bool false))) sNil) sNil) sNil))))
def law_e7 : Ev → Rs PyData := (vr 12)
def law_c8 : Ev → Rs Bool := (tB' (ap2 neD (slE (vr 12) oN (oS (cn (.int (2))))) (tupE (aC (vr 5) (aC (vr 6) aN)))))
def b_law : Ev → Rs Out := (sq (sSet 1 (apC G_law_house (aC (apC G_law_cell_at (aC (vr 0) (aC (cn (.int (0))) aN))) aN))) (sq (sSet 2 (apC G_law_state (aC (apC G_law_cell_at (aC (vr 0) (aC (cn (.int (1))) aN))) (aC (ap2 ixD (vr 1) (cn (.int (0)))) (aC (apC lenD (aC (ap2 ixD (vr 1) (cn (.int (1)))) aN)) aN))))) (sq (sSet 3 (apC G_law_draws (aC (apC G_law_cell_at (aC (vr 0) (aC (cn (.int (2))) aN))) (aC (cn (.int (3))) aN)))) (sq (sSet 4 (apC G_law_rule (aC (ap2 ixD (vr 3) (cn (.int (0)))) aN))) (sq (sSet 5 (ap2 modD (apC intD (aC (ap2 ixD (vr 3) (cn (.int (1)))) aN)) (ap2 addD (apC lenD (aC (ap2 ixD (vr 1) (cn (.int (1)))) aN)) (cn (.int (1)))))) (sq (sSet 6 (apC G_law_who (aC (ap2 ixD (vr 3) (cn (.int (2)))) (aC (ap2 ixD (vr 1) (cn (.int (0)))) aN)))) (sq (sOwn 7 (comp (seqE (ap2 ixD (vr 2) (cn (.int (2))))) (.one 12) [12] law_c8 law_e7)) (sq (sIf (tB' (ap2 eqD (fun ρ => ((ownV 7) ρ).bnd fun d => (lenD [d]).bnd flatD) (cn (.int (12))))) (sq (sPop 7) sNil) sNil) (sq (fun ρ => (sOwn 8 (aC (apC G_law_with (aC (vr 2) (aC (ap2 addD (vr 7) (lst (aC (tupE (aC (vr 5) (aC (vr 6) (aC (cn (.str "bar")) aN)))) aN))) aN))) (aC (apC G_law_with (aC (vr 2) (aC (vr 7) aN))) aN))) (pubE 7 ρ)) (sq (fun ρ => (sApp 8 (apC G_law_with (aC (vr 2) (aC (ap2 addD (vr 7) (lst (aC (tupE (aC (vr 5) (aC (vr 6) (aC (cn (.str "allow")) aN)))) aN))) aN)))) (pubE 7 ρ)) (sq (fun ρ => (sIf (tOr' (tNot' (tru (apC G_law_ascends (aC (vr 1) (aC (vr 4) (aC (vr 8) aN)))))) (tNot' (tru (apC G_law_elsewhere (aC (vr 1) (aC (vr 4) (aC (vr 8) (aC (vr 5) (aC (vr 6) aN))))))))) (sq (sRet (cn (.bool false))) sNil) sNil) (pubE 8 ρ)) (sq (fun ρ => (sFor (seqE (vr 8)) (.one 9) law_f6) (pubE 8 ρ)) (sq (sRet (cn (.bool true))) sNil)))))))))))))
def G_law : List PyData → Rs PyData := run 15 b_law
end M


namespace Q
open PySem PySem.Spec PyProof.Rows L2 PL M
def cellAt (ns : List Int) (k : Nat) : Int :=
  if h : k < ns.length then ns[k] else if h : 0 < ns.length then ns[0] % 1000003 * 31 + 7919 * k + 3 else 7919 * k + 5
theorem cell_at (ns : List Int) (k : Nat) : G_law_cell_at [.list (ns.map .int), .int k] = .ok (.int (cellAt ns k)) := by
  unfold G_law_cell_at b_law_cell_at cellAt
  by_cases h : k < ns.length
  · have e : L2.atI (List.map PyData.int ns) k = some (.int ns[k]) := by rw [PL.atI_nat]; simp [h]
    simp [PL.run, PL.startE, PL.sq, PL.sIf, PL.sRet, PL.sSet, PL.sAsg, PL.sOwn, PL.sApp, PL.sFor, PL.sDo, PL.sDoX, PL.sSetX, PL.sRetX, PL.argX, PL.lft, PL.sNil, PL.tB', PL.tru, PL.ap1, PL.ap2, PL.apC, PL.apN, PL.lst, PL.tupE, PL.vr, PL.getC, PL.aC, PL.aN, PL.cn, PL.seqE, PL.pubE, PL.tgt_one, PL.atI_nat, PL.addD_i, PL.subD_i, PL.modD_i, PL.divD_i, PL.mulN_i, PL.mulOk_l, PL.mulOk_r, PL.ltD_i, PL.leD_i, PL.gtD_i, PL.geD_i, PL.lenD_l, PL.lenD_t, PL.intD_i, PL.maxD_i, PL.minD_i, PL.isB_b, PL.truD_b, PL.asI_i, PL.seqOf_l, PL.seqOf_t, PL.rng1_i, PL.rng2_i, ixD_l e, h]
  · by_cases h0 : 0 < ns.length
    · have e : L2.atI (List.map PyData.int ns) 0 = some (.int ns[0]) := by rw [atI_zero]; simp [h0]
      simp [PL.run, PL.startE, PL.sq, PL.sIf, PL.sRet, PL.sSet, PL.sAsg, PL.sOwn, PL.sApp, PL.sFor, PL.sDo, PL.sDoX, PL.sSetX, PL.sRetX, PL.argX, PL.lft, PL.sNil, PL.tB', PL.tru, PL.ap1, PL.ap2, PL.apC, PL.apN, PL.lst, PL.tupE, PL.vr, PL.getC, PL.aC, PL.aN, PL.cn, PL.seqE, PL.pubE, PL.tgt_one, PL.atI_nat, PL.addD_i, PL.subD_i, PL.modD_i, PL.divD_i, PL.mulN_i, PL.mulOk_l, PL.mulOk_r, PL.ltD_i, PL.leD_i, PL.gtD_i, PL.geD_i, PL.lenD_l, PL.lenD_t, PL.intD_i, PL.maxD_i, PL.minD_i, PL.isB_b, PL.truD_b, PL.asI_i, PL.seqOf_l, PL.seqOf_t, PL.rng1_i, PL.rng2_i, ixD_l e, h, h0]
    · simp [PL.run, PL.startE, PL.sq, PL.sIf, PL.sRet, PL.sSet, PL.sAsg, PL.sOwn, PL.sApp, PL.sFor, PL.sDo, PL.sDoX, PL.sSetX, PL.sRetX, PL.argX, PL.lft, PL.sNil, PL.tB', PL.tru, PL.ap1, PL.ap2, PL.apC, PL.apN, PL.lst, PL.tupE, PL.vr, PL.getC, PL.aC, PL.aN, PL.cn, PL.seqE, PL.pubE, PL.tgt_one, PL.atI_nat, PL.addD_i, PL.subD_i, PL.modD_i, PL.divD_i, PL.mulN_i, PL.mulOk_l, PL.mulOk_r, PL.ltD_i, PL.leD_i, PL.gtD_i, PL.geD_i, PL.lenD_l, PL.lenD_t, PL.intD_i, PL.maxD_i, PL.minD_i, PL.isB_b, PL.truD_b, PL.asI_i, PL.seqOf_l, PL.seqOf_t, PL.rng1_i, PL.rng2_i, h, h0]
/-- draws -/
def Draws (n : Nat) (l : List Int) : Prop := l.length = n ∧ ∀ x ∈ l, 0 ≤ x ∧ x < 1000003
theorem draws (c : Int) (n : Nat) (hn : n ≤ 1000) : ∃ l, Draws n l ∧ G_law_draws [.int c, .int n] = .ok (.list (l.map .int)) := by
  let I : Nat → Ev → Prop := fun i ρ => ∃ (left base : Int) (l : List Int) (k m : Option Cell), 0 ≤ base ∧ base < 1000000000000000003 ∧ Draws i l ∧ ρ = [some (.pub (.int c)), some (.pub (.int n)), some (.pub (.int left)), some (.pub (.int base)), some (.own (l.map .int)), k, m]
  obtain ⟨ρ', e, left, base, l, k, m, _, _, hl, eρ⟩ := forL_range (j := 5) (n := n) (f := law_draws_f1) I [some (.pub (.int c)), some (.pub (.int n)), some (.pub (.int (if 1000000000000000000 < c then c - 1000000000000000000 else 0))), some (.pub (.int (c % 1000000000000000003))), some (.own []), none, none]
    (fun i ρ hi ⟨left, base, l, k, m, h1, h2, hl, e⟩ => by
      subst e
      have sz : l.length < sizeLine := by rw [hl.1, sizeLine_eq]; omega
      unfold law_draws_f1
      by_cases hL : 0 < left
      · refine ⟨[some (.pub (.int c)), some (.pub (.int n)), some (.pub (.int (left / 1000003))), some (.pub (.int base)), some (.own ((l ++ [left % 1000003]).map .int)), some (.pub (.int i)), m], ?_, left / 1000003, base, l ++ [left % 1000003], some (.pub (.int i)), m, h1, h2, ⟨by simp [hl.1], fun x hx => ?_⟩, rfl⟩
        · simp [PL.run, PL.startE, PL.sq, PL.sIf, PL.sRet, PL.sSet, PL.sAsg, PL.sOwn, PL.sApp, PL.sFor, PL.sDo, PL.sDoX, PL.sSetX, PL.sRetX, PL.argX, PL.lft, PL.sNil, PL.tB', PL.tru, PL.ap1, PL.ap2, PL.apC, PL.apN, PL.lst, PL.tupE, PL.vr, PL.getC, PL.aC, PL.aN, PL.cn, PL.seqE, PL.pubE, PL.tgt_one, PL.atI_nat, PL.addD_i, PL.subD_i, PL.modD_i, PL.divD_i, PL.mulN_i, PL.mulOk_l, PL.mulOk_r, PL.ltD_i, PL.leD_i, PL.gtD_i, PL.geD_i, PL.lenD_l, PL.lenD_t, PL.intD_i, PL.maxD_i, PL.minD_i, PL.isB_b, PL.truD_b, PL.asI_i, PL.seqOf_l, PL.seqOf_t, PL.rng1_i, PL.rng2_i, hL, sz]
        · rcases List.mem_append.mp hx with hx | hx
          · exact hl.2 x hx
          · rw [List.mem_singleton.mp hx]; omega
      · have pw : (base + 104729 * (i : Int) + 13).natAbs < 18446744073709551616 := by omega
        let mx : Int := (base + 104729 * (i : Int) + 13) ^ 3 % 2305843009213693951
        let y : Int := mx * 69621 % 2147483647 / 11 % 1000003
        refine ⟨[some (.pub (.int c)), some (.pub (.int n)), some (.pub (.int left)), some (.pub (.int base)), some (.own ((l ++ [y]).map .int)), some (.pub (.int i)), some (.pub (.int mx))], ?_, left, base, l ++ [y], some (.pub (.int i)), some (.pub (.int mx)), h1, h2, ⟨by simp [hl.1], fun x hx => ?_⟩, rfl⟩
        · have e3 := powD_i (i := base + 104729 * (i : Int) + 13) (j := 3) (by decide) (by decide) pw
          simp [PL.run, PL.startE, PL.sq, PL.sIf, PL.sRet, PL.sSet, PL.sAsg, PL.sOwn, PL.sApp, PL.sFor, PL.sDo, PL.sDoX, PL.sSetX, PL.sRetX, PL.argX, PL.lft, PL.sNil, PL.tB', PL.tru, PL.ap1, PL.ap2, PL.apC, PL.apN, PL.lst, PL.tupE, PL.vr, PL.getC, PL.aC, PL.aN, PL.cn, PL.seqE, PL.pubE, PL.tgt_one, PL.atI_nat, PL.addD_i, PL.subD_i, PL.modD_i, PL.divD_i, PL.mulN_i, PL.mulOk_l, PL.mulOk_r, PL.ltD_i, PL.leD_i, PL.gtD_i, PL.geD_i, PL.lenD_l, PL.lenD_t, PL.intD_i, PL.maxD_i, PL.minD_i, PL.isB_b, PL.truD_b, PL.asI_i, PL.seqOf_l, PL.seqOf_t, PL.rng1_i, PL.rng2_i, hL, sz, e3, mx, y]
        · rcases List.mem_append.mp hx with hx | hx
          · exact hl.2 x hx
          · rw [List.mem_singleton.mp hx]; omega)
    ⟨_, _, [], none, none, by omega, by omega, ⟨rfl, by simp⟩, rfl⟩
  subst eρ
  refine ⟨l, hl, ?_⟩
  unfold G_law_draws b_law_draws
  have p18 := powD_i (i := 10) (j := 18) (by decide) (by decide) (by decide)
  have hr := rng1_i (j := n) (by omega) (by omega)
  rw [Int.toNat_natCast] at hr
  simp [PL.run, PL.startE, PL.sq, PL.sIf, PL.sRet, PL.sSet, PL.sAsg, PL.sOwn, PL.sApp, PL.sFor, PL.sDo, PL.sDoX, PL.sSetX, PL.sRetX, PL.argX, PL.lft, PL.sNil, PL.tB', PL.tru, PL.ap1, PL.ap2, PL.apC, PL.apN, PL.lst, PL.tupE, PL.vr, PL.getC, PL.aC, PL.aN, PL.cn, PL.seqE, PL.pubE, PL.tgt_one, PL.atI_nat, PL.addD_i, PL.subD_i, PL.modD_i, PL.divD_i, PL.mulN_i, PL.mulOk_l, PL.mulOk_r, PL.ltD_i, PL.leD_i, PL.gtD_i, PL.geD_i, PL.lenD_l, PL.lenD_t, PL.intD_i, PL.maxD_i, PL.minD_i, PL.isB_b, PL.truD_b, PL.asI_i, PL.seqOf_l, PL.seqOf_t, PL.rng1_i, PL.rng2_i, p18, hr, e]
/-! forms: what is so -/
theorem isi_int (i : Int) : isiD "int" (.int i) = .ok (.bool true) := rfl
theorem isi_bool (i : Int) : isiD "bool" (.int i) = .ok (.bool false) := rfl
theorem isi_boolB (b : Bool) : isiD "bool" (.bool b) = .ok (.bool true) := rfl
theorem isi_str (x : Str) : isiD "str" (.str x) = .ok (.bool true) := rfl
theorem isi_tup (x : List PyData) : isiD "tuple" (.tuple x) = .ok (.bool true) := rfl
theorem is_integer (i a b : Int) : G_is_integer [.int i, .int a, .int b] = .ok (.bool (decide (a ≤ i) && decide (i ≤ b))) := by
  unfold G_is_integer b_is_integer
  by_cases h : a ≤ i <;> simp [PL.run, PL.startE, PL.sq, PL.sIf, PL.sRet, PL.sSet, PL.sAsg, PL.sOwn, PL.sApp, PL.sFor, PL.sDo, PL.sDoX, PL.sSetX, PL.sRetX, PL.argX, PL.lft, PL.sNil, PL.tB', PL.tru, PL.ap1, PL.ap2, PL.apC, PL.apN, PL.lst, PL.tupE, PL.vr, PL.getC, PL.aC, PL.aN, PL.cn, PL.seqE, PL.pubE, PL.tgt_one, PL.atI_nat, PL.addD_i, PL.subD_i, PL.modD_i, PL.divD_i, PL.mulN_i, PL.mulOk_l, PL.mulOk_r, PL.ltD_i, PL.leD_i, PL.gtD_i, PL.geD_i, PL.lenD_l, PL.lenD_t, PL.intD_i, PL.maxD_i, PL.minD_i, PL.isB_b, PL.truD_b, PL.asI_i, PL.seqOf_l, PL.seqOf_t, PL.rng1_i, PL.rng2_i, isi_int, isi_bool, andV, notV, chain, h]
theorem is_number (i n : Int) : G_is_number [.int i, .int n] = .ok (.bool (decide (0 ≤ i) && decide (i ≤ n - 1))) := by
  unfold G_is_number b_is_number
  simp [PL.run, PL.startE, PL.sq, PL.sIf, PL.sRet, PL.sSet, PL.sAsg, PL.sOwn, PL.sApp, PL.sFor, PL.sDo, PL.sDoX, PL.sSetX, PL.sRetX, PL.argX, PL.lft, PL.sNil, PL.tB', PL.tru, PL.ap1, PL.ap2, PL.apC, PL.apN, PL.lst, PL.tupE, PL.vr, PL.getC, PL.aC, PL.aN, PL.cn, PL.seqE, PL.pubE, PL.tgt_one, PL.atI_nat, PL.addD_i, PL.subD_i, PL.modD_i, PL.divD_i, PL.mulN_i, PL.mulOk_l, PL.mulOk_r, PL.ltD_i, PL.leD_i, PL.gtD_i, PL.geD_i, PL.lenD_l, PL.lenD_t, PL.intD_i, PL.maxD_i, PL.minD_i, PL.isB_b, PL.truD_b, PL.asI_i, PL.seqOf_l, PL.seqOf_t, PL.rng1_i, PL.rng2_i, is_integer]
theorem eqD_i (i j : Int) : eqD (.int i) (.int j) = .ok (.bool (decide (i = j))) := by
  have : (i == j) = decide (i = j) := by by_cases h : i = j <;> simp [h]
  unfold eqD shallow
  simp [nod, PyData.depth, PyData.eqv, this]
theorem neD_i (i j : Int) : neD (.int i) (.int j) = .ok (.bool (!decide (i = j))) := by
  have : (i == j) = decide (i = j) := by by_cases h : i = j <;> simp [h]
  unfold neD shallow
  simp [nod, PyData.depth, PyData.eqv, this]
theorem is_row (ds : List PyData) (n : Int) : G_is_row [.tuple ds, .int n] = .ok (.bool (decide ((ds.length : Int) = n))) := by
  unfold G_is_row b_is_row
  simp [PL.run, PL.startE, PL.sq, PL.sIf, PL.sRet, PL.sSet, PL.sAsg, PL.sOwn, PL.sApp, PL.sFor, PL.sDo, PL.sDoX, PL.sSetX, PL.sRetX, PL.argX, PL.lft, PL.sNil, PL.tB', PL.tru, PL.ap1, PL.ap2, PL.apC, PL.apN, PL.lst, PL.tupE, PL.vr, PL.getC, PL.aC, PL.aN, PL.cn, PL.seqE, PL.pubE, PL.tgt_one, PL.atI_nat, PL.addD_i, PL.subD_i, PL.modD_i, PL.divD_i, PL.mulN_i, PL.mulOk_l, PL.mulOk_r, PL.ltD_i, PL.leD_i, PL.gtD_i, PL.geD_i, PL.lenD_l, PL.lenD_t, PL.intD_i, PL.maxD_i, PL.minD_i, PL.isB_b, PL.truD_b, PL.asI_i, PL.seqOf_l, PL.seqOf_t, PL.rng1_i, PL.rng2_i, isi_tup, andV, eqD_i]
/-- a person or a group -/
def WhoOk (people : Int) (d : PyData) : Prop := (∃ i, 0 ≤ i ∧ i < people ∧ d = .tuple [.str "p", .int i]) ∨ (∃ j, 0 ≤ j ∧ j < 3 ∧ d = .tuple [.str "g", .int j])
theorem who (d people : Int) (h : 1 ≤ people) : ∃ w, WhoOk people w ∧ G_law_who [.int d, .int people] = .ok w := by
  by_cases hp : d % (people + 3) < people
  · have h3 : 0 < people + 3 := by omega
    refine ⟨.tuple [.str "p", .int (d % (people + 3))], .inl ⟨_, Int.emod_nonneg _ (by omega), hp, rfl⟩, ?_⟩
    unfold G_law_who b_law_who
    simp [PL.run, PL.startE, PL.sq, PL.sIf, PL.sRet, PL.sSet, PL.sAsg, PL.sOwn, PL.sApp, PL.sFor, PL.sDo, PL.sDoX, PL.sSetX, PL.sRetX, PL.argX, PL.lft, PL.sNil, PL.tB', PL.tru, PL.ap1, PL.ap2, PL.apC, PL.apN, PL.lst, PL.tupE, PL.vr, PL.getC, PL.aC, PL.aN, PL.cn, PL.seqE, PL.pubE, PL.tgt_one, PL.atI_nat, PL.addD_i, PL.subD_i, PL.modD_i, PL.divD_i, PL.mulN_i, PL.mulOk_l, PL.mulOk_r, PL.ltD_i, PL.leD_i, PL.gtD_i, PL.geD_i, PL.lenD_l, PL.lenD_t, PL.intD_i, PL.maxD_i, PL.minD_i, PL.isB_b, PL.truD_b, PL.asI_i, PL.seqOf_l, PL.seqOf_t, PL.rng1_i, PL.rng2_i, hp, h3]
  · refine ⟨.tuple [.str "g", .int (d % (people + 3) - people)], .inr ⟨_, by omega, ?_, rfl⟩, ?_⟩
    · have h3 : 0 < people + 3 := by omega
      have := Int.emod_lt_of_pos d h3
      omega
    · have h3 : 0 < people + 3 := by omega
      unfold G_law_who b_law_who
      simp [PL.run, PL.startE, PL.sq, PL.sIf, PL.sRet, PL.sSet, PL.sAsg, PL.sOwn, PL.sApp, PL.sFor, PL.sDo, PL.sDoX, PL.sSetX, PL.sRetX, PL.argX, PL.lft, PL.sNil, PL.tB', PL.tru, PL.ap1, PL.ap2, PL.apC, PL.apN, PL.lst, PL.tupE, PL.vr, PL.getC, PL.aC, PL.aN, PL.cn, PL.seqE, PL.pubE, PL.tgt_one, PL.atI_nat, PL.addD_i, PL.subD_i, PL.modD_i, PL.divD_i, PL.mulN_i, PL.mulOk_l, PL.mulOk_r, PL.ltD_i, PL.leD_i, PL.gtD_i, PL.geD_i, PL.lenD_l, PL.lenD_t, PL.intD_i, PL.maxD_i, PL.minD_i, PL.isB_b, PL.truD_b, PL.asI_i, PL.seqOf_l, PL.seqOf_t, PL.rng1_i, PL.rng2_i, hp, h3]
theorem inD_strs {x : Str} {xs : List Str} : inD (.str x) (.tuple (xs.map .str)) = .ok (.bool (xs.contains x)) := by
  have dp : ∀ xs : List Str, PyData.depthAll (xs.map .str) ≤ 1 := by
    intro xs
    induction xs with
    | nil => simp [PyData.depthAll]
    | cons a r ih => simp [PyData.depthAll, PyData.depth, ih] <;> omega
  have nd : ∀ xs : List Str, nodAll (xs.map .str) = true := by
    intro xs
    induction xs with
    | nil => rfl
    | cons a r ih => simp [nodAll, nod, ih]
  have e : ∀ xs : List Str, (xs.map PyData.str).any (fun z => PyData.eqv z (.str x)) = xs.contains x := by
    intro xs
    induction xs with
    | nil => rfl
    | cons a r ih =>
      rw [List.map_cons, List.any_cons, ih, List.contains_cons]
      congr 1
      simp only [PyData.eqv]
      by_cases c : a = x
      · subst c; rfl
      · rw [beq_eq_false_iff_ne.mpr c, beq_eq_false_iff_ne.mpr (Ne.symm c)]
  show (if _ then _ else _) = _
  rw [if_pos ⟨by have := dp xs; omega, nd xs, rfl⟩, e]
theorem is_word (x : Str) (xs : List Str) : G_is_word [.str x, .tuple (xs.map .str)] = .ok (.bool (xs.contains x)) := by
  unfold G_is_word b_is_word
  simp [PL.run, PL.startE, PL.sq, PL.sIf, PL.sRet, PL.sSet, PL.sAsg, PL.sOwn, PL.sApp, PL.sFor, PL.sDo, PL.sDoX, PL.sSetX, PL.sRetX, PL.argX, PL.lft, PL.sNil, PL.tB', PL.tru, PL.ap1, PL.ap2, PL.apC, PL.apN, PL.lst, PL.tupE, PL.vr, PL.getC, PL.aC, PL.aN, PL.cn, PL.seqE, PL.pubE, PL.tgt_one, PL.atI_nat, PL.addD_i, PL.subD_i, PL.modD_i, PL.divD_i, PL.mulN_i, PL.mulOk_l, PL.mulOk_r, PL.ltD_i, PL.leD_i, PL.gtD_i, PL.geD_i, PL.lenD_l, PL.lenD_t, PL.intD_i, PL.maxD_i, PL.minD_i, PL.isB_b, PL.truD_b, PL.asI_i, PL.seqOf_l, PL.seqOf_t, PL.rng1_i, PL.rng2_i, isi_str, andV, inD_strs]
theorem is_who {people : Int} {w : PyData} (h : WhoOk people w) : G_is_who [w, .int people] = .ok (.bool true) := by
  rcases h with ⟨i, h0, h1, rfl⟩ | ⟨j, h0, h1, rfl⟩
  · have e1 := is_row [.str "p", .int i] 2
    have e2 : G_is_word [.str "p", .tuple [.str "p"]] = .ok (.bool true) := is_word "p" ["p"]
    have e3 : i ≤ people - 1 := by omega
    unfold G_is_who b_is_who
    simp [PL.run, PL.startE, PL.sq, PL.sIf, PL.sRet, PL.sSet, PL.sAsg, PL.sOwn, PL.sApp, PL.sFor, PL.sDo, PL.sDoX, PL.sSetX, PL.sRetX, PL.argX, PL.lft, PL.sNil, PL.tB', PL.tru, PL.ap1, PL.ap2, PL.apC, PL.apN, PL.lst, PL.tupE, PL.vr, PL.getC, PL.aC, PL.aN, PL.cn, PL.seqE, PL.pubE, PL.tgt_one, PL.atI_nat, PL.addD_i, PL.subD_i, PL.modD_i, PL.divD_i, PL.mulN_i, PL.mulOk_l, PL.mulOk_r, PL.ltD_i, PL.leD_i, PL.gtD_i, PL.geD_i, PL.lenD_l, PL.lenD_t, PL.intD_i, PL.maxD_i, PL.minD_i, PL.isB_b, PL.truD_b, PL.asI_i, PL.seqOf_l, PL.seqOf_t, PL.rng1_i, PL.rng2_i, e1, tNot', tgt, setAll, e2, is_number, h0, e3]
  · have e1 := is_row [.str "g", .int j] 2
    have e2 : G_is_word [.str "g", .tuple [.str "p"]] = .ok (.bool false) := is_word "g" ["p"]
    have e3 : G_is_word [.str "g", .tuple [.str "g"]] = .ok (.bool true) := is_word "g" ["g"]
    have e4 : j ≤ 3 - 1 := by omega
    unfold G_is_who b_is_who
    simp [PL.run, PL.startE, PL.sq, PL.sIf, PL.sRet, PL.sSet, PL.sAsg, PL.sOwn, PL.sApp, PL.sFor, PL.sDo, PL.sDoX, PL.sSetX, PL.sRetX, PL.argX, PL.lft, PL.sNil, PL.tB', PL.tru, PL.ap1, PL.ap2, PL.apC, PL.apN, PL.lst, PL.tupE, PL.vr, PL.getC, PL.aC, PL.aN, PL.cn, PL.seqE, PL.pubE, PL.tgt_one, PL.atI_nat, PL.addD_i, PL.subD_i, PL.modD_i, PL.divD_i, PL.mulN_i, PL.mulOk_l, PL.mulOk_r, PL.ltD_i, PL.leD_i, PL.gtD_i, PL.geD_i, PL.lenD_l, PL.lenD_t, PL.intD_i, PL.maxD_i, PL.minD_i, PL.isB_b, PL.truD_b, PL.asI_i, PL.seqOf_l, PL.seqOf_t, PL.rng1_i, PL.rng2_i, e1, tNot', tgt, setAll, e2, e3, andV, is_number, h0]
    omega
/-- an entry, a member -/
def EntOk (people folders : Int) (d : PyData) : Prop := ∃ f w k, 0 ≤ f ∧ f < folders ∧ WhoOk people w ∧ (k = ("allow" : Str) ∨ k = ("bar" : Str)) ∧ d = .tuple [.int f, w, .str k]
def MemOk (people : Int) (d : PyData) : Prop := ∃ g w, 0 ≤ g ∧ g < 3 ∧ WhoOk people w ∧ d = .tuple [.int g, w]
theorem is_entry {people folders : Int} {d : PyData} (h : EntOk people folders d) : G_is_entry [d, .int people, .int folders] = .ok (.bool true) := by
  obtain ⟨f, w, k, h0, h1, hw, hk, rfl⟩ := h
  have e1 := is_row [.int f, w, .str k] 3
  have e2 : f ≤ folders - 1 := by omega
  have e3 : G_is_word [.str k, c_KINDS] = .ok (.bool true) := by
    have := is_word k ["allow", "bar"]
    rcases hk with rfl | rfl
    · exact this
    · exact this
  unfold G_is_entry b_is_entry
  simp [PL.run, PL.startE, PL.sq, PL.sIf, PL.sRet, PL.sSet, PL.sAsg, PL.sOwn, PL.sApp, PL.sFor, PL.sDo, PL.sDoX, PL.sSetX, PL.sRetX, PL.argX, PL.lft, PL.sNil, PL.tB', PL.tru, PL.ap1, PL.ap2, PL.apC, PL.apN, PL.lst, PL.tupE, PL.vr, PL.getC, PL.aC, PL.aN, PL.cn, PL.seqE, PL.pubE, PL.tgt_one, PL.atI_nat, PL.addD_i, PL.subD_i, PL.modD_i, PL.divD_i, PL.mulN_i, PL.mulOk_l, PL.mulOk_r, PL.ltD_i, PL.leD_i, PL.gtD_i, PL.geD_i, PL.lenD_l, PL.lenD_t, PL.intD_i, PL.maxD_i, PL.minD_i, PL.isB_b, PL.truD_b, PL.asI_i, PL.seqOf_l, PL.seqOf_t, PL.rng1_i, PL.rng2_i, e1, tNot', tgt, setAll, andV, is_number, h0, e2, is_who hw, e3]
theorem is_member {people : Int} {d : PyData} (h : MemOk people d) : G_is_member [d, .int people] = .ok (.bool true) := by
  obtain ⟨g, w, h0, h1, hw, rfl⟩ := h
  have e1 := is_row [.int g, w] 2
  have e2 : g ≤ 2 := by omega
  unfold G_is_member b_is_member
  simp [PL.run, PL.startE, PL.sq, PL.sIf, PL.sRet, PL.sSet, PL.sAsg, PL.sOwn, PL.sApp, PL.sFor, PL.sDo, PL.sDoX, PL.sSetX, PL.sRetX, PL.argX, PL.lft, PL.sNil, PL.tB', PL.tru, PL.ap1, PL.ap2, PL.apC, PL.apN, PL.lst, PL.tupE, PL.vr, PL.getC, PL.aC, PL.aN, PL.cn, PL.seqE, PL.pubE, PL.tgt_one, PL.atI_nat, PL.addD_i, PL.subD_i, PL.modD_i, PL.divD_i, PL.mulN_i, PL.mulOk_l, PL.mulOk_r, PL.ltD_i, PL.leD_i, PL.gtD_i, PL.geD_i, PL.lenD_l, PL.lenD_t, PL.intD_i, PL.maxD_i, PL.minD_i, PL.isB_b, PL.truD_b, PL.asI_i, PL.seqOf_l, PL.seqOf_t, PL.rng1_i, PL.rng2_i, e1, tNot', tgt, setAll, andV, is_number, h0, is_who hw, e2]
/-! all([..]) of true things -/
theorem bools_true : ∀ ds : List PyData, (∀ d ∈ ds, d = .bool true) → bools ds = .ok (ds.map fun _ => true)
  | [], _ => rfl
  | d :: r, h => by
    rw [h d List.mem_cons_self]
    show (bools r).bnd _ = _
    rw [bools_true r fun x hx => h x (List.mem_cons_of_mem _ hx)]
    rfl
theorem allD_true (n : List PyData) : allD [.list (n.map fun _ => .bool true)] = .ok (.bool true) := by
  show (bools _).bnd _ = _
  rw [bools_true _ (by simp)]
  simp
/-- all([f(d) for d in ds]), each true -/
theorem comp_all {t : Tg} {elt : Ev → Rs PyData} {ρ : Ev} {to : PyData → Ev} {ds : List PyData} (h : ∀ d ∈ ds, tgt t d ρ = .ok (to d) ∧ elt (to d) = .ok (.bool true)) : compL t noIf elt ρ ds = .ok (ds.map fun _ => .bool true) := by
  have := compL_map (enc := fun d : PyData => d) (out := fun _ => .bool true) (to := to) (ρ := ρ) (t := t) (elt := elt) ds h
  rw [List.map_id'] at this
  exact this
theorem is_shut {bs : List Bool} {n : Int} (h : (bs.length : Int) = n) : G_is_shut [.tuple (bs.map .bool), .int n] = .ok (.bool true) := by
  have e1 := is_row (bs.map .bool) n
  have e2 : ∀ ρ : Ev, ρ.length = 3 → compL (.one 2) noIf is_shut_e1 ρ (bs.map .bool) = .ok (bs.map fun _ => .bool true) := fun ρ hρ => by
    refine compL_map (to := fun b => ρ.set 2 (some (.pub (.bool b)))) bs fun b _ => ⟨rfl, ?_⟩
    have : getC (ρ.set 2 (some (.pub (.bool b)))) 2 = some (.pub (.bool b)) := getC_iff.mpr (List.getElem?_set_self (by omega))
    unfold is_shut_e1
    simp [ap1, vr, this, isi_boolB]
  have e3 : allD [.list (bs.map fun _ => .bool true)] = .ok (.bool true) := by
    have := allD_true (bs.map .bool)
    rwa [List.map_map] at this
  unfold G_is_shut b_is_shut
  simp [PL.run, PL.startE, PL.sq, PL.sIf, PL.sRet, PL.sSet, PL.sAsg, PL.sOwn, PL.sApp, PL.sFor, PL.sDo, PL.sDoX, PL.sSetX, PL.sRetX, PL.argX, PL.lft, PL.sNil, PL.tB', PL.tru, PL.ap1, PL.ap2, PL.apC, PL.apN, PL.lst, PL.tupE, PL.vr, PL.getC, PL.aC, PL.aN, PL.cn, PL.seqE, PL.pubE, PL.tgt_one, PL.atI_nat, PL.addD_i, PL.subD_i, PL.modD_i, PL.divD_i, PL.mulN_i, PL.mulOk_l, PL.mulOk_r, PL.ltD_i, PL.leD_i, PL.gtD_i, PL.geD_i, PL.lenD_l, PL.lenD_t, PL.intD_i, PL.maxD_i, PL.minD_i, PL.isB_b, PL.truD_b, PL.asI_i, PL.seqOf_l, PL.seqOf_t, PL.rng1_i, PL.rng2_i, e1, h, andV, comp, wipeE, e2, e3]
/-! ascending rows -/
def Asc (ds : List PyData) : Prop := ∀ k a b, ds[k]? = some a → ds[k + 1]? = some b → ltD a b = .ok (.bool true)
theorem rangeL_one (n : Nat) : rangeL 1 n = (List.range n).map fun k : Nat => PyData.int (((k + 1 : Nat) : Int)) := by
  unfold rangeL
  refine List.map_congr_left fun k _ => ?_
  show PyData.int (1 + (k : Int)) = _
  congr 1; omega
theorem ascends_core (x : PyData) (ds : List PyData) (hx : x = .list ds ∨ x = .tuple ds) (h : Asc ds) (hz : ds.length ≤ 1000) : G_ascends [x] = .ok (.bool true) := by
  have hl : lenD [x] = .ok (.int ds.length) := by rcases hx with rfl | rfl <;> rfl
  have hi : ∀ (k : Nat) d, ds[k]? = some d → ixD x (.int k) = .ok d := fun k d e => by
    rcases hx with rfl | rfl
    · exact ixD_l (by rw [PL.atI_nat]; exact e)
    · exact ixD_t (by rw [PL.atI_nat]; exact e)
  have hr : rng2 [.int 1, .int ds.length] = .ok (rangeL 1 (ds.length - 1)) := by
    rw [rng2_i (by decide) (by decide) (by omega) (by omega) (by omega), show ((ds.length : Int) - 1).toNat = ds.length - 1 by omega]
  have e2 : compL (.one 1) noIf ascends_e1 [some (.pub x), none] (rangeL 1 (ds.length - 1)) = .ok ((List.range (ds.length - 1)).map fun _ => .bool true) := by
    rw [rangeL_one]
    refine compL_map (to := fun k => [some (.pub x), some (.pub (.int ((k + 1 : Nat) : Int)))]) _ fun k hk => ⟨rfl, ?_⟩
    have hk' : k < ds.length - 1 := List.mem_range.mp hk
    have g1 := hi k ds[k] (List.getElem?_eq_getElem (by omega))
    have g2 := hi (k + 1) ds[k + 1] (List.getElem?_eq_getElem (by omega))
    have g3 := h k _ _ (List.getElem?_eq_getElem (show k < ds.length by omega)) (List.getElem?_eq_getElem (show k + 1 < ds.length by omega))
    unfold ascends_e1
    have e0 : ((k + 1 : Nat) : Int) - 1 = k := by omega
    simp only [ap2, vr, getC, cn, Rs.bnd_ok, subD_i, e0, g1, g2, g3]
  have e3 : allD [.list ((List.range (ds.length - 1)).map fun _ => .bool true)] = .ok (.bool true) := by
    have := allD_true ((List.range (ds.length - 1)).map fun _ => .none)
    rwa [List.map_map] at this
  unfold G_ascends b_ascends
  simp [PL.run, startE, sq, sRet, sNil, apC, apN, lst, vr, getC, aC, aN, cn, hl, hr, comp, wipeE, e2, e3]
/-! the tree of folders -/
structure Tree (ps : List Int) : Prop where
  len : ps.length ≤ 5
  ord : ∃ o : List Int, o.length = ps.length + 1 ∧ o[0]? = some 0 ∧ (∀ f : Int, 0 ≤ f → f ≤ ps.length → ∃ j, j ≤ ps.length ∧ o[j]? = some f) ∧
    ∀ (j : Nat) f, 1 ≤ j → o[j]? = some f → 1 ≤ f ∧ f ≤ ps.length ∧ ∃ (j' : Nat) (p : Int), j' < j ∧ o[j']? = some p ∧ ps[(f - 1).toNat]? = some p
  rng : ∀ p ∈ ps, 0 ≤ p ∧ p ≤ ps.length
/-! entries -/
def pairOf : PyData → PyData
  | .tuple [f, w, _] => .tuple [f, w]
  | d => d
theorem is_entries {people folders : Int} {es : List PyData} (h : ∀ d ∈ es, EntOk people folders d) (hz : es.length ≤ 12) (ha : Asc (es.map pairOf)) : G_is_entries [.tuple es, .int people, .int folders] = .ok (.bool true) := by
  have e1 : compL (.one 3) noIf is_entries_e2 [some (.pub (.tuple es)), some (.pub (.int people)), some (.pub (.int folders)), none, none, none, none] es = .ok (es.map fun _ => .bool true) := by
    refine comp_all (to := fun d => [some (.pub (.tuple es)), some (.pub (.int people)), some (.pub (.int folders)), some (.pub d), none, none, none]) fun d hd => ⟨rfl, ?_⟩
    unfold is_entries_e2
    simp only [apC, aC, aN, vr, getC, Rs.bnd_ok, is_entry (h d hd)]
  have e2 : compL (.many [4, 5, 6]) noIf is_entries_e1 [some (.pub (.tuple es)), some (.pub (.int people)), some (.pub (.int folders)), none, none, none, none] es = .ok (es.map pairOf) := by
    have := compL_map (enc := fun d : PyData => d) (out := pairOf) (t := .many [4, 5, 6]) (elt := is_entries_e1) (ρ := [some (.pub (.tuple es)), some (.pub (.int people)), some (.pub (.int folders)), none, none, none, none])
      (to := fun d => match d with | .tuple [f, w, k] => [some (.pub (.tuple es)), some (.pub (.int people)), some (.pub (.int folders)), none, some (.pub f), some (.pub w), some (.pub k)] | _ => []) es (fun d hd => by
        obtain ⟨f, w, k, _, _, _, _, rfl⟩ := h d hd
        exact ⟨rfl, rfl⟩)
    rw [List.map_id'] at this
    exact this
  have e3 : allD [.list (es.map fun _ => .bool true)] = .ok (.bool true) := allD_true es
  have e4 : ¬ (12 : Int) < es.length := by omega
  have e5 := ascends_core (.list (es.map pairOf)) (es.map pairOf) (.inl rfl) ha (by rw [List.length_map]; omega)
  unfold G_is_entries b_is_entries
  simp [PL.run, PL.startE, PL.sq, PL.sIf, PL.sRet, PL.sSet, PL.sAsg, PL.sOwn, PL.sApp, PL.sFor, PL.sDo, PL.sDoX, PL.sSetX, PL.sRetX, PL.argX, PL.lft, PL.sNil, PL.tB', PL.tru, PL.ap1, PL.ap2, PL.apC, PL.apN, PL.lst, PL.tupE, PL.vr, PL.getC, PL.aC, PL.aN, PL.cn, PL.seqE, PL.pubE, PL.tgt_one, PL.atI_nat, PL.addD_i, PL.subD_i, PL.modD_i, PL.divD_i, PL.mulN_i, PL.mulOk_l, PL.mulOk_r, PL.ltD_i, PL.leD_i, PL.gtD_i, PL.geD_i, PL.lenD_l, PL.lenD_t, PL.intD_i, PL.maxD_i, PL.minD_i, PL.isB_b, PL.truD_b, PL.asI_i, PL.seqOf_l, PL.seqOf_t, PL.rng1_i, PL.rng2_i, isi_tup, tOr', tNot', comp, wipeE, e1, e2, e3, e4, e5]
/-! groups of a group, where there is no ring -/
theorem nodup_le : ∀ (n : Nat) (l : List Int), l.Nodup → (∀ x ∈ l, 0 ≤ x ∧ x < n) → l.length ≤ n
  | 0, l, _, h => by
    cases l with
    | nil => exact Nat.le_refl _
    | cons a r => have := h a List.mem_cons_self; omega
  | n + 1, l, hn, h => by
    have h1 := nodup_le n (l.filter fun x : Int => decide (x ≠ (n : Int))) (hn.filter _) fun x hx => by
      obtain ⟨h1, h2⟩ := List.mem_filter.mp hx
      have h3 := h x h1
      have h4 : x ≠ n := by simpa using h2
      omega
    have h2 : l.length ≤ (l.filter fun x : Int => decide (x ≠ (n : Int))).length + 1 := by
      have : ∀ l : List Int, l.Nodup → l.length ≤ (l.filter fun x : Int => decide (x ≠ (n : Int))).length + 1 := by
        intro l
        induction l with
        | nil => intro _; simp
        | cons a r ih =>
          intro hn
          obtain ⟨h3, h4⟩ := List.nodup_cons.mp hn
          by_cases e : a = n
          · have : r.filter (fun x : Int => decide (x ≠ (n : Int))) = r := List.filter_eq_self.mpr fun x hx => by
              have : x ≠ n := fun z => h3 (by rw [e, ← z]; exact hx)
              simpa using this
            rw [List.filter_cons, if_neg (by simp [e]), this, List.length_cons]
            exact Nat.le_refl _
          · rw [List.filter_cons, if_pos (by simpa using e), List.length_cons, List.length_cons]
            have := ih h4
            omega
      exact this l hn
    omega
theorem who_depth {people : Int} {w : PyData} (h : WhoOk people w) : w.depth ≤ 3 ∧ nod w = true := by
  rcases h with ⟨i, _, _, rfl⟩ | ⟨i, _, _, rfl⟩ <;> simp [PyData.depth, PyData.depthAll, nod, nodAll]
theorem eq_who {people : Int} {w : PyData} (h : WhoOk people w) (g : Int) : ∃ b, eqD w (.tuple [.str "g", .int g]) = .ok (.bool b) ∧ (b = true ↔ w = .tuple [.str "g", .int g]) := by
  obtain ⟨h1, h2⟩ := who_depth h
  have h3 : shallow w (.tuple [.str "g", .int g]) = true := by
    unfold shallow
    rw [h2]
    simp [nod, nodAll]
    omega
  refine ⟨PyData.eqv w (.tuple [.str "g", .int g]), by unfold eqD; rw [if_pos h3], ?_⟩
  rcases h with ⟨i, _, _, rfl⟩ | ⟨i, _, _, rfl⟩
  · have n : ("p" : Str) ≠ ("g" : Str) := by decide +kernel
    simp [PyData.eqv, PyData.eqvAll, n]
  · simp [PyData.eqv, PyData.eqvAll]
/-- the members' groups go down -/
def Down (rank : Int → Nat) (ms : List PyData) : Prop := ∀ a b, .tuple [.int a, .tuple [.str "g", .int b]] ∈ ms → rank a < rank b
theorem depth_ints (l : List Int) : PyData.depthAll (l.map .int) = 0 := PySem.W.depth_ints l
theorem nod_ints : ∀ l : List Int, nodAll (l.map .int) = true
  | [] => rfl
  | _ :: r => by rw [List.map_cons, nodAll, nod_ints r]; rfl
theorem any_ints (a : Int) : ∀ l : List Int, (l.map PyData.int).any (fun z => PyData.eqv z (.int a)) = decide (a ∈ l)
  | [] => by simp
  | b :: r => by
    rw [List.map_cons, List.any_cons, any_ints a r]
    by_cases h : b = a
    · subst h; simp [PyData.eqv]
    · have : ¬ a = b := fun z => h z.symm
      simp [PyData.eqv, h, this]
theorem nin_ints (a : Int) (l : List Int) : ninD (.int a) (.list (l.map .int)) = .ok (.bool (!decide (a ∈ l))) := by
  show (if _ then _ else _) = _
  rw [if_pos ⟨by rw [depth_ints]; omega, nod_ints l, rfl⟩, any_ints]
theorem sorted_ints (l : List Int) : ∃ ds, sortedN [.list (l.map .int)] = .ok ds ∧ ∀ d ∈ ds, ∃ x, d = .int x ∧ x ∈ l := by
  refine ⟨sortD (l.map .int), ?_, fun d hd => ?_⟩
  · show (if _ then _ else _) = _
    rw [if_pos]
    unfold sortOk allAlike
    simp [isFlat, nod, PyData.depth, PySem.W.alike]
  · unfold sortD at hd
    rw [List.mem_mergeSort] at hd
    obtain ⟨x, hx, e⟩ := List.mem_map.mp hd
    exact ⟨x, e.symm, hx⟩
theorem grp {people : Int} {ms : List PyData} {rank : Int → Nat} (hm : ∀ d ∈ ms, MemOk people d) (hr : Down rank ms) (hz : ms.length ≤ 1000) (g : Int) : ∃ ds : List PyData, G_groups_of [.tuple ms, .tuple [.str "g", .int g], .bool true] = .ok (.tuple ds) ∧ ∀ d ∈ ds, ∃ x, d = .int x ∧ rank x < rank g := by
  -- the first ones
  obtain ⟨ys, y1, y2, y3⟩ := compL_ex (t := .many [5, 6]) (cond := groups_of_c5) (elt := groups_of_e4) (ρ := [some (.pub (.tuple ms)), some (.pub (.tuple [.str "g", .int g])), some (.pub (.bool true)), none, none, none, none]) (fun y => ∃ x, y = .int x ∧ 0 ≤ x ∧ x < 3 ∧ rank x < rank g) ms (fun d hd => by
    obtain ⟨a, w, a0, a1, hw, rfl⟩ := hm d hd
    obtain ⟨b, e1, e2⟩ := eq_who hw g
    refine ⟨[some (.pub (.tuple ms)), some (.pub (.tuple [.str "g", .int g])), some (.pub (.bool true)), none, none, some (.pub (.int a)), some (.pub w)], b, rfl, ?_, fun hb => ⟨.int a, rfl, a, rfl, a0, a1, ?_⟩⟩
    · unfold groups_of_c5
      simp only [tB', ap2, vr, getC, Rs.bnd_ok, e1, isB_b]
    · have := e2.mp hb
      subst this
      exact hr a g hd)
  obtain ⟨l0, hl0, el0⟩ : ∃ l0 : List Int, (∀ x ∈ l0, 0 ≤ x ∧ x < 3 ∧ rank x < rank g) ∧ ys = l0.map .int := by
    clear y1 y3
    induction ys with
    | nil => exact ⟨[], by simp, rfl⟩
    | cons y r ih =>
      obtain ⟨x, rfl, hx⟩ := y2 y List.mem_cons_self
      obtain ⟨l, h1, rfl⟩ := ih fun z hz => y2 z (List.mem_cons_of_mem _ hz)
      exact ⟨x :: l, fun z hz => by
        rcases List.mem_cons.mp hz with rfl | hz
        · exact hx
        · exact h1 z hz, rfl⟩
  subst el0
  let St : List Int → Nat → Option Cell → Option Cell → Ev := fun l k c d => [some (.pub (.tuple ms)), some (.pub (.tuple [.str "g", .int g])), some (.pub (.bool true)), some (.own (l.map .int)), some (.pub (.int k)), c, d]
  let Good : List Int → Prop := fun l => (∀ x ∈ l, 0 ≤ x ∧ x < 3 ∧ rank x < rank g) ∧ ∃ l1 : List Int, l = l0 ++ l1 ∧ l1.Nodup
  have glen : ∀ l, Good l → l.length ≤ l0.length + 3 := fun l ⟨h1, l1, e, hn⟩ => by
    have := nodup_le 3 l1 hn fun x hx => by
      have := h1 x (by rw [e]; exact List.mem_append_right _ hx)
      omega
    rw [e, List.length_append]; omega
  rw [List.length_map] at y3
  -- a turn of the loop
  have turn : ∀ (l : List Int) (k : Nat) (c d : Option Cell), Good l → k < l.length → ∃ l' c' d', groups_of_w2 (St l k c d) = .ok (.nx (St l' (k + 1) c' d')) ∧ Good l' ∧ l.length ≤ l'.length := by
    intro l k c d hg hk
    let I : Nat → Ev → Prop := fun _ ρ => ∃ l' c' d', Good l' ∧ (∃ l2, l' = l ++ l2) ∧ ρ = St l' k c' d'
    obtain ⟨ρ', e, l', c', d', hg', ⟨l2, el2⟩, eρ⟩ := forL_inv (t := .many [5, 6]) (f := groups_of_f1) I ms 0 (St l k c d) (fun i m ρ hi ⟨l', c', d', hg', ⟨l2, el2⟩, eρ⟩ => by
      subst eρ
      have hd : m ∈ ms := List.mem_of_getElem? hi
      obtain ⟨a, w, a0, a1, hw, rfl⟩ := hm m hd
      have hk' : k < l'.length := by rw [el2, List.length_append]; omega
      obtain ⟨b, e1, e2⟩ := eq_who hw l'[k]
      have hx : L2.atI (l'.map PyData.int) k = some (.int l'[k]) := by rw [PL.atI_nat]; simp [hk']
      have le := glen l' hg'
      have sz : l'.length < sizeLine := by rw [sizeLine_eq]; omega
      by_cases hb : b = true
      · have ew := e2.mp hb
        subst ew
        by_cases hin : a ∈ l'
        · refine ⟨_, St l' k (some (.pub (.int a))) (some (.pub (.tuple [.str "g", .int l'[k]]))), rfl, .inl ?_, l', _, _, hg', ⟨l2, el2⟩, rfl⟩
          unfold groups_of_f1
          simp [PL.run, PL.startE, PL.sq, PL.sIf, PL.sRet, PL.sSet, PL.sAsg, PL.sOwn, PL.sApp, PL.sFor, PL.sDo, PL.sDoX, PL.sSetX, PL.sRetX, PL.argX, PL.lft, PL.sNil, PL.tB', PL.tru, PL.ap1, PL.ap2, PL.apC, PL.apN, PL.lst, PL.tupE, PL.vr, PL.getC, PL.aC, PL.aN, PL.cn, PL.seqE, PL.pubE, PL.tgt_one, PL.atI_nat, PL.addD_i, PL.subD_i, PL.modD_i, PL.divD_i, PL.mulN_i, PL.mulOk_l, PL.mulOk_r, PL.ltD_i, PL.leD_i, PL.gtD_i, PL.geD_i, PL.lenD_l, PL.lenD_t, PL.intD_i, PL.maxD_i, PL.minD_i, PL.isB_b, PL.truD_b, PL.asI_i, PL.seqOf_l, PL.seqOf_t, PL.rng1_i, PL.rng2_i, tAnd', ownIx, ownL, ownV, List.getElem?_eq_getElem hk', e1, hb, nin_ints, hin, St]
        · have ra : rank a < rank g := Nat.lt_trans (hr a _ hd) (hg'.1 _ (List.getElem_mem hk')).2.2
          obtain ⟨h1, l1, h2, h3⟩ := hg'
          refine ⟨_, St (l' ++ [a]) k (some (.pub (.int a))) (some (.pub (.tuple [.str "g", .int l'[k]]))), rfl, .inl ?_, l' ++ [a], _, _, ⟨fun x hx => ?_, l1 ++ [a], by rw [h2, List.append_assoc], ?_⟩, ⟨l2 ++ [a], by rw [el2, List.append_assoc]⟩, rfl⟩
          · unfold groups_of_f1
            simp [PL.run, PL.startE, PL.sq, PL.sIf, PL.sRet, PL.sSet, PL.sAsg, PL.sOwn, PL.sApp, PL.sFor, PL.sDo, PL.sDoX, PL.sSetX, PL.sRetX, PL.argX, PL.lft, PL.sNil, PL.tB', PL.tru, PL.ap1, PL.ap2, PL.apC, PL.apN, PL.lst, PL.tupE, PL.vr, PL.getC, PL.aC, PL.aN, PL.cn, PL.seqE, PL.pubE, PL.tgt_one, PL.atI_nat, PL.addD_i, PL.subD_i, PL.modD_i, PL.divD_i, PL.mulN_i, PL.mulOk_l, PL.mulOk_r, PL.ltD_i, PL.leD_i, PL.gtD_i, PL.geD_i, PL.lenD_l, PL.lenD_t, PL.intD_i, PL.maxD_i, PL.minD_i, PL.isB_b, PL.truD_b, PL.asI_i, PL.seqOf_l, PL.seqOf_t, PL.rng1_i, PL.rng2_i, tAnd', ownIx, ownL, ownV, List.getElem?_eq_getElem hk', e1, hb, nin_ints, hin, St, sz]
          · rcases List.mem_append.mp hx with hx | hx
            · exact h1 x hx
            · rw [List.mem_singleton.mp hx]; exact ⟨a0, a1, ra⟩
          · refine List.nodup_append.mpr ⟨h3, by simp, fun x hx y hy => ?_⟩
            rw [List.mem_singleton.mp hy]
            intro z
            subst z
            exact hin (by rw [h2]; exact List.mem_append_right _ hx)
      · have hb' : b = false := by simpa using hb
        refine ⟨_, St l' k (some (.pub (.int a))) (some (.pub w)), rfl, .inl ?_, l', _, _, hg', ⟨l2, el2⟩, rfl⟩
        unfold groups_of_f1
        simp [PL.run, PL.startE, PL.sq, PL.sIf, PL.sRet, PL.sSet, PL.sAsg, PL.sOwn, PL.sApp, PL.sFor, PL.sDo, PL.sDoX, PL.sSetX, PL.sRetX, PL.argX, PL.lft, PL.sNil, PL.tB', PL.tru, PL.ap1, PL.ap2, PL.apC, PL.apN, PL.lst, PL.tupE, PL.vr, PL.getC, PL.aC, PL.aN, PL.cn, PL.seqE, PL.pubE, PL.tgt_one, PL.atI_nat, PL.addD_i, PL.subD_i, PL.modD_i, PL.divD_i, PL.mulN_i, PL.mulOk_l, PL.mulOk_r, PL.ltD_i, PL.leD_i, PL.gtD_i, PL.geD_i, PL.lenD_l, PL.lenD_t, PL.intD_i, PL.maxD_i, PL.minD_i, PL.isB_b, PL.truD_b, PL.asI_i, PL.seqOf_l, PL.seqOf_t, PL.rng1_i, PL.rng2_i, tAnd', ownIx, ownL, ownV, List.getElem?_eq_getElem hk', e1, hb', St]) ⟨l, c, d, hg, ⟨[], by simp⟩, rfl⟩
    subst eρ
    refine ⟨l', c', d', ?_, hg', by rw [el2, List.length_append]; omega⟩
    unfold groups_of_w2
    simp [PL.run, PL.startE, PL.sq, PL.sIf, PL.sRet, PL.sSet, PL.sAsg, PL.sOwn, PL.sApp, PL.sFor, PL.sDo, PL.sDoX, PL.sSetX, PL.sRetX, PL.argX, PL.lft, PL.sNil, PL.tB', PL.tru, PL.ap1, PL.ap2, PL.apC, PL.apN, PL.lst, PL.tupE, PL.vr, PL.getC, PL.aC, PL.aN, PL.cn, PL.seqE, PL.pubE, PL.tgt_one, PL.atI_nat, PL.addD_i, PL.subD_i, PL.modD_i, PL.divD_i, PL.mulN_i, PL.mulOk_l, PL.mulOk_r, PL.ltD_i, PL.leD_i, PL.gtD_i, PL.geD_i, PL.lenD_l, PL.lenD_t, PL.intD_i, PL.maxD_i, PL.minD_i, PL.isB_b, PL.truD_b, PL.asI_i, PL.seqOf_l, PL.seqOf_t, PL.rng1_i, PL.rng2_i, e, sAug, St]
  obtain ⟨ρ', w1, l, k, c, d, hg, eρ⟩ := whL_ex (g := groups_of_t3) (f := groups_of_w2) (fun m ρ => ∃ l k c d, Good l ∧ k ≤ l.length ∧ m = l0.length + 3 - k ∧ ρ = St l k c d) (fun ρ => ∃ l k c d, Good l ∧ ρ = St l k c d) (fun m ρ ⟨l, k, c, d, hg, hk, em, eρ⟩ => by
    subst eρ
    have le := glen l hg
    by_cases lt : k < l.length
    · obtain ⟨l', c', d', e, hg', hl'⟩ := turn l k c d hg lt
      refine .inr ⟨?_, _, l0.length + 3 - (k + 1), e, by omega, l', k + 1, c', d', hg', by omega, rfl, rfl⟩
      unfold groups_of_t3
      simp [PL.run, PL.startE, PL.sq, PL.sIf, PL.sRet, PL.sSet, PL.sAsg, PL.sOwn, PL.sApp, PL.sFor, PL.sDo, PL.sDoX, PL.sSetX, PL.sRetX, PL.argX, PL.lft, PL.sNil, PL.tB', PL.tru, PL.ap1, PL.ap2, PL.apC, PL.apN, PL.lst, PL.tupE, PL.vr, PL.getC, PL.aC, PL.aN, PL.cn, PL.seqE, PL.pubE, PL.tgt_one, PL.atI_nat, PL.addD_i, PL.subD_i, PL.modD_i, PL.divD_i, PL.mulN_i, PL.mulOk_l, PL.mulOk_r, PL.ltD_i, PL.leD_i, PL.gtD_i, PL.geD_i, PL.lenD_l, PL.lenD_t, PL.intD_i, PL.maxD_i, PL.minD_i, PL.isB_b, PL.truD_b, PL.asI_i, PL.seqOf_l, PL.seqOf_t, PL.rng1_i, PL.rng2_i, tAnd', ownV, ownL, flatD, St, lt]
    · refine .inl ⟨?_, l, k, c, d, hg, rfl⟩
      unfold groups_of_t3
      simp [PL.run, PL.startE, PL.sq, PL.sIf, PL.sRet, PL.sSet, PL.sAsg, PL.sOwn, PL.sApp, PL.sFor, PL.sDo, PL.sDoX, PL.sSetX, PL.sRetX, PL.argX, PL.lft, PL.sNil, PL.tB', PL.tru, PL.ap1, PL.ap2, PL.apC, PL.apN, PL.lst, PL.tupE, PL.vr, PL.getC, PL.aC, PL.aN, PL.cn, PL.seqE, PL.pubE, PL.tgt_one, PL.atI_nat, PL.addD_i, PL.subD_i, PL.modD_i, PL.divD_i, PL.mulN_i, PL.mulOk_l, PL.mulOk_r, PL.ltD_i, PL.leD_i, PL.gtD_i, PL.geD_i, PL.lenD_l, PL.lenD_t, PL.intD_i, PL.maxD_i, PL.minD_i, PL.isB_b, PL.truD_b, PL.asI_i, PL.seqOf_l, PL.seqOf_t, PL.rng1_i, PL.rng2_i, tAnd', ownV, ownL, flatD, St, lt]) 100000 (l0.length + 3) (St l0 0 none none) ⟨l0, 0, none, none, ⟨fun x hx => hl0 x hx, [], by simp, List.nodup_nil⟩, Nat.zero_le _, rfl, rfl⟩ (by omega)
  subst eρ
  obtain ⟨ds, s1, s2⟩ := sorted_ints l
  refine ⟨ds, ?_, fun x hx => ?_⟩
  · have w1' : whL groups_of_t3 groups_of_w2 100000 [some (.pub (.tuple ms)), some (.pub (.tuple [.str "g", .int g])), some (.pub (.bool true)), some (.own (l0.map .int)), some (.pub (.int 0)), none, none] = .ok (.nx (St l k c d)) := w1
    unfold G_groups_of b_groups_of
    simp [PL.run, PL.startE, PL.sq, PL.sIf, PL.sRet, PL.sSet, PL.sAsg, PL.sOwn, PL.sApp, PL.sFor, PL.sDo, PL.sDoX, PL.sSetX, PL.sRetX, PL.argX, PL.lft, PL.sNil, PL.tB', PL.tru, PL.ap1, PL.ap2, PL.apC, PL.apN, PL.lst, PL.tupE, PL.vr, PL.getC, PL.aC, PL.aN, PL.cn, PL.seqE, PL.pubE, PL.tgt_one, PL.atI_nat, PL.addD_i, PL.subD_i, PL.modD_i, PL.divD_i, PL.mulN_i, PL.mulOk_l, PL.mulOk_r, PL.ltD_i, PL.leD_i, PL.gtD_i, PL.geD_i, PL.lenD_l, PL.lenD_t, PL.intD_i, PL.maxD_i, PL.minD_i, PL.isB_b, PL.truD_b, PL.asI_i, PL.seqOf_l, PL.seqOf_t, PL.rng1_i, PL.rng2_i, comp, wipeE, y1, w1', St, s1, tupleD]
  · obtain ⟨y, rfl, hy⟩ := s2 x hx
    exact ⟨y, rfl, (hg.1 y hy).2.2⟩
theorem ints_of {P : Int → Prop} : ∀ ds : List PyData, (∀ d ∈ ds, ∃ x, d = .int x ∧ P x) → ∃ l : List Int, ds = l.map .int ∧ ∀ x ∈ l, P x
  | [], _ => ⟨[], rfl, by simp⟩
  | d :: r, h => by
    obtain ⟨x, rfl, hx⟩ := h d List.mem_cons_self
    obtain ⟨l, rfl, hl⟩ := ints_of r fun z hz => h z (List.mem_cons_of_mem _ hz)
    exact ⟨x :: l, rfl, fun z hz => by
      rcases List.mem_cons.mp hz with rfl | hz
      · exact hx
      · exact hl z hz⟩
theorem in_ints (a : Int) (l : List Int) : inD (.int a) (.tuple (l.map .int)) = .ok (.bool (decide (a ∈ l))) := by
  show (if _ then _ else _) = _
  rw [if_pos ⟨by rw [depth_ints]; omega, nod_ints l, rfl⟩, any_ints]
theorem bools_false : ∀ ds : List PyData, (∀ d ∈ ds, d = .bool false) → bools ds = .ok (ds.map fun _ => false)
  | [], _ => rfl
  | d :: r, h => by
    rw [h d List.mem_cons_self]
    show (bools r).bnd _ = _
    rw [bools_false r fun x hx => h x (List.mem_cons_of_mem _ hx)]
    rfl
theorem anyD_false (n : List PyData) : anyD [.list (n.map fun _ => .bool false)] = .ok (.bool false) := by
  show (bools _).bnd _ = _
  rw [bools_false _ (by simp)]
  simp
theorem is_members {people : Int} {ms : List PyData} {rank : Int → Nat} (hm : ∀ d ∈ ms, MemOk people d) (hr : Down rank ms) (hz : ms.length ≤ 1000) (ha : Asc ms) : G_is_members [.tuple ms, .int people] = .ok (.bool true) := by
  have e1 : compL (.one 2) noIf is_members_e2 [some (.pub (.tuple ms)), some (.pub (.int people)), none, none] ms = .ok (ms.map fun _ => .bool true) := by
    refine comp_all (to := fun d => [some (.pub (.tuple ms)), some (.pub (.int people)), some (.pub d), none]) fun d hd => ⟨rfl, ?_⟩
    unfold is_members_e2
    simp only [apC, aC, aN, vr, getC, Rs.bnd_ok, is_member (hm d hd)]
  have e2 : compL (.one 3) noIf is_members_e1 [some (.pub (.tuple ms)), some (.pub (.int people)), none, none] (rangeL 0 3) = .ok ((List.range 3).map fun _ => .bool false) := by
    unfold rangeL
    refine compL_map (to := fun (k : Nat) => [some (.pub (.tuple ms)), some (.pub (.int people)), none, some (.pub (.int (0 + (k : Int))))]) _ fun k hk => ⟨rfl, ?_⟩
    obtain ⟨ds, g1, g2⟩ := grp hm hr hz (0 + (k : Int))
    obtain ⟨l, rfl, hl⟩ := ints_of ds g2
    have hn : ¬ (0 + (k : Int)) ∈ l := fun z => Nat.lt_irrefl _ (hl _ z)
    unfold is_members_e1
    simp only [ap2, apC, aC, aN, vr, getC, tupE, cn, Rs.bnd_ok, g1, in_ints, hn, decide_false]
  have e3 := allD_true ms
  have e4 : anyD [.list ((List.range 3).map fun _ => .bool false)] = .ok (.bool false) := by
    have := anyD_false ((List.range 3).map fun _ => .none)
    rwa [List.map_map] at this
  have e5 := ascends_core (.tuple ms) ms (.inr rfl) ha hz
  have e6 : rng1 [.int 3] = .ok (rangeL 0 3) := rng1_i (by decide) (by decide)
  have e7 : apN rng1 (aC (cn (.int 3)) aN) = fun _ => .ok (rangeL 0 3) := by
    funext ρ
    simp only [apN, aC, cn, aN, Rs.bnd_ok, e6]
  have e8 : comp (fun _ => .ok (rangeL 0 3)) (.one 3) [3] noIf is_members_e1 [some (.pub (.tuple ms)), some (.pub (.int people)), none, none] = .ok ((List.range 3).map fun _ => .bool false) := by
    unfold comp
    rw [Rs.bnd_ok]
    exact e2
  have e9 : comp (seqE (vr 0)) (.one 2) [2] noIf is_members_e2 [some (.pub (.tuple ms)), some (.pub (.int people)), none, none] = .ok (ms.map fun _ => .bool true) := by
    unfold comp
    rw [show seqE (vr 0) [some (.pub (.tuple ms)), some (.pub (.int people)), none, none] = .ok ms from rfl, Rs.bnd_ok]
    exact e1
  unfold G_is_members b_is_members
  rw [e7]
  simp only [PL.run, startE, List.map_cons, List.map_nil, List.length_cons, List.length_nil, Nat.zero_add, Nat.reduceAdd, Nat.reduceSub, List.replicate, List.cons_append, List.nil_append, sq, sIf, tNot', tru, ap1, vr, getC, Rs.bnd_ok, isi_tup, truD_b, Bool.not_true, Bool.false_eq_true, if_false, sNil, apC, aC, aN, lst, e9, e3, e5, sRet, notV, e8, e4, isB_b, Bool.not_false]
/-! a house -/
def HouseOk (d : PyData) : Prop := ∃ (people : Int) (ps : List Int) (bs : List Bool) (es ms : List PyData) (rank : Int → Nat), 1 ≤ people ∧ people ≤ 4 ∧ Tree ps ∧ bs.length = ps.length + 1 ∧
  (∀ e ∈ es, EntOk people (ps.length + 1) e) ∧ es.length ≤ 12 ∧ Asc (es.map pairOf) ∧ (∀ m ∈ ms, MemOk people m) ∧ Down rank ms ∧ ms.length ≤ 1000 ∧ Asc ms ∧
  d = .tuple [.int people, .tuple (ps.map .int), .tuple (bs.map .bool), .tuple es, .tuple ms]
/-! the sixteen rules -/
def RuleOk (d : PyData) : Prop := ∃ (a b c : Str) (e : Bool), (a = ("bar" : Str) ∨ a = ("near" : Str)) ∧ (b = ("keeps" : Str) ∨ b = ("drops" : Str)) ∧ (c = ("now" : Str) ∨ c = ("login" : Str)) ∧ d = .tuple [.str a, .str b, .str c, .bool e]
theorem is_rule {d : PyData} (h : RuleOk d) : G_is_rule [d] = .ok (.bool true) := by
  obtain ⟨a, b, c, e, ha, hb, hc, rfl⟩ := h
  have e0 := is_row [.str a, .str b, .str c, .bool e] 4
  have e1 : G_is_word [.str a, .tuple [.str "bar", .str "near"]] = .ok (.bool true) := by
    have := is_word a ["bar", "near"]
    rcases ha with rfl | rfl <;> exact this
  have e2 : G_is_word [.str b, .tuple [.str "keeps", .str "drops"]] = .ok (.bool true) := by
    have := is_word b ["keeps", "drops"]
    rcases hb with rfl | rfl <;> exact this
  have e3 : G_is_word [.str c, .tuple [.str "now", .str "login"]] = .ok (.bool true) := by
    have := is_word c ["now", "login"]
    rcases hc with rfl | rfl <;> exact this
  unfold G_is_rule b_is_rule
  simp [PL.run, PL.startE, PL.sq, PL.sIf, PL.sRet, PL.sSet, PL.sAsg, PL.sOwn, PL.sApp, PL.sFor, PL.sDo, PL.sDoX, PL.sSetX, PL.sRetX, PL.argX, PL.lft, PL.sNil, PL.tB', PL.tru, PL.ap1, PL.ap2, PL.apC, PL.apN, PL.lst, PL.tupE, PL.vr, PL.getC, PL.aC, PL.aN, PL.cn, PL.seqE, PL.pubE, PL.tgt_one, PL.atI_nat, PL.addD_i, PL.subD_i, PL.modD_i, PL.divD_i, PL.mulN_i, PL.mulOk_l, PL.mulOk_r, PL.ltD_i, PL.leD_i, PL.gtD_i, PL.geD_i, PL.lenD_l, PL.lenD_t, PL.intD_i, PL.maxD_i, PL.minD_i, PL.isB_b, PL.truD_b, PL.asI_i, PL.seqOf_l, PL.seqOf_t, PL.rng1_i, PL.rng2_i, e0, tNot', tOr', tgt, setAll, andV, e1, e2, e3, isi_boolB]
end Q

namespace Q
open PySem PySem.Spec PyProof.Rows L2 PL M
/-! order -/
theorem toks_ne {a b : PyData} (h : PySem.W.alike a b = true) (e : PyData.eqv a b = false) : PySem.W.keyToks a ≠ PySem.W.keyToks b := fun z => by
  have q := (PySem.W.toks_eqv a b h).2 e
  have q1 := q [] [.inl 0]
  have q2 := q [.inl 0] []
  rw [← z, PySem.W.lex_pre] at q1 q2
  have : PyProof.Rows.lexLt itemOrd [.inl 0] [] = PyProof.Rows.lexLt itemOrd [] [.inl 0] := q2.trans q1.symm
  exact absurd this (by decide)
theorem lt_of {a b : PyData} (h : PySem.W.alike a b = true) (e : PyData.eqv a b = false) (l : PySem.W.dataLt b a = false) : PySem.W.dataLt a b = true := by
  cases q : PySem.W.dataLt a b with
  | true => rfl
  | false => exact absurd ((listOrd itemOrd).total _ _ q l) (toks_ne h e)
theorem sorted_le (ds : List PyData) : (sortD ds).Pairwise fun a b => PySem.W.dataLt b a = false := by
  have T := PySem.W.sortLe_total (listOrd itemOrd) false (fun d : PyData => PySem.W.keyToks d)
  have := List.pairwise_mergeSort (le := PySem.W.dataLe false fun d : PyData => d) T.trans (fun a b => by rcases T.total a b with h | h <;> (show (_ || _) = true; rw [Bool.or_eq_true]); exact .inl h; exact .inr h) ds
  exact this.imp fun {a b} h => by
    have h' : (!PySem.W.dataLt b a) = true := h
    simpa using h'
theorem asc_of {ds : List PyData} (h : ds.Pairwise fun a b => ltD a b = .ok (.bool true)) : Asc ds := fun k a b ha hb => by
  obtain ⟨k1, ea⟩ := List.getElem?_eq_some_iff.mp ha
  obtain ⟨k2, eb⟩ := List.getElem?_eq_some_iff.mp hb
  have := List.pairwise_iff_getElem.mp h k (k + 1) k1 k2 (by omega)
  rw [ea, eb] at this
  exact this
theorem ltD_t {x y : List PyData} (h1 : PySem.W.alike (.tuple x) (.tuple y) = true) (h2 : shallow (.tuple x) (.tuple y) = true) (h3 : PySem.W.dataLt (.tuple x) (.tuple y) = true) : ltD (.tuple x) (.tuple y) = .ok (.bool true) := by
  show (if _ then _ else _) = _
  rw [if_pos (by rw [h1, h2]; rfl), h3]
end Q

namespace Q
open PySem PySem.Spec PyProof.Rows L2 PL M
theorem perm_erase {α : Type} : ∀ (l : List α) (m : Nat) (h : m < l.length), (l[m] :: l.eraseIdx m).Perm l
  | a :: r, 0, _ => List.Perm.refl _
  | a :: r, m + 1, h => by
    have ih := perm_erase r m (by simpa using h)
    simp only [List.getElem_cons_succ, List.eraseIdx_cons_succ]
    exact (List.Perm.swap _ _ _).trans (List.Perm.cons a ih)
structure TI (c i : Nat) (names parents inside : List Int) : Prop where
  ln : names.length = c - i
  lp : parents.length = c
  li : inside.length = i + 1
  z : inside[0]? = some 0
  all : ∀ f : Int, 1 ≤ f → f ≤ c → f ∈ names ∨ f ∈ inside
  nd : (inside ++ names).Nodup
  rn : ∀ x ∈ names, 1 ≤ x ∧ x ≤ c
  tr : ∀ (j : Nat) f, 1 ≤ j → inside[j]? = some f → 1 ≤ f ∧ f ≤ c ∧ ∃ (j' : Nat) (p : Int), j' < j ∧ inside[j']? = some p ∧ parents[(f - 1).toNat]? = some p
  rp : ∀ p ∈ parents, 0 ≤ p ∧ p ≤ c
theorem TI.ri {c i : Nat} {names parents inside : List Int} (h : TI c i names parents inside) {x : Int} (hx : x ∈ inside) : 0 ≤ x ∧ x ≤ c := by
  obtain ⟨j, hj⟩ := List.getElem?_of_mem hx
  by_cases e : j = 0
  · subst e; rw [h.z] at hj; cases hj; omega
  · have := h.tr j x (by omega) hj; omega
/-- one more folder: the m-th of the names, below the q-th inside -/
theorem TI.step {c i : Nat} {names parents inside : List Int} (h : TI c i names parents inside) {m q : Nat} (hm : m < names.length) (hq : q < inside.length) (hi : i < c) : TI c (i + 1) (names.eraseIdx m) (parents.set (names[m] - 1).toNat inside[q]) (inside ++ [names[m]]) := by
  have mem : names[m] ∈ names := List.getElem_mem hm
  have r1 := h.rn _ mem
  have nin : ¬ names[m] ∈ inside := fun z => by
    have := (List.nodup_append.mp h.nd).2.2 _ z _ mem
    exact this rfl
  refine ⟨by rw [List.length_eraseIdx_of_lt hm, h.ln]; omega, by rw [List.length_set]; exact h.lp, by rw [List.length_append, h.li]; rfl, by rw [List.getElem?_append_left (by rw [h.li]; omega)]; exact h.z, fun f f1 f2 => ?_, ?_, fun x hx => h.rn x (List.mem_of_mem_eraseIdx hx), fun j f j1 hj => ?_, fun p hp => ?_⟩
  · rcases h.all f f1 f2 with g | g
    · by_cases e : f = names[m]
      · exact .inr (List.mem_append_right _ (by rw [e]; simp))
      · obtain ⟨k, hk⟩ := List.getElem?_of_mem g
        refine .inl ?_
        have : k ≠ m := fun z => e (by subst z; rw [List.getElem?_eq_getElem hm] at hk; exact (Option.some.inj hk).symm)
        exact List.mem_eraseIdx_iff_getElem?.mpr ⟨k, this, hk⟩
    · exact .inr (List.mem_append_left _ g)
  · have p : List.Perm ((inside ++ [names[m]]) ++ names.eraseIdx m) (inside ++ names) := by
      rw [List.append_assoc]
      exact List.Perm.append_left _ (perm_erase names m hm)
    exact p.symm.nodup h.nd
  · by_cases hj1 : j < inside.length
    · rw [List.getElem?_append_left hj1] at hj
      obtain ⟨f1, f2, j', p, l1, l2, l3⟩ := h.tr j f j1 hj
      refine ⟨f1, f2, j', p, l1, by rw [List.getElem?_append_left (by omega)]; exact l2, ?_⟩
      have ne : f ≠ names[m] := fun z => nin (by rw [← z]; exact List.mem_of_getElem? hj)
      rw [List.getElem?_set_ne (by omega)]
      exact l3
    · have hlt := (List.getElem?_eq_some_iff.mp hj).1
      rw [List.length_append, List.length_singleton] at hlt
      have ej : j = inside.length := by omega
      subst ej
      rw [List.getElem?_append_right (Nat.le_refl _), Nat.sub_self] at hj
      have ef : names[m] = f := by simpa using hj
      subst ef
      refine ⟨r1.1, r1.2, q, inside[q], hq, by rw [List.getElem?_append_left hq]; exact List.getElem?_eq_getElem hq, ?_⟩
      rw [List.getElem?_set_self (by rw [h.lp]; omega)]
  · rcases List.mem_or_eq_of_mem_set hp with hp | hp
    · exact h.rp p hp
    · rw [hp]; exact h.ri (List.getElem_mem hq)
theorem popAt_of {ds : List PyData} {k : Int} {d : PyData} (h0 : 0 ≤ k) (h1 : k.toNat < ds.length) (h2 : k < 9223372036854775808) (e : ds[k.toNat]? = some d) : popAt ds k = .ok (d, ds.eraseIdx k.toNat) := by
  unfold popAt
  have hs : seqIndex? k ds.length = some k.toNat := by
    unfold seqIndex?
    have : ¬ k < 0 := by omega
    have h4 : k < ds.length := by omega
    simp [this, h0, h4]
  rw [if_pos ⟨by omega, by simpa using h2⟩, hs]
  simp only [e]
/-- the state of the body's first loop -/
def S1 (dr : List Int) (people c : Int) (names parents inside : List Int) (c6 c14 : Option Cell) : Ev :=
  [some (.pub (.list (dr.map .int))), some (.pub (.int people)), some (.pub (.int c)), some (.own (names.map .int)), some (.own (parents.map .int)), some (.own (inside.map .int)), c6, none, none, none, none, none, none, none, c14, none, none, none, none]
theorem eraseIdx_map {α β : Type} (f : α → β) : ∀ (l : List α) (i : Nat), (l.map f).eraseIdx i = (l.eraseIdx i).map f
  | [], _ => rfl
  | _ :: _, 0 => rfl
  | a :: r, i + 1 => by simp [eraseIdx_map f r i]
theorem tree_turn {dr : List Int} {people : Int} {c i : Nat} {names parents inside : List Int} {c6 c14 : Option Cell} (hd : 45 ≤ dr.length) (hr : ∀ x ∈ dr, 0 ≤ x ∧ x < 1000003) (h : TI c i names parents inside) (hi : i < c) (hc : c ≤ 5) :
    ∃ names' parents' inside' c14', law_body_f9 ((S1 dr people c names parents inside c6 c14).set 6 (some (.pub (.int i)))) = .ok (.nx (S1 dr people c names' parents' inside' (some (.pub (.int i))) c14')) ∧ TI c (i + 1) names' parents' inside' := by
  have n0 : 0 < names.length := by rw [h.ln]; omega
  have d1 : i < dr.length := by omega
  have d2 : 5 + i < dr.length := by omega
  let k1 : Int := dr[i] % names.length
  let k2 : Int := dr[5 + i] % inside.length
  have k1a : 0 ≤ k1 := Int.emod_nonneg _ (by omega)
  have k1b : k1 < names.length := Int.emod_lt_of_pos _ (by omega)
  have li : inside.length = i + 1 := h.li
  have k2a : 0 ≤ k2 := Int.emod_nonneg _ (by omega)
  have k2b : k2 < inside.length := Int.emod_lt_of_pos _ (by omega)
  have m1 : k1.toNat < names.length := by omega
  have m2 : k2.toNat < inside.length := by omega
  refine ⟨names.eraseIdx k1.toNat, parents.set (names[k1.toNat] - 1).toNat inside[k2.toNat], inside ++ [names[k1.toNat]], some (.pub (.int names[k1.toNat])), ?_, h.step m1 m2 hi⟩
  have r1 := h.rn _ (List.getElem_mem m1)
  have x1 : ixD (.list (dr.map .int)) (.int i) = .ok (.int dr[i]) := ixD_l (by rw [PL.atI_nat]; simp [d1])
  have x2 : ixD (.list (dr.map .int)) (.int (5 + i)) = .ok (.int dr[5 + i]) := ixD_l (by rw [show (5 : Int) + i = ((5 + i : Nat) : Int) by omega, PL.atI_nat]; simp [d2])
  have x3 : popAt (names.map .int) k1 = .ok (.int names[k1.toNat], (names.eraseIdx k1.toNat).map .int) := by
    rw [popAt_of k1a (by rw [List.length_map]; exact m1) (by have := h.ln; omega) (by rw [List.getElem?_map, List.getElem?_eq_getElem m1]; rfl), eraseIdx_map]
  have x4 : L2.atI (inside.map PyData.int) k2 = some (.int inside[k2.toNat]) := by rw [atI_of k2a, List.getElem?_map, List.getElem?_eq_getElem m2]; rfl
  have x5 : L2.ixN parents.length (names[k1.toNat] - 1) = some (names[k1.toNat] - 1).toNat := by
    have lp := h.lp
    unfold L2.ixN
    rw [if_pos (by omega), if_pos (by omega)]
  have sz : inside.length < sizeLine := by rw [sizeLine_eq]; omega
  have z1 : (0 : Int) < names.length := by omega
  have z2 : (0 : Int) < inside.length := by omega
  have y1 : modD (.int dr[i]) (.int names.length) = .ok (.int k1) := modD_i z1
  have y2 : modD (.int dr[5 + i]) (.int inside.length) = .ok (.int k2) := modD_i z2
  unfold law_body_f9
  simp [PL.run, PL.startE, PL.sq, PL.sIf, PL.sRet, PL.sSet, PL.sAsg, PL.sOwn, PL.sApp, PL.sFor, PL.sDo, PL.sDoX, PL.sSetX, PL.sRetX, PL.argX, PL.lft, PL.sNil, PL.tB', PL.tru, PL.ap1, PL.ap2, PL.apC, PL.apN, PL.lst, PL.tupE, PL.vr, PL.getC, PL.aC, PL.aN, PL.cn, PL.seqE, PL.pubE, PL.tgt_one, PL.atI_nat, PL.addD_i, PL.subD_i, PL.modD_i, PL.divD_i, PL.mulN_i, PL.mulOk_l, PL.mulOk_r, PL.ltD_i, PL.leD_i, PL.gtD_i, PL.geD_i, PL.lenD_l, PL.lenD_t, PL.intD_i, PL.maxD_i, PL.minD_i, PL.isB_b, PL.truD_b, PL.asI_i, PL.seqOf_l, PL.seqOf_t, PL.rng1_i, PL.rng2_i, S1, sPopAt, sSetIx, ownIx, ownL, ownV, flatD, x1, x2, y1, y2, x3, x4, x5, sz, List.map_set]
theorem TI.start (c : Nat) : TI c 0 ((List.range c).map fun k : Nat => 1 + (k : Int)) (List.replicate c 0) [0] := by
  refine ⟨by simp, by simp, rfl, rfl, fun f f1 f2 => .inl (List.mem_map.mpr ⟨(f - 1).toNat, List.mem_range.mpr (by omega), by omega⟩), ?_, fun x hx => ?_, fun j f j1 hj => ?_, fun p hp => ?_⟩
  · refine List.nodup_cons.mpr ⟨fun z => ?_, ?_⟩
    · obtain ⟨k, _, e⟩ := List.mem_map.mp z; omega
    · refine List.Pairwise.map _ (fun a b (h : a ≠ b) z => h ?_) List.nodup_range
      omega
  · obtain ⟨k, hk, e⟩ := List.mem_map.mp hx
    have := List.mem_range.mp hk
    omega
  · have := (List.getElem?_eq_some_iff.mp hj).1
    simp at this; omega
  · have := (List.mem_replicate.mp hp).2
    omega
theorem tree_loop {dr : List Int} {people : Int} {c : Nat} (hd : 45 ≤ dr.length) (hr : ∀ x ∈ dr, 0 ≤ x ∧ x < 1000003) (hc : c ≤ 5) : ∃ parents inside c6 c14, forL (.one 6) law_body_f9 (rangeL 0 c) (S1 dr people c ((List.range c).map fun k : Nat => 1 + (k : Int)) (List.replicate c 0) [0] none none) = .ok (.nx (S1 dr people c [] parents inside c6 c14)) ∧ TI c c [] parents inside := by
  let I : Nat → Ev → Prop := fun i ρ => ∃ names parents inside c6 c14, i ≤ c ∧ TI c i names parents inside ∧ ρ = S1 dr people c names parents inside c6 c14
  obtain ⟨ρ', e, names, parents, inside, c6, c14, _, h, eρ⟩ := forL_range (j := 6) (n := c) (f := law_body_f9) I (S1 dr people c ((List.range c).map fun k : Nat => 1 + (k : Int)) (List.replicate c 0) [0] none none)
    (fun i ρ hi ⟨names, parents, inside, c6, c14, _, h, eρ⟩ => by
      subst eρ
      obtain ⟨n', p', i', c14', e, h'⟩ := tree_turn (people := people) (c6 := c6) (c14 := c14) hd hr h hi hc
      exact ⟨_, e, n', p', i', _, c14', by omega, h', rfl⟩)
    ⟨_, _, _, none, none, Nat.zero_le _, TI.start c, rfl⟩
  have n0 : names = [] := List.eq_nil_of_length_eq_zero (by rw [h.ln]; omega)
  subst n0 eρ
  exact ⟨parents, inside, c6, c14, e, h⟩
end Q

namespace Q
open PySem PySem.Spec PyProof.Rows L2 PL M
theorem tree_of {c : Nat} {parents inside : List Int} (hc : c ≤ 5) (h : TI c c [] parents inside) : Tree parents := by
  have lp := h.lp
  refine ⟨by omega, ⟨inside, by rw [h.li, lp], h.z, fun f f0 f1 => ?_, fun j f j1 hj => ?_⟩, fun p hp => ?_⟩
  · by_cases e : f = 0
    · exact ⟨0, Nat.zero_le _, by rw [e]; exact h.z⟩
    · rcases h.all f (by omega) (by omega) with g | g
      · exact nomatch g
      · obtain ⟨j, hj⟩ := List.getElem?_of_mem g
        have := (List.getElem?_eq_some_iff.mp hj).1
        exact ⟨j, by rw [h.li] at this; omega, hj⟩
  · have := h.tr j f j1 hj
    rw [lp]
    exact this
  · have := h.rp p hp
    rw [lp]; exact this
/-! who: keys, order -/
theorem who_nk {people : Int} {w : PyData} (h : WhoOk people w) : ∃ k i, (k = ("p" : Str) ∨ k = ("g" : Str)) ∧ w = .tuple [.str k, .int i] := by
  rcases h with ⟨i, _, _, rfl⟩ | ⟨i, _, _, rfl⟩
  · exact ⟨_, i, .inl rfl, rfl⟩
  · exact ⟨_, i, .inr rfl, rfl⟩
def SpotOk (people folders : Int) (d : PyData) : Prop := ∃ f w, 0 ≤ f ∧ f < folders ∧ WhoOk people w ∧ d = .tuple [.int f, w]
theorem spot_nk {people folders : Int} {d : PyData} (h : SpotOk people folders d) : ∃ f k i, d = .tuple [.int f, .tuple [.str k, .int i]] ∧ nkOf d = some (.tup [.num f, .tup [.text k, .num i]]) := by
  obtain ⟨f, w, _, _, hw, rfl⟩ := h
  obtain ⟨k, i, _, rfl⟩ := who_nk hw
  exact ⟨f, k, i, rfl, by simp [nkOf, nkAll]⟩
theorem spot_key {people folders : Int} {d : PyData} (h : SpotOk people folders d) : ∃ k, keyOk d = .ok k ∧ nkOf d = some k := by
  obtain ⟨f, k, i, rfl, e⟩ := spot_nk h
  refine ⟨_, ?_, e⟩
  unfold keyOk
  simp [e, NestedKey.depth, NestedKey.depthAll]
def KvOk (people folders : Int) (kvs : List (PyData × PyData)) : Prop := (∀ p ∈ kvs, SpotOk people folders p.1 ∧ (p.2 = .str "allow" ∨ p.2 = .str "bar")) ∧ (kvs.map (·.1)).Nodup
theorem kv_put {people folders : Int} {kvs : List (PyData × PyData)} {d v : PyData} {k : NestedKey} (h : KvOk people folders kvs) (hd : SpotOk people folders d) (hk : nkOf d = some k) (hv : v = .str "allow" ∨ v = .str "bar") : KvOk people folders (dput kvs d k v) := by
  obtain ⟨h1, h2⟩ := h
  unfold dput
  split
  · refine ⟨fun p hp => ?_, ?_⟩
    · obtain ⟨q, hq, rfl⟩ := List.mem_map.mp hp
      have := h1 q hq
      split
      · exact ⟨this.1, hv⟩
      · exact this
    · have e : (kvs.map fun p => if nkOf p.1 = some k then (p.1, v) else p).map (·.1) = kvs.map (·.1) := by
        rw [List.map_map]
        refine List.map_congr_left fun p _ => ?_
        show (if nkOf p.1 = some k then (p.1, v) else p).1 = p.1
        split <;> rfl
      rw [e]; exact h2
  · rename_i hn
    refine ⟨fun p hp => ?_, ?_⟩
    · rcases List.mem_append.mp hp with hp | hp
      · exact h1 p hp
      · rw [List.mem_singleton.mp hp]; exact ⟨hd, hv⟩
    · rw [List.map_append]
      refine List.nodup_append.mpr ⟨h2, by simp, fun x hx y hy z => hn ?_⟩
      have ey : y = d := by simpa using hy
      subst ey z
      obtain ⟨p, hp, ep⟩ := List.mem_map.mp hx
      exact List.any_eq_true.mpr ⟨p, hp, by rw [ep]; simpa using hk⟩
theorem kv_get {people folders : Int} {kvs : List (PyData × PyData)} (h : KvOk people folders kvs) {p : PyData × PyData} (hp : p ∈ kvs) : ∃ v, (v = .str "allow" ∨ v = .str "bar") ∧ ∀ k, nkOf p.1 = some k → dget kvs k = some v := by
  obtain ⟨k, _, hk⟩ := spot_key (h.1 p hp).1
  have ex : (kvs.find? fun q => decide (nkOf q.1 = some k)).isSome = true := by
    rw [List.find?_isSome]
    exact ⟨p, hp, by simpa using hk⟩
  obtain ⟨q, hq⟩ := Option.isSome_iff_exists.mp ex
  refine ⟨q.2, (h.1 q (List.mem_of_find?_eq_some hq)).2, fun k' hk' => ?_⟩
  have : k' = k := by rw [hk] at hk'; exact (Option.some.inj hk').symm
  subst this
  unfold dget
  rw [hq]; rfl
/-- the state of the body's second loop -/
def S2 (dr : List Int) (people c : Int) (parents inside : List Int) (shut : PyData) (kvs : List (PyData × PyData)) (c6 c14 c15 : Option Cell) : Ev :=
  [some (.pub (.list (dr.map .int))), some (.pub (.int people)), some (.pub (.int c)), some (.own []), some (.own (parents.map .int)), some (.own (inside.map .int)), c6, some (.pub shut), some (.odc kvs), none, none, none, none, none, c14, c15, none, none, none]
theorem two_words (x : Int) (a b : Str) : ∃ c, (c = PyData.str a ∨ c = PyData.str b) ∧ ixD (.list [.str a, .str b]) (.int (x % 2)) = .ok c := by
  rcases (show x % 2 = 0 ∨ x % 2 = 1 by omega) with h | h
  · exact ⟨_, .inl rfl, by rw [h]; rfl⟩
  · exact ⟨_, .inr rfl, by rw [h]; rfl⟩
theorem kinds_turn {dr : List Int} {people c : Int} {parents inside : List Int} {shut : PyData} {kvs : List (PyData × PyData)} {c6 c14 c15 : Option Cell} {i : Nat} (hd : 45 ≤ dr.length) (hp : 1 ≤ people) (hc : 0 ≤ c) (h : KvOk people (c + 1) kvs) (hl : kvs.length ≤ i) (hi : i < 13) :
    ∃ kvs' c15', law_body_f7 ((S2 dr people c parents inside shut kvs c6 c14 c15).set 6 (some (.pub (.int i)))) = .ok (.nx (S2 dr people c parents inside shut kvs' (some (.pub (.int i))) c14 c15')) ∧ KvOk people (c + 1) kvs' ∧ kvs'.length ≤ i + 1 := by
  have d1 : 17 + i < dr.length := by omega
  have x1 : ixD (.list (dr.map .int)) (.int (17 + i)) = .ok (.int dr[17 + i]) := ixD_l (by rw [show (17 : Int) + i = ((17 + i : Nat) : Int) by omega, PL.atI_nat]; simp [d1])
  obtain ⟨w, hw, ew⟩ := who (dr[17 + i] / 6) people hp
  obtain ⟨v, hv, ev'⟩ := two_words (dr[17 + i] / 42) "allow" "bar"
  have c1 : 0 < c + 1 := by omega
  have sp : SpotOk people (c + 1) (.tuple [.int (dr[17 + i] % (c + 1)), w]) := ⟨_, w, Int.emod_nonneg _ (by omega), Int.emod_lt_of_pos _ c1, hw, rfl⟩
  obtain ⟨k, ek, nk⟩ := spot_key sp
  have sz : kvs.length < sizeLine := by rw [sizeLine_eq]; omega
  refine ⟨dput kvs (.tuple [.int (dr[17 + i] % (c + 1)), w]) k v, some (.pub (.int dr[17 + i])), ?_, kv_put h sp nk hv, Nat.le_trans (dput_len _ _ _ _) (by omega)⟩
  have m1 : modD (.int dr[17 + i]) (.int (c + 1)) = .ok (.int (dr[17 + i] % (c + 1))) := modD_i c1
  unfold law_body_f7
  simp [PL.run, PL.startE, PL.sq, PL.sIf, PL.sRet, PL.sSet, PL.sAsg, PL.sOwn, PL.sApp, PL.sFor, PL.sDo, PL.sDoX, PL.sSetX, PL.sRetX, PL.argX, PL.lft, PL.sNil, PL.tB', PL.tru, PL.ap1, PL.ap2, PL.apC, PL.apN, PL.lst, PL.tupE, PL.vr, PL.getC, PL.aC, PL.aN, PL.cn, PL.seqE, PL.pubE, PL.tgt_one, PL.atI_nat, PL.addD_i, PL.subD_i, PL.modD_i, PL.divD_i, PL.mulN_i, PL.mulOk_l, PL.mulOk_r, PL.ltD_i, PL.leD_i, PL.gtD_i, PL.geD_i, PL.lenD_l, PL.lenD_t, PL.intD_i, PL.maxD_i, PL.minD_i, PL.isB_b, PL.truD_b, PL.asI_i, PL.seqOf_l, PL.seqOf_t, PL.rng1_i, PL.rng2_i, S2, sDput, x1, ew, ev', m1, ek, sz]
theorem kinds_loop {dr : List Int} {people c : Int} {parents inside : List Int} {shut : PyData} {c6 c14 : Option Cell} {n : Nat} (hd : 45 ≤ dr.length) (hp : 1 ≤ people) (hc : 0 ≤ c) (hn : n < 13) :
    ∃ kvs c6' c15, forL (.one 6) law_body_f7 (rangeL 0 n) (S2 dr people c parents inside shut [] c6 c14 none) = .ok (.nx (S2 dr people c parents inside shut kvs c6' c14 c15)) ∧ KvOk people (c + 1) kvs ∧ kvs.length ≤ 12 := by
  let I : Nat → Ev → Prop := fun i ρ => ∃ kvs c6 c15, KvOk people (c + 1) kvs ∧ kvs.length ≤ i ∧ ρ = S2 dr people c parents inside shut kvs c6 c14 c15
  obtain ⟨ρ', e, kvs, c6', c15, h, hl, eρ⟩ := forL_range (j := 6) (n := n) (f := law_body_f7) I (S2 dr people c parents inside shut [] c6 c14 none)
    (fun i ρ hi ⟨kvs, c6, c15, h, hl, eρ⟩ => by
      subst eρ
      obtain ⟨kvs', c15', e, h', hl'⟩ := kinds_turn (parents := parents) (inside := inside) (shut := shut) (c6 := c6) (c14 := c14) (c15 := c15) hd hp hc h hl (by omega)
      exact ⟨_, e, kvs', _, c15', h', hl', rfl⟩)
    ⟨[], c6, none, ⟨fun p hp => (nomatch hp), List.nodup_nil⟩, Nat.zero_le _, rfl⟩
  subst eρ
  exact ⟨kvs, c6', c15, e, h, by omega⟩
/-- the entries of the dict -/
def entOf (kvs : List (PyData × PyData)) (p : PyData × PyData) : PyData := match p.1 with
  | .tuple [f, w] => .tuple [f, w, match nkOf p.1 with | some k => (dget kvs k).getD .none | none => .none]
  | d => d
theorem ent_ok {people folders : Int} {kvs : List (PyData × PyData)} (h : KvOk people folders kvs) {p : PyData × PyData} (hp : p ∈ kvs) : EntOk people folders (entOf kvs p) ∧ pairOf (entOf kvs p) = p.1 := by
  obtain ⟨v, hv, hg⟩ := kv_get h hp
  obtain ⟨f, w, f0, f1, hw, e⟩ := (h.1 p hp).1
  obtain ⟨k, _, hk⟩ := spot_key (h.1 p hp).1
  have e1 : entOf kvs p = .tuple [.int f, w, v] := by
    unfold entOf
    have g := hg k hk
    rw [e] at hk ⊢
    simp only [hk, g, Option.getD_some]
  rw [e1]
  refine ⟨?_, e.symm⟩
  rcases hv with rfl | rfl
  · exact ⟨f, w, _, f0, f1, hw, .inl rfl, rfl⟩
  · exact ⟨f, w, _, f0, f1, hw, .inr rfl, rfl⟩
theorem ents {dr : List Int} {people c : Int} {parents inside : List Int} {shut : PyData} {kvs : List (PyData × PyData)} {c6 c14 c15 : Option Cell} (h : KvOk people (c + 1) kvs) :
    comp (dkeysL 8) (.one 17) [17] noIf law_body_e6 (S2 dr people c parents inside shut kvs c6 c14 c15) = .ok (kvs.map (entOf kvs)) := by
  unfold comp
  rw [show dkeysL 8 (S2 dr people c parents inside shut kvs c6 c14 c15) = .ok (kvs.map (·.1)) from rfl, Rs.bnd_ok]
  refine compL_map (to := fun p => (wipeE (S2 dr people c parents inside shut kvs c6 c14 c15) [17]).set 17 (some (.pub p.1))) kvs fun p hp => ⟨rfl, ?_⟩
  obtain ⟨v, hv, hg⟩ := kv_get h hp
  obtain ⟨f, w, f0, f1, hw, e⟩ := (h.1 p hp).1
  obtain ⟨k, ek, hk⟩ := spot_key (h.1 p hp).1
  have g := hg k hk
  have e1 : entOf kvs p = .tuple [.int f, w, v] := by
    unfold entOf
    rw [e] at hk ⊢
    simp only [hk, g, Option.getD_some]
  have i0 : ixD p.1 (.int 0) = .ok (.int f) := by rw [e]; rfl
  have i1 : ixD p.1 (.int 1) = .ok w := by rw [e]; rfl
  rw [e1]
  unfold law_body_e6
  simp [PL.run, PL.startE, PL.sq, PL.sIf, PL.sRet, PL.sSet, PL.sAsg, PL.sOwn, PL.sApp, PL.sFor, PL.sDo, PL.sDoX, PL.sSetX, PL.sRetX, PL.argX, PL.lft, PL.sNil, PL.tB', PL.tru, PL.ap1, PL.ap2, PL.apC, PL.apN, PL.lst, PL.tupE, PL.vr, PL.getC, PL.aC, PL.aN, PL.cn, PL.seqE, PL.pubE, PL.tgt_one, PL.atI_nat, PL.addD_i, PL.subD_i, PL.modD_i, PL.divD_i, PL.mulN_i, PL.mulOk_l, PL.mulOk_r, PL.ltD_i, PL.leD_i, PL.gtD_i, PL.geD_i, PL.lenD_l, PL.lenD_t, PL.intD_i, PL.maxD_i, PL.minD_i, PL.isB_b, PL.truD_b, PL.asI_i, PL.seqOf_l, PL.seqOf_t, PL.rng1_i, PL.rng2_i, S2, wipeE, i0, i1, dgetE, ek, g]
/-! sorted rows of entries and members -/
theorem who_alike {people : Int} {w w' : PyData} (h : WhoOk people w) (h' : WhoOk people w') : PySem.W.alike w w' = true := by
  obtain ⟨k, i, _, rfl⟩ := who_nk h
  obtain ⟨k', i', _, rfl⟩ := who_nk h'
  simp [PySem.W.alike, PySem.W.alikeAll]
theorem who_eqv {people : Int} {w w' : PyData} (h : WhoOk people w) (h' : WhoOk people w') : PyData.eqv w w' = true ↔ w = w' := by
  obtain ⟨k, i, _, rfl⟩ := who_nk h
  obtain ⟨k', i', _, rfl⟩ := who_nk h'
  simp [PyData.eqv, PyData.eqvAll]
theorem spot_alike {p f : Int} {d e : PyData} (h : SpotOk p f d) (h' : SpotOk p f e) : PySem.W.alike d e = true := by
  obtain ⟨a, w, _, _, hw, rfl⟩ := h
  obtain ⟨b, v, _, _, hv, rfl⟩ := h'
  have := who_alike hw hv
  simp [PySem.W.alike, PySem.W.alikeAll, this]
theorem spot_shallow {p f : Int} {d e : PyData} (h : SpotOk p f d) (h' : SpotOk p f e) : shallow d e = true := by
  obtain ⟨a, w, _, _, hw, rfl⟩ := h
  obtain ⟨b, v, _, _, hv, rfl⟩ := h'
  obtain ⟨d1, n1⟩ := who_depth hw
  obtain ⟨d2, n2⟩ := who_depth hv
  unfold shallow
  simp [nod, nodAll, n1, n2, PyData.depth, PyData.depthAll]
  omega
theorem spot_eqv {p f : Int} {d e : PyData} (h : SpotOk p f d) (h' : SpotOk p f e) (ne : d ≠ e) : PyData.eqv d e = false := by
  obtain ⟨a, w, _, _, hw, rfl⟩ := h
  obtain ⟨b, v, _, _, hv, rfl⟩ := h'
  have := who_eqv hw hv
  cases q : PyData.eqv (.tuple [.int a, w]) (.tuple [.int b, v]) with
  | false => rfl
  | true =>
    simp [PyData.eqv, PyData.eqvAll] at q
    exact absurd (by rw [q.1, this.mp q.2]) ne
theorem spot_lt {p f : Int} {d e : PyData} (h : SpotOk p f d) (h' : SpotOk p f e) (ne : d ≠ e) (l : PySem.W.dataLt e d = false) : ltD d e = .ok (.bool true) := by
  have q := lt_of (spot_alike h h') (spot_eqv h h' ne) l
  have s := spot_shallow h h'
  have a := spot_alike h h'
  obtain ⟨_, _, _, _, _, rfl⟩ := h
  obtain ⟨_, _, _, _, _, rfl⟩ := h'
  exact ltD_t a s q
theorem ent_spot {p f : Int} {d : PyData} (h : EntOk p f d) : SpotOk p f (pairOf d) := by
  obtain ⟨a, w, k, a0, a1, hw, _, rfl⟩ := h
  exact ⟨a, w, a0, a1, hw, rfl⟩
theorem ent_alike {p f : Int} {d e : PyData} (h : EntOk p f d) (h' : EntOk p f e) : PySem.W.alike d e = true := by
  obtain ⟨a, w, k, _, _, hw, _, rfl⟩ := h
  obtain ⟨b, v, l, _, _, hv, _, rfl⟩ := h'
  have := who_alike hw hv
  simp [PySem.W.alike, PySem.W.alikeAll, this]
theorem ent_depth {p f : Int} {d : PyData} (h : EntOk p f d) : d.depth ≤ 60 ∧ nod d = true ∧ isTup1 d = true := by
  obtain ⟨a, w, k, _, _, hw, _, rfl⟩ := h
  obtain ⟨d1, n1⟩ := who_depth hw
  refine ⟨?_, by simp [nod, nodAll, n1], rfl⟩
  simp [PyData.depth, PyData.depthAll]
  omega
theorem ent_lt {p f : Int} {d e : PyData} (h : EntOk p f d) (h' : EntOk p f e) (ne : pairOf d ≠ pairOf e) : PySem.W.dataLt (pairOf d) (pairOf e) = PySem.W.dataLt d e := by
  have q := spot_eqv (ent_spot h) (ent_spot h') ne
  obtain ⟨a, w, k, _, _, hw, _, rfl⟩ := h
  obtain ⟨b, v, l, _, _, hv, _, rfl⟩ := h'
  have al := who_alike hw hv
  have ai : PySem.W.alike (.int a) (.int b) = true := by simp [PySem.W.alike]
  have q' : (PyData.eqv (.int a) (.int b) && PyData.eqv w v) = false := by
    have : PyData.eqv (.tuple [.int a, w]) (.tuple [.int b, v]) = false := q
    simpa [PyData.eqv, PyData.eqvAll] using this
  have c2 : PySem.W.dataLt (.tuple [.int a, w]) (.tuple [.int b, v]) = _ := PySem.W.dataLt_pair ai al
  have t : ∀ xs ys : List PyData, PySem.W.dataLt (.tuple xs) (.tuple ys) = PyProof.Rows.lexLt itemOrd (PySem.W.keyToksAll xs) (PySem.W.keyToksAll ys) := fun xs ys => by
    unfold PySem.W.dataLt
    simp only [PySem.W.keyToks]
  show PySem.W.dataLt (.tuple [.int a, w]) (.tuple [.int b, v]) = PySem.W.dataLt (.tuple [.int a, w, .str k]) (.tuple [.int b, v, .str l])
  rw [t, t, PySem.W.dataLt_cons ai, PySem.W.dataLt_cons ai, PySem.W.dataLt_cons al, PySem.W.dataLt_cons al]
  cases e1 : PyData.eqv (.int a) (.int b) with
  | false => rfl
  | true =>
    have e2 : PyData.eqv w v = false := by rw [e1] at q'; simpa using q'
    rw [e2]; rfl
theorem mem_sortD {d : PyData} {ds : List PyData} : d ∈ sortD ds ↔ d ∈ ds := by unfold sortD; exact List.mem_mergeSort
theorem ents_sorted {p f : Int} {kvs : List (PyData × PyData)} (h : KvOk p f kvs) (hl : kvs.length ≤ 12) : ∃ es, sortedN [.list (kvs.map (entOf kvs))] = .ok es ∧ (∀ e ∈ es, EntOk p f e) ∧ es.length ≤ 12 ∧ Asc (es.map pairOf) := by
  have all0 : ∀ e ∈ kvs.map (entOf kvs), EntOk p f e := fun e he => by
    obtain ⟨q, hq, rfl⟩ := List.mem_map.mp he
    exact (ent_ok h hq).1
  have all1 : ∀ e ∈ sortD (kvs.map (entOf kvs)), EntOk p f e := fun e he => all0 e (mem_sortD.mp he)
  refine ⟨sortD (kvs.map (entOf kvs)), ?_, all1, by rw [sortD_len, List.length_map]; exact hl, ?_⟩
  · show (if _ then _ else _) = _
    rw [if_pos]
    unfold sortOk allAlike
    simp only [Bool.and_eq_true, Bool.or_eq_true, List.all_eq_true, decide_eq_true_eq]
    exact ⟨⟨fun d hd e he => ent_alike (all0 d hd) (all0 e he), .inl fun d hd => (ent_depth (all0 d hd)).2.2⟩, fun d hd => ⟨(ent_depth (all0 d hd)).1, (ent_depth (all0 d hd)).2.1⟩⟩
  · have nd0 : ((kvs.map (entOf kvs)).map pairOf).Nodup := by
      have e : (kvs.map (entOf kvs)).map pairOf = kvs.map (·.1) := by
        rw [List.map_map]
        exact List.map_congr_left fun q hq => (ent_ok h hq).2
      rw [e]; exact h.2
    have pm : (sortD (kvs.map (entOf kvs))).Perm (kvs.map (entOf kvs)) := by unfold sortD; exact List.mergeSort_perm _ _
    have nd : ((sortD (kvs.map (entOf kvs))).map pairOf).Nodup := (pm.map pairOf).symm.nodup nd0
    refine asc_of (List.pairwise_map.mpr ?_)
    have p1 := sorted_le (kvs.map (entOf kvs))
    have p2 := List.pairwise_map.mp nd
    refine (List.Pairwise.and_mem.mp (p1.and p2)).imp fun {a b} ⟨ha, hb, l, ne⟩ => ?_
    have A := all1 a ha
    have B := all1 b hb
    exact spot_lt (ent_spot A) (ent_spot B) ne (by rw [ent_lt B A (Ne.symm ne)]; exact l)
end Q

namespace Q
open PySem PySem.Spec PyProof.Rows L2 PL M
/-! members -/
theorem mem_alike {p : Int} {d e : PyData} (h : MemOk p d) (h' : MemOk p e) : PySem.W.alike d e = true := by
  obtain ⟨a, w, _, _, hw, rfl⟩ := h
  obtain ⟨b, v, _, _, hv, rfl⟩ := h'
  have := who_alike hw hv
  simp [PySem.W.alike, PySem.W.alikeAll, this]
theorem mem_spot {p : Int} {d : PyData} (h : MemOk p d) : SpotOk p 3 d := h
theorem mems_sorted {p : Int} {ms : List PyData} (h : ∀ m ∈ ms, MemOk p m) (nd : ms.Nodup) : ∃ ns, sortedN [.list ms] = .ok ns ∧ (∀ m ∈ ns, MemOk p m) ∧ ns.length = ms.length ∧ Asc ns ∧ ∀ m, m ∈ ns ↔ m ∈ ms := by
  have all1 : ∀ m ∈ sortD ms, MemOk p m := fun m hm => h m (mem_sortD.mp hm)
  refine ⟨sortD ms, ?_, all1, sortD_len ms, ?_, fun m => mem_sortD⟩
  · show (if _ then _ else _) = _
    rw [if_pos]
    unfold sortOk allAlike
    simp only [Bool.and_eq_true, Bool.or_eq_true, List.all_eq_true, decide_eq_true_eq]
    have dep : ∀ d ∈ ms, d.depth ≤ 60 ∧ nod d = true ∧ isTup1 d = true := fun d hd => by
      obtain ⟨a, w, _, _, hw, rfl⟩ := h d hd
      obtain ⟨d1, n1⟩ := who_depth hw
      refine ⟨?_, by simp [nod, nodAll, n1], rfl⟩
      simp [PyData.depth, PyData.depthAll]
      omega
    exact ⟨⟨fun d hd e he => mem_alike (h d hd) (h e he), .inl fun d hd => (dep d hd).2.2⟩, fun d hd => ⟨(dep d hd).1, (dep d hd).2.1⟩⟩
  · have pm : (sortD ms).Perm ms := by unfold sortD; exact List.mergeSort_perm _ _
    have nd1 : (sortD ms).Nodup := pm.symm.nodup nd
    refine asc_of ?_
    refine (List.Pairwise.and_mem.mp ((sorted_le ms).and nd1)).imp fun {a b} ⟨ha, hb, l, ne⟩ => ?_
    exact spot_lt (mem_spot (all1 a ha)) (mem_spot (all1 b hb)) ne l
/-- the three links of a line -/
def linkD (l : List Int) : List PyData := [.tuple [.int (l.getD 0 0), .int (l.getD 1 0)], .tuple [.int (l.getD 0 0), .int (l.getD 2 0)], .tuple [.int (l.getD 1 0), .int (l.getD 2 0)]]
def lines : List (List Int) := [[0, 1, 2], [0, 2, 1], [1, 0, 2], [1, 2, 0], [2, 0, 1], [2, 1, 0]]
def rankIn (l : List Int) (x : Int) : Nat := if x = l.getD 0 0 then 0 else if x = l.getD 1 0 then 1 else 2
def linkM (l : List Int) (k : Nat) : PyData := match (linkD l)[k]? with
  | some (.tuple [a, b]) => .tuple [a, .tuple [.str "g", b]]
  | _ => .none
theorem line_facts : ∀ l ∈ lines, ∃ a b c : Int, l = [a, b, c] ∧ 0 ≤ a ∧ a < 3 ∧ 0 ≤ b ∧ b < 3 ∧ 0 ≤ c ∧ c < 3 ∧ a ≠ b ∧ a ≠ c ∧ b ≠ c := by
  intro l hl
  simp only [lines, List.mem_cons, List.not_mem_nil, or_false] at hl
  rcases hl with rfl | rfl | rfl | rfl | rfl | rfl <;> exact ⟨_, _, _, rfl, by decide, by decide, by decide, by decide, by decide, by decide, by decide, by decide, by decide⟩
/-- what the members are, when the people below i have been told -/
structure MI (people : Int) (l : List Int) (i : Nat) (ms : List PyData) : Prop where
  ok : ∀ m ∈ ms, MemOk people m
  nd : ms.Nodup
  dn : Down (rankIn l) ms
  lt : ∀ g q, .tuple [.int g, .tuple [.str "p", .int q]] ∈ ms → q < i
  ln : ms.length ≤ 3 + 3 * i
theorem links_mi {people : Int} {l : List Int} (hl : l ∈ lines) (p : Nat → Bool) : MI people l 0 (((List.range 3).filter p).map (linkM l)) := by
  obtain ⟨a, b, c, rfl, a0, a1, b0, b1, c0, c1, ab, ac, bc⟩ := line_facts l hl
  have e : ∀ k, k < 3 → (k = 0 ∧ linkM [a, b, c] k = .tuple [.int a, .tuple [.str "g", .int b]]) ∨ (k = 1 ∧ linkM [a, b, c] k = .tuple [.int a, .tuple [.str "g", .int c]]) ∨ (k = 2 ∧ linkM [a, b, c] k = .tuple [.int b, .tuple [.str "g", .int c]]) := fun k hk => by
    rcases (show k = 0 ∨ k = 1 ∨ k = 2 by omega) with rfl | rfl | rfl
    · exact .inl ⟨rfl, rfl⟩
    · exact .inr (.inl ⟨rfl, rfl⟩)
    · exact .inr (.inr ⟨rfl, rfl⟩)
  have lt3 : ∀ k ∈ (List.range 3).filter p, k < 3 := fun k hk => List.mem_range.mp (List.mem_filter.mp hk).1
  refine ⟨fun m hm => ?_, ?_, fun x y hm => ?_, fun g q hm => ?_, ?_⟩
  · obtain ⟨k, hk, rfl⟩ := List.mem_map.mp hm
    rcases e k (lt3 k hk) with ⟨_, h⟩ | ⟨_, h⟩ | ⟨_, h⟩ <;> rw [h]
    · exact ⟨a, _, a0, a1, .inr ⟨b, b0, b1, rfl⟩, rfl⟩
    · exact ⟨a, _, a0, a1, .inr ⟨c, c0, c1, rfl⟩, rfl⟩
    · exact ⟨b, _, b0, b1, .inr ⟨c, c0, c1, rfl⟩, rfl⟩
  · refine List.pairwise_map.mpr ((List.Pairwise.and_mem.mp (List.nodup_range.filter p)).imp fun {j k} ⟨hj, hk, ne⟩ z => ?_)
    rcases e j (lt3 j hj) with ⟨r1, h⟩ | ⟨r1, h⟩ | ⟨r1, h⟩ <;> rcases e k (lt3 k hk) with ⟨r2, h'⟩ | ⟨r2, h'⟩ | ⟨r2, h'⟩ <;> rw [h, h'] at z <;> simp at z <;> first | omega | (obtain ⟨z1, z2⟩ := z; omega)
  · obtain ⟨k, hk, z⟩ := List.mem_map.mp hm
    have r0 : rankIn [a, b, c] a = 0 := by simp [rankIn]
    have r1 : rankIn [a, b, c] b = 1 := by have := ab.symm; simp [rankIn, this]
    have r2 : rankIn [a, b, c] c = 2 := by have h1 := ac.symm; have h2 := bc.symm; simp [rankIn, h1, h2]
    rcases e k (lt3 k hk) with ⟨_, h⟩ | ⟨_, h⟩ | ⟨_, h⟩ <;> rw [h] at z <;> simp at z <;> obtain ⟨rfl, rfl⟩ := z <;> omega
  · obtain ⟨k, hk, z⟩ := List.mem_map.mp hm
    have n : ("g" : Str) ≠ ("p" : Str) := by decide +kernel
    rcases e k (lt3 k hk) with ⟨_, h⟩ | ⟨_, h⟩ | ⟨_, h⟩ <;> rw [h] at z <;> simp [n] at z
  · rw [List.length_map]
    have := List.length_filter_le p (List.range 3)
    simpa using this
theorem MI.add {people : Int} {l : List Int} {i : Nat} {ms : List PyData} (h : MI people l i ms) (hi : (i : Int) < people) (p : Nat → Bool) : MI people l (i + 1) (ms ++ ((List.range 3).filter p).map fun g : Nat => .tuple [.int (g : Int), .tuple [.str "p", .int (i : Int)]]) := by
  have lt3 : ∀ k ∈ (List.range 3).filter p, k < 3 := fun k hk => List.mem_range.mp (List.mem_filter.mp hk).1
  have n : ("p" : Str) ≠ ("g" : Str) := by decide +kernel
  refine ⟨fun m hm => ?_, List.nodup_append.mpr ⟨h.nd, ?_, fun x hx y hy z => ?_⟩, fun x y hm => ?_, fun g q hm => ?_, ?_⟩
  · rcases List.mem_append.mp hm with hm | hm
    · exact h.ok m hm
    · obtain ⟨k, hk, rfl⟩ := List.mem_map.mp hm
      have := lt3 k hk
      exact ⟨k, _, by omega, by omega, .inl ⟨i, by omega, hi, rfl⟩, rfl⟩
  · refine List.pairwise_map.mpr ((List.nodup_range.filter p).imp fun {j k} ne z => ?_)
    simp at z
    omega
  · obtain ⟨k, hk, rfl⟩ := List.mem_map.mp hy
    subst z
    have := h.lt _ _ hx
    omega
  · rcases List.mem_append.mp hm with hm | hm
    · exact h.dn x y hm
    · obtain ⟨k, hk, z⟩ := List.mem_map.mp hm
      simp [n] at z
  · rcases List.mem_append.mp hm with hm | hm
    · have := h.lt g q hm; omega
    · obtain ⟨k, hk, z⟩ := List.mem_map.mp hm
      simp at z
      omega
  · rw [List.length_append, List.length_map]
    have := List.length_filter_le p (List.range 3)
    have := h.ln
    simp at *
    omega
end Q

namespace Q
open PySem PySem.Spec PyProof.Rows L2 PL M
/-- the state of the body's end -/
def S3 (dr : List Int) (people c : Int) (parents inside : List Int) (shut : PyData) (kvs : List (PyData × PyData)) (ents : PyData) (l : List Int) (mem c6 c13 c14 c15 c16 : Option Cell) : Ev :=
  [some (.pub (.list (dr.map .int))), some (.pub (.int people)), some (.pub (.int c)), some (.own []), some (.own (parents.map .int)), some (.own (inside.map .int)), c6, some (.pub shut), some (.odc kvs), some (.pub ents), some (.pub (.list (l.map .int))), some (.pub (.list (linkD l))), mem, c13, c14, c15, c16, none, none]
section
variable {dr : List Int} {people c : Int} {parents inside : List Int} {shut ents : PyData} {kvs : List (PyData × PyData)} {l : List Int} {c6 c13 c14 c15 c16 : Option Cell}
theorem mem0 (hd : 45 ≤ dr.length) (hl : l ∈ lines) : ∃ p : Nat → Bool, comp (apN rng1 (aC (cn (.int (3))) aN)) (.one 6) [6] law_body_c5 law_body_e4 (S3 dr people c parents inside shut kvs ents l none c6 c13 c14 c15 c16) = .ok (((List.range 3).filter p).map (linkM l)) := by
  obtain ⟨x, y, z, rfl, _⟩ := line_facts l hl
  refine ⟨fun k => decide (dr.getD (30 + k) 0 % 2 = 1), ?_⟩
  unfold comp
  have e6 : apN rng1 (aC (cn (.int 3)) aN) (S3 dr people c parents inside shut kvs ents [x, y, z] none c6 c13 c14 c15 c16) = .ok (rangeL 0 3) := by
    simp only [apN, aC, cn, aN, Rs.bnd_ok]
    exact rng1_i (by decide) (by decide)
  rw [e6, Rs.bnd_ok]
  unfold rangeL
  refine compL_filter (to := fun k : Nat => (wipeE (S3 dr people c parents inside shut kvs ents [x, y, z] none c6 c13 c14 c15 c16) [6]).set 6 (some (.pub (.int (0 + (k : Int)))))) _ fun k hk => ⟨rfl, ?_, fun _ => ?_⟩
  · have hk' := List.mem_range.mp hk
    have d1 : 30 + k < dr.length := by omega
    have x1 : ixD (.list (dr.map .int)) (.int (30 + (0 + k))) = .ok (.int (dr.getD (30 + k) 0)) := ixD_l (by rw [show (30 : Int) + (0 + k) = ((30 + k : Nat) : Int) by omega, PL.atI_nat]; simp [List.getD, d1])
    unfold law_body_c5
    simp only [S3, wipeE, List.set, tB', ap2, apC, aC, aN, vr, getC, cn, Rs.bnd_ok, addD_i, x1, intD_i, modD_i (show (0 : Int) < 2 by decide), eqD_i, isB_b]
  · have hk' := List.mem_range.mp hk
    unfold law_body_e4
    rcases (show k = 0 ∨ k = 1 ∨ k = 2 by omega) with rfl | rfl | rfl <;> rfl
theorem slice3 (i : Nat) (hi : 36 + 3 * i ≤ dr.length) : slD (.list (dr.map .int)) (some (33 + 3 * (i : Int))) (some (36 + 3 * (i : Int))) = .ok (.list (((dr.drop (33 + 3 * i)).take 3).map .int)) := by
  show Rs.ok (PyData.list (PL.cutD _ _ _)) = _
  unfold PL.cutD
  rw [show (33 + 3 * (i : Int)) = ((33 + 3 * i : Nat) : Int) by omega, show (36 + 3 * (i : Int)) = ((36 + 3 * i : Nat) : Int) by omega, HT.sIx_nat, HT.sIx_nat, List.length_map, Nat.min_eq_left (by omega), Nat.min_eq_left (by omega), ← List.map_drop, ← List.map_take]
  congr 4
  omega
theorem people_turn {ms : List PyData} {i : Nat} (hi : 36 + 3 * i ≤ dr.length) (hp : (i : Int) < people) (h : MI people l i ms) (hi4 : i < 4) :
    ∃ ms' c16', law_body_f3 ((S3 dr people c parents inside shut kvs ents l (some (.pub (.list ms))) c6 c13 c14 c15 c16).set 13 (some (.pub (.int i)))) = .ok (.nx (S3 dr people c parents inside shut kvs ents l (some (.pub (.list ms'))) c6 (some (.pub (.int i))) c14 c15 c16')) ∧ MI people l (i + 1) ms' := by
  let p : Nat → Bool := fun k => decide (dr.getD (33 + 3 * i + k) 0 % 3 = 1)
  let sl : PyData := .list (((dr.drop (33 + 3 * i)).take 3).map .int)
  refine ⟨ms ++ ((List.range 3).filter p).map fun g : Nat => .tuple [.int (g : Int), .tuple [.str "p", .int (i : Int)]], some (.pub sl), ?_, h.add hp p⟩
  have e1 : slD (.list (dr.map .int)) (some (33 + 3 * (i : Int))) (some (36 + 3 * (i : Int))) = .ok sl := slice3 i hi
  let ρ1 : Ev := (S3 dr people c parents inside shut kvs ents l (some (.pub (.list ms))) c6 (some (.pub (.int i))) c14 c15 (some (.pub sl)))
  have e2 : comp (apN rng1 (aC (cn (.int (3))) aN)) (.one 18) [18] law_body_c2 law_body_e1 ρ1 = .ok (((List.range 3).filter p).map fun g : Nat => .tuple [.int (g : Int), .tuple [.str "p", .int (i : Int)]]) := by
    unfold comp
    have e6 : apN rng1 (aC (cn (.int 3)) aN) ρ1 = .ok (rangeL 0 3) := by
      simp only [apN, aC, cn, aN, Rs.bnd_ok]
      exact rng1_i (by decide) (by decide)
    rw [e6, Rs.bnd_ok]
    have er : rangeL 0 3 = (List.range 3).map fun k : Nat => PyData.int (k : Int) := by
      unfold rangeL
      exact List.map_congr_left fun k _ => by rw [Int.zero_add]
    rw [er]
    refine compL_filter (to := fun k : Nat => (wipeE ρ1 [18]).set 18 (some (.pub (.int (k : Int))))) _ fun k hk => ⟨rfl, ?_, fun _ => ?_⟩
    · have hk' := List.mem_range.mp hk
      have d1 : 33 + 3 * i + k < dr.length := by omega
      have x1 : ixD sl (.int k) = .ok (.int (dr.getD (33 + 3 * i + k) 0)) := ixD_l (by
        rw [PL.atI_nat, List.getElem?_map, List.getElem?_take_of_lt hk', List.getElem?_drop]
        simp [List.getD, d1])
      unfold law_body_c2
      simp only [ρ1, S3, wipeE, List.set, tB', ap2, apC, aC, aN, vr, getC, cn, Rs.bnd_ok, x1, intD_i, modD_i (show (0 : Int) < 3 by decide), eqD_i, isB_b]
      rfl
    · unfold law_body_e1
      simp only [ρ1, S3, wipeE, List.set, tupE, aC, aN, vr, getC, cn, Rs.bnd_ok]
  have ln := h.ln
  have sz : ms.length + (((List.range 3).filter p).map fun g : Nat => PyData.tuple [.int (g : Int), .tuple [.str "p", .int (i : Int)]]).length ≤ sizeLine := by
    rw [List.length_map, sizeLine_eq]
    have := List.length_filter_le p (List.range 3)
    simp at this
    omega
  have e3 : slE (vr 0) (oS (ap2 addD (cn (.int (33))) (ap2 mulN (cn (.int (3))) (vr 13)))) (oS (ap2 addD (cn (.int (36))) (ap2 mulN (cn (.int (3))) (vr 13)))) ((S3 dr people c parents inside shut kvs ents l (some (.pub (.list ms))) c6 c13 c14 c15 c16).set 13 (some (.pub (.int i)))) = .ok sl := by
    have m1 : mulOk 3 (i : Int) = true := mulOk_l (by decide) (by decide)
    simp only [S3, List.set, slE, oS, vr, getC, Rs.bnd_ok, ap2, cn, mulN_i m1, addD_i, asI_i]
    exact e1
  unfold law_body_f3
  show ((sSet 16 _ _).bnd _) = _
  unfold sSet
  rw [e3]
  show (sq (sSet 12 (ap2 addD (vr 12) (lst (comp (apN rng1 (aC (cn (.int (3))) aN)) (.one 18) [18] law_body_c2 law_body_e1)))) sNil) ρ1 = _
  have e4 : ap2 addD (vr 12) (lst (comp (apN rng1 (aC (cn (.int (3))) aN)) (.one 18) [18] law_body_c2 law_body_e1)) ρ1 = .ok (.list (ms ++ ((List.range 3).filter p).map fun g : Nat => .tuple [.int (g : Int), .tuple [.str "p", .int (i : Int)]])) := by
    unfold ap2 lst
    rw [show vr 12 ρ1 = .ok (.list ms) from rfl, Rs.bnd_ok, e2, Rs.bnd_ok, Rs.bnd_ok]
    exact addD_l sz
  unfold sq sSet
  rw [e4]
  rfl
theorem people_loop {ms : List PyData} {n : Nat} (hd : 45 ≤ dr.length) (hn : (n : Int) = people) (hn4 : n ≤ 4) (h : MI people l 0 ms) :
    ∃ ms' c13' c16', forL (.one 13) law_body_f3 (rangeL 0 n) (S3 dr people c parents inside shut kvs ents l (some (.pub (.list ms))) c6 none c14 c15 none) = .ok (.nx (S3 dr people c parents inside shut kvs ents l (some (.pub (.list ms'))) c6 c13' c14 c15 c16')) ∧ MI people l n ms' := by
  let I : Nat → Ev → Prop := fun i ρ => ∃ ms c13 c16, MI people l i ms ∧ ρ = S3 dr people c parents inside shut kvs ents l (some (.pub (.list ms))) c6 c13 c14 c15 c16
  obtain ⟨ρ', e, ms', c13', c16', h', eρ⟩ := forL_range (j := 13) (n := n) (f := law_body_f3) I (S3 dr people c parents inside shut kvs ents l (some (.pub (.list ms))) c6 none c14 c15 none)
    (fun i ρ hi ⟨ms, c13, c16, h, eρ⟩ => by
      subst eρ
      obtain ⟨ms', c16', e, h'⟩ := people_turn (dr := dr) (c := c) (parents := parents) (inside := inside) (shut := shut) (kvs := kvs) (ents := ents) (c6 := c6) (c13 := c13) (c14 := c14) (c15 := c15) (c16 := c16) (by omega) (by omega) h (by omega)
      exact ⟨_, e, ms', _, c16', h', rfl⟩)
    ⟨ms, none, none, h, rfl⟩
  subst eρ
  exact ⟨ms', c13', c16', e, h'⟩
end
/-- the body: a house without its people -/
def BodyOk (people : Int) (c : Nat) (d : List PyData) : Prop := ∃ (ps : List Int) (bs : List Bool) (es ms : List PyData) (rank : Int → Nat), ps.length = c ∧ Tree ps ∧ bs.length = ps.length + 1 ∧
  (∀ e ∈ es, EntOk people (ps.length + 1) e) ∧ es.length ≤ 12 ∧ Asc (es.map pairOf) ∧ (∀ m ∈ ms, MemOk people m) ∧ Down rank ms ∧ ms.length ≤ 1000 ∧ Asc ms ∧
  d = [.tuple (ps.map .int), .tuple (bs.map .bool), .tuple es, .tuple ms]
theorem rep0 : ∀ c : Nat, (List.replicate c [PyData.int 0]).flatten = (List.replicate c (0 : Int)).map .int
  | 0 => rfl
  | k + 1 => by rw [List.replicate_succ, List.flatten_cons, rep0 k, List.replicate_succ]; rfl
theorem body {dr : List Int} {n : Nat} {c : Nat} (hd : 45 ≤ dr.length) (hr : ∀ x ∈ dr, 0 ≤ x ∧ x < 1000003) (h1 : 1 ≤ n) (h4 : n ≤ 4) (hc : c ≤ 5) : ∃ d, BodyOk n c d ∧ G_law_body [.list (dr.map .int), .int n, .int c] = .ok (.tuple d) := by
  obtain ⟨parents, inside, c6, c14, t1, t2⟩ := tree_loop (people := n) hd hr hc
  have lp := t2.lp
  let bs : List Bool := (List.range (c + 1)).map fun k => decide (dr.getD (10 + k) 0 % 4 = 1)
  let shut : PyData := .list (bs.map .bool)
  have d16 : 16 < dr.length := by omega
  let m : Nat := (dr[16] % 13).toNat
  have hm : m < 13 := by omega
  obtain ⟨kvs, c6', c15, k1, k2, k3⟩ := kinds_loop (dr := dr) (people := n) (c := c) (parents := parents) (inside := inside) (shut := shut) (c6 := c6) (c14 := c14) hd (by omega) (by omega) hm
  obtain ⟨es, s1, s2, s3, s4⟩ := ents_sorted k2 k3
  have d29 : 29 < dr.length := by omega
  obtain ⟨l, hl, el⟩ : ∃ l, l ∈ lines ∧ ixD (.list (lines.map fun l => .list (l.map .int))) (.int (dr[29] % 6)) = .ok (.list (l.map .int)) := by
    rcases (show dr[29] % 6 = 0 ∨ dr[29] % 6 = 1 ∨ dr[29] % 6 = 2 ∨ dr[29] % 6 = 3 ∨ dr[29] % 6 = 4 ∨ dr[29] % 6 = 5 by omega) with h | h | h | h | h | h <;> rw [h]
    · exact ⟨_, by simp [lines], rfl⟩
    · exact ⟨_, by simp [lines], rfl⟩
    · exact ⟨_, by simp [lines], rfl⟩
    · exact ⟨_, by simp [lines], rfl⟩
    · exact ⟨_, by simp [lines], rfl⟩
    · exact ⟨_, by simp [lines], rfl⟩
  obtain ⟨p, mm⟩ := mem0 (people := n) (c := c) (parents := parents) (inside := inside) (shut := shut) (ents := .list (kvs.map (entOf kvs))) (kvs := kvs) (c6 := c6') (c13 := none) (c14 := c14) (c15 := c15) (c16 := none) hd hl
  obtain ⟨ms', c13', c16', q1, q2⟩ := people_loop (people := n) (c := c) (parents := parents) (inside := inside) (shut := shut) (ents := .list (kvs.map (entOf kvs))) (kvs := kvs) (c6 := c6') (c14 := c14) (c15 := c15) (n := n) hd rfl h4 (links_mi hl p)
  obtain ⟨ns, r1, r2, r3, r4, r5⟩ := mems_sorted q2.ok q2.nd
  have qln := q2.ln
  refine ⟨_, ⟨parents, bs, es, ns, rankIn l, lp, tree_of hc t2, by simp [bs, lp], by rw [lp]; exact s2, s3, s4, r2, fun a b hab => q2.dn a b ((r5 _).mp hab), by omega, r4, rfl⟩, ?_⟩
  have x16 : ixD (.list (dr.map .int)) (.int 16) = .ok (.int dr[16]) := ixD_l (by rw [show (16 : Int) = ((16 : Nat) : Int) by rfl, PL.atI_nat]; simp [d16])
  have x29 : ixD (.list (dr.map .int)) (.int 29) = .ok (.int dr[29]) := ixD_l (by rw [show (29 : Int) = ((29 : Nat) : Int) by rfl, PL.atI_nat]; simp [d29])
  let ρ0 : Ev := [some (.pub (.list (dr.map .int))), some (.pub (.int n)), some (.pub (.int c)), none, none, none, none, none, none, none, none, none, none, none, none, none, none, none, none]
  have r0 : rng2 [.int 1, .int ((c : Int) + 1)] = .ok (((List.range c).map fun k : Nat => 1 + (k : Int)).map .int) := by
    have e := rng2_i (i := 1) (j := (c : Int) + 1) (by decide) (by decide) (by omega) (by omega) (by omega)
    rw [show ((c : Int) + 1 - 1).toNat = c by omega] at e
    rw [e, List.map_map]; rfl
  have a1 : sOwn 3 (apN rng2 (aC (cn (.int (1))) (aC (ap2 addD (vr 2) (cn (.int (1)))) aN))) ρ0 = .ok (.nx (ρ0.set 3 (some (.own (((List.range c).map fun k : Nat => 1 + (k : Int)).map .int))))) := sOwn_of (by
    simp only [ρ0, apN, aC, cn, aN, ap2, vr, getC, Rs.bnd_ok, addD_i]; exact r0)
  have rep : (List.replicate c [PyData.int 0]).flatten = (List.replicate c (0 : Int)).map .int := by
    exact rep0 c
  have a2 : sOwn 4 (mulL (aC (cn (.int (0))) aN) (vr 2)) (ρ0.set 3 (some (.own (((List.range c).map fun k : Nat => 1 + (k : Int)).map .int)))) = .ok (.nx ((ρ0.set 3 (some (.own (((List.range c).map fun k : Nat => 1 + (k : Int)).map .int)))).set 4 (some (.own ((List.replicate c (0 : Int)).map .int))))) := sOwn_of (by
    have k0 : (0 : Int) ≤ c := by omega
    have k1 : (c : Int) ≤ 1000 := by omega
    show (if (0 : Int) ≤ c ∧ (c : Int) ≤ 1000 ∧ [PyData.int 0].length ≤ 1000 then Rs.ok (List.replicate (c : Int).toNat [PyData.int 0]).flatten else Rs.no) = _
    rw [if_pos ⟨k0, k1, by decide⟩, Int.toNat_natCast, rep])
  have a3 : sOwn 5 (aC (cn (.int (0))) aN) ((ρ0.set 3 (some (.own (((List.range c).map fun k : Nat => 1 + (k : Int)).map .int)))).set 4 (some (.own ((List.replicate c (0 : Int)).map .int)))) = .ok (.nx (S1 dr n c ((List.range c).map fun k : Nat => 1 + (k : Int)) (List.replicate c 0) [0] none none)) := sOwn_of rfl
  have rc : ∀ k : Nat, k ≤ 1000 → rng1 [.int k] = .ok (rangeL 0 k) := fun k hk => by
    have e := rng1_i (j := (k : Int)) (by omega) (by omega)
    rw [Int.toNat_natCast] at e
    exact e
  have a4 : sFor (apN rng1 (aC (vr 2) aN)) (.one 6) law_body_f9 (S1 dr n c ((List.range c).map fun k : Nat => 1 + (k : Int)) (List.replicate c 0) [0] none none) = .ok (.nx (S1 dr n c [] parents inside c6 c14)) := sFor_of (ds := rangeL 0 c) (by
    simp only [S1, apN, aC, aN, vr, getC, Rs.bnd_ok]; exact rc c (by omega)) t1
  have a5 : sSet 7 (lst (comp (apN rng1 (aC (ap2 addD (vr 2) (cn (.int (1)))) aN)) (.one 6) [6] noIf law_body_e8)) (S1 dr n c [] parents inside c6 c14) = .ok (.nx ((S1 dr n c [] parents inside c6 c14).set 7 (some (.pub shut)))) := by
    refine sSet_of (lst_of (comp_of (ds := rangeL 0 (c + 1)) (by simp only [S1, apN, aC, aN, ap2, cn, vr, getC, Rs.bnd_ok, addD_i]; exact rc (c + 1) (by omega)) ?_))
    show compL _ _ _ _ ((List.range (c + 1)).map fun k : Nat => PyData.int (0 + (k : Int))) = .ok (bs.map .bool)
    show _ = Rs.ok (((List.range (c + 1)).map fun k => decide (dr.getD (10 + k) 0 % 4 = 1)).map PyData.bool)
    rw [List.map_map]
    refine compL_map (to := fun k : Nat => (wipeE (S1 dr n c [] parents inside c6 c14) [6]).set 6 (some (.pub (.int (0 + (k : Int)))))) _ fun k hk => ⟨rfl, ?_⟩
    have hk' := List.mem_range.mp hk
    have d1 : 10 + k < dr.length := by omega
    have x1 : ixD (.list (dr.map .int)) (.int (10 + (0 + k))) = .ok (.int (dr.getD (10 + k) 0)) := ixD_l (by rw [show (10 : Int) + (0 + k) = ((10 + k : Nat) : Int) by omega, PL.atI_nat]; simp [List.getD, d1])
    unfold law_body_e8
    simp only [S1, wipeE, List.set, ap2, apC, aC, aN, vr, getC, cn, Rs.bnd_ok, addD_i, x1, intD_i, modD_i (show (0 : Int) < 4 by decide), eqD_i]
    rfl
  have a6 : sDic 8 ((S1 dr n c [] parents inside c6 c14).set 7 (some (.pub shut))) = .ok (.nx (S2 dr n c parents inside shut [] c6 c14 none)) := rfl
  have a7 : sFor (apN rng1 (aC (ap2 modD (apC intD (aC (ap2 ixD (vr 0) (cn (.int (16)))) aN)) (cn (.int (13)))) aN)) (.one 6) law_body_f7 (S2 dr n c parents inside shut [] c6 c14 none) = .ok (.nx (S2 dr n c parents inside shut kvs c6' c14 c15)) := sFor_of (ds := rangeL 0 m) (by
    have e : (dr[16] % 13 : Int) = (m : Int) := by omega
    simp only [S2, apN, aC, aN, ap2, apC, cn, vr, getC, Rs.bnd_ok, x16, intD_i, modD_i (show (0 : Int) < 13 by decide), e]; exact rc m (by omega)) k1
  have a8 : sSet 9 (lst (comp (dkeysL 8) (.one 17) [17] noIf law_body_e6)) (S2 dr n c parents inside shut kvs c6' c14 c15) = .ok (.nx ((S2 dr n c parents inside shut kvs c6' c14 c15).set 9 (some (.pub (.list (kvs.map (entOf kvs))))))) := sSet_of (lst_of (ents k2))
  obtain ⟨x, y, z, ell, _⟩ := line_facts l hl
  subst ell
  have a9 : sSet 10 (ap2 ixD (lst (aC (lst (aC (cn (.int (0))) (aC (cn (.int (1))) (aC (cn (.int (2))) aN)))) (aC (lst (aC (cn (.int (0))) (aC (cn (.int (2))) (aC (cn (.int (1))) aN)))) (aC (lst (aC (cn (.int (1))) (aC (cn (.int (0))) (aC (cn (.int (2))) aN)))) (aC (lst (aC (cn (.int (1))) (aC (cn (.int (2))) (aC (cn (.int (0))) aN)))) (aC (lst (aC (cn (.int (2))) (aC (cn (.int (0))) (aC (cn (.int (1))) aN)))) (aC (lst (aC (cn (.int (2))) (aC (cn (.int (1))) (aC (cn (.int (0))) aN)))) aN))))))) (ap2 modD (apC intD (aC (ap2 ixD (vr 0) (cn (.int (29)))) aN)) (cn (.int (6))))) ((S2 dr n c parents inside shut kvs c6' c14 c15).set 9 (some (.pub (.list (kvs.map (entOf kvs)))))) = .ok (.nx (((S2 dr n c parents inside shut kvs c6' c14 c15).set 9 (some (.pub (.list (kvs.map (entOf kvs)))))).set 10 (some (.pub (.list ([x, y, z].map .int)))))) := sSet_of (by
    simp only [S2, List.set, ap2, apC, lst, aC, aN, cn, vr, getC, Rs.bnd_ok, x29, intD_i, modD_i (show (0 : Int) < 6 by decide)]
    exact el)
  have a10 : sSet 11 (lst (aC (tupE (aC (ap2 ixD (vr 10) (cn (.int (0)))) (aC (ap2 ixD (vr 10) (cn (.int (1)))) aN))) (aC (tupE (aC (ap2 ixD (vr 10) (cn (.int (0)))) (aC (ap2 ixD (vr 10) (cn (.int (2)))) aN))) (aC (tupE (aC (ap2 ixD (vr 10) (cn (.int (1)))) (aC (ap2 ixD (vr 10) (cn (.int (2)))) aN))) aN)))) (((S2 dr n c parents inside shut kvs c6' c14 c15).set 9 (some (.pub (.list (kvs.map (entOf kvs)))))).set 10 (some (.pub (.list ([x, y, z].map .int))))) = .ok (.nx (S3 dr n c parents inside shut kvs (.list (kvs.map (entOf kvs))) [x, y, z] none c6' none c14 c15 none)) := sSet_of rfl
  have a11 : sSet 12 (lst (comp (apN rng1 (aC (cn (.int (3))) aN)) (.one 6) [6] law_body_c5 law_body_e4)) (S3 dr n c parents inside shut kvs (.list (kvs.map (entOf kvs))) [x, y, z] none c6' none c14 c15 none) = .ok (.nx (S3 dr n c parents inside shut kvs (.list (kvs.map (entOf kvs))) [x, y, z] (some (.pub (.list (((List.range 3).filter p).map (linkM [x, y, z]))))) c6' none c14 c15 none)) := sSet_of (lst_of mm)
  have a12 : sFor (apN rng1 (aC (vr 1) aN)) (.one 13) law_body_f3 (S3 dr n c parents inside shut kvs (.list (kvs.map (entOf kvs))) [x, y, z] (some (.pub (.list (((List.range 3).filter p).map (linkM [x, y, z]))))) c6' none c14 c15 none) = .ok (.nx (S3 dr n c parents inside shut kvs (.list (kvs.map (entOf kvs))) [x, y, z] (some (.pub (.list ms'))) c6' c13' c14 c15 c16')) := sFor_of (ds := rangeL 0 n) (by
    simp only [S3, apN, aC, aN, vr, getC, Rs.bnd_ok]; exact rc n (by omega)) q1
  have a13 : sRet (tupE (aC (fun ρ => (ownL 4 ρ).bnd fun ds => .ok (.tuple ds)) (aC (apC tupleD (aC (vr 7) aN)) (aC (apC tupleD (aC (lst (apN sortedN (aC (vr 9) aN))) aN)) (aC (apC tupleD (aC (lst (apN sortedN (aC (vr 12) aN))) aN)) aN))))) (S3 dr n c parents inside shut kvs (.list (kvs.map (entOf kvs))) [x, y, z] (some (.pub (.list ms'))) c6' c13' c14 c15 c16') = .ok (.rt (.tuple [.tuple (parents.map .int), .tuple (bs.map .bool), .tuple es, .tuple ns])) := sRet_of (by
    have t1 : ∀ ds, tupleD [.list ds] = .ok (.tuple ds) := fun _ => rfl
    simp only [S3, tupE, aC, aN, apC, apN, lst, vr, getC, ownL, Rs.bnd_ok, s1, r1, t1, shut])
  refine run_rt ?_
  show b_law_body ρ0 = _
  unfold b_law_body
  rw [sq_nx a1, sq_nx a2, sq_nx a3, sq_nx a4, sq_nx a5, sq_nx a6, sq_nx a7, sq_nx a8, sq_nx a9, sq_nx a10, sq_nx a11, sq_nx a12, sq_rt a13]
end Q

namespace Q
open PySem PySem.Spec PyProof.Rows L2 PL M
theorem house (c : Int) : ∃ d, HouseOk d ∧ G_law_house [.int c] = .ok d := by
  obtain ⟨l, ⟨ll, lr⟩, el⟩ := draws c 47 (by decide)
  have d0 : 0 < l.length := by omega
  have d1 : 1 < l.length := by omega
  let n : Nat := ((1 : Int) + l[0] % 4).toNat
  let k : Nat := (l[1] % 6).toNat
  have en : (1 : Int) + l[0] % 4 = (n : Int) := by omega
  have ek : (l[1] % 6 : Int) = (k : Int) := by omega
  obtain ⟨d, hb, eb⟩ := body (dr := l.drop 2) (n := n) (c := k) (by rw [List.length_drop]; omega) (fun x hx => lr x (List.mem_of_mem_drop hx)) (by omega) (by omega) (by omega)
  obtain ⟨ps, bs, es, ms, rank, e1, e2, e3, e4, e5, e6, e7, e8, e9, e10, ed⟩ := hb
  refine ⟨.tuple (.int n :: d), ⟨n, ps, bs, es, ms, rank, by omega, by omega, e2, e3, e4, e5, e6, e7, e8, e9, e10, by rw [ed]⟩, ?_⟩
  have x0 : ixD (.list (l.map .int)) (.int 0) = .ok (.int l[0]) := ixD_l (by rw [atI_zero]; simp [d0])
  have x1 : ixD (.list (l.map .int)) (.int 1) = .ok (.int l[1]) := ixD_l (by rw [show (1 : Int) = ((1 : Nat) : Int) by rfl, PL.atI_nat]; simp [d1])
  have x2 : slD (.list (l.map .int)) (some 2) none = .ok (.list ((l.drop 2).map .int)) := by
    show Rs.ok (PyData.list (PL.cutD _ _ _)) = _
    unfold PL.cutD
    have h2 : HT.sIx (l.map PyData.int).length 0 (some 2) = min 2 (l.map PyData.int).length := HT.sIx_nat _ _ 2
    have h3 : min 2 (l.map PyData.int).length = 2 := by rw [List.length_map]; omega
    rw [h2, HT.sIx_none, h3, ← List.map_drop, List.take_of_length_le (by rw [List.length_map, List.length_map, List.length_drop]; exact Nat.le_refl _)]
  have el' : G_law_draws [.int c, .int (47 : Int)] = .ok (.list (l.map .int)) := el
  have sz : [PyData.int n].length + d.length ≤ sizeLine := by rw [ed, sizeLine_eq]; simp
  have e11 : addD (.tuple [.int n]) (.tuple d) = .ok (.tuple (.int n :: d)) := addD_t sz
  unfold G_law_house b_law_house
  refine run_rt ?_
  have a1 : sSet 1 (apC G_law_draws (aC (vr 0) (aC (cn (.int (47))) aN))) [some (.pub (.int c)), none, none] = .ok (.nx [some (.pub (.int c)), some (.pub (.list (l.map .int))), none]) := sSet_of (by
    simp only [apC, aC, aN, vr, getC, cn, Rs.bnd_ok]; exact el')
  have a2 : sSet 2 (ap2 addD (cn (.int (1))) (ap2 modD (apC intD (aC (ap2 ixD (vr 1) (cn (.int (0)))) aN)) (cn (.int (4))))) [some (.pub (.int c)), some (.pub (.list (l.map .int))), none] = .ok (.nx [some (.pub (.int c)), some (.pub (.list (l.map .int))), some (.pub (.int n))]) := sSet_of (by
    simp only [ap2, apC, aC, aN, vr, getC, cn, Rs.bnd_ok, x0, intD_i, modD_i (show (0 : Int) < 4 by decide), addD_i, en])
  show sq _ _ [some (.pub (.int c)), none, none] = _
  rw [sq_nx a1, sq_nx a2, sq_rt (sRet_of (d := .tuple (.int n :: d)) (by
    simp only [ap2, apC, tupE, slE, oS, oN, aC, aN, vr, getC, cn, Rs.bnd_ok, x1, intD_i, modD_i (show (0 : Int) < 6 by decide), asI_i, ek, x2, eb, e11]))]
end Q

/-! T1: typed things and their data -/
namespace Q
open PySem PySem.Spec PyProof.Rows L2 PL M
theorem ac0 {ρ : Ev} : aN ρ = .ok [] := rfl
theorem ac1 {f : Ev → Rs PyData} {g : Ev → Rs (List PyData)} {ρ : Ev} {a : PyData} {r : List PyData} (h : f ρ = .ok a) (h' : g ρ = .ok r) : aC f g ρ = .ok (a :: r) := by unfold aC; rw [h, Rs.bnd_ok, h', Rs.bnd_ok]
theorem apc1 {op : List PyData → Rs PyData} {f : Ev → Rs PyData} {ρ : Ev} {a : PyData} {r : Rs PyData} (h : f ρ = .ok a) (e : op [a] = r) : apC op (aC f aN) ρ = r := by unfold apC; rw [ac1 h ac0, Rs.bnd_ok, e]
theorem apc2 {op : List PyData → Rs PyData} {f g : Ev → Rs PyData} {ρ : Ev} {a b : PyData} {r : Rs PyData} (h : f ρ = .ok a) (h2 : g ρ = .ok b) (e : op [a, b] = r) : apC op (aC f (aC g aN)) ρ = r := by unfold apC; rw [ac1 h (ac1 h2 ac0), Rs.bnd_ok, e]
theorem apc3 {op : List PyData → Rs PyData} {f g k : Ev → Rs PyData} {ρ : Ev} {a b c : PyData} {r : Rs PyData} (h : f ρ = .ok a) (h2 : g ρ = .ok b) (h3 : k ρ = .ok c) (e : op [a, b, c] = r) : apC op (aC f (aC g (aC k aN))) ρ = r := by unfold apC; rw [ac1 h (ac1 h2 (ac1 h3 ac0)), Rs.bnd_ok, e]
theorem apc4 {op : List PyData → Rs PyData} {f g k l : Ev → Rs PyData} {ρ : Ev} {a b c d : PyData} {r : Rs PyData} (h : f ρ = .ok a) (h2 : g ρ = .ok b) (h3 : k ρ = .ok c) (h4 : l ρ = .ok d) (e : op [a, b, c, d] = r) : apC op (aC f (aC g (aC k (aC l aN)))) ρ = r := by unfold apC; rw [ac1 h (ac1 h2 (ac1 h3 (ac1 h4 ac0))), Rs.bnd_ok, e]
theorem apc5 {op : List PyData → Rs PyData} {f g k l m : Ev → Rs PyData} {ρ : Ev} {a b c d x : PyData} {r : Rs PyData} (h : f ρ = .ok a) (h2 : g ρ = .ok b) (h3 : k ρ = .ok c) (h4 : l ρ = .ok d) (h5 : m ρ = .ok x) (e : op [a, b, c, d, x] = r) : apC op (aC f (aC g (aC k (aC l (aC m aN))))) ρ = r := by unfold apC; rw [ac1 h (ac1 h2 (ac1 h3 (ac1 h4 (ac1 h5 ac0)))), Rs.bnd_ok, e]
theorem apd2 {op : PyData → PyData → Rs PyData} {f g : Ev → Rs PyData} {ρ : Ev} {a b : PyData} {r : Rs PyData} (h : f ρ = .ok a) (h2 : g ρ = .ok b) (e : op a b = r) : ap2 op f g ρ = r := by unfold ap2; rw [h, Rs.bnd_ok, h2, Rs.bnd_ok, e]
theorem apn1 {op : List PyData → Rs (List PyData)} {f : Ev → Rs PyData} {ρ : Ev} {a : PyData} {r : Rs (List PyData)} (h : f ρ = .ok a) (e : op [a] = r) : apN op (aC f aN) ρ = r := by unfold apN; rw [ac1 h ac0, Rs.bnd_ok, e]
theorem tNot_of {g : Ev → Rs Bool} {ρ : Ev} {b : Bool} (h : g ρ = .ok b) : tNot' g ρ = .ok (!b) := by unfold tNot'; rw [h, Rs.bnd_ok]
theorem tru_of {f : Ev → Rs PyData} {ρ : Ev} {b : Bool} (h : f ρ = .ok (.bool b)) : tru f ρ = .ok b := by unfold tru; rw [h, Rs.bnd_ok]; rfl
theorem tB_of {f : Ev → Rs PyData} {ρ : Ev} {b : Bool} (h : f ρ = .ok (.bool b)) : tB' f ρ = .ok b := by unfold tB'; rw [h, Rs.bnd_ok]; rfl
theorem tOr_f {f g : Ev → Rs Bool} {ρ : Ev} {b : Bool} (h : f ρ = .ok false) (h' : g ρ = .ok b) : tOr' f g ρ = .ok b := by unfold tOr'; rw [h, Rs.bnd_ok, if_neg (by simp), h']
theorem tOr_t {f g : Ev → Rs Bool} {ρ : Ev} (h : f ρ = .ok true) : tOr' f g ρ = .ok true := by unfold tOr'; rw [h, Rs.bnd_ok, if_pos rfl]
theorem tAnd_t {f g : Ev → Rs Bool} {ρ : Ev} {b : Bool} (h : f ρ = .ok true) (h' : g ρ = .ok b) : tAnd' f g ρ = .ok b := by unfold tAnd'; rw [h, Rs.bnd_ok, if_pos rfl, h']
theorem tAnd_f {f g : Ev → Rs Bool} {ρ : Ev} (h : f ρ = .ok false) : tAnd' f g ρ = .ok false := by unfold tAnd'; rw [h, Rs.bnd_ok, if_neg (by simp)]
theorem sIf_f {g : Ev → Rs Bool} {a b : Ev → Rs Out} {ρ : Ev} (h : g ρ = .ok false) : sIf g a b ρ = b ρ := by unfold sIf; rw [h, Rs.bnd_ok, if_neg (by simp)]
theorem sIf_t {g : Ev → Rs Bool} {a b : Ev → Rs Out} {ρ : Ev} (h : g ρ = .ok true) : sIf g a b ρ = a ρ := by unfold sIf; rw [h, Rs.bnd_ok, if_pos rfl]
theorem seqE_of {f : Ev → Rs PyData} {ρ : Ev} {d : PyData} {ds : List PyData} (h : f ρ = .ok d) (h' : seqOf d = .ok ds) : seqE f ρ = .ok ds := by unfold seqE; rw [h, Rs.bnd_ok, h']
class Enc (α : Type) where
  enc : α → PyData
  eqv : ∀ a b, PyData.eqv (enc a) (enc b) = true ↔ a = b
  dep : ∀ a, (enc a).depth ≤ 20
  nd : ∀ a, nod (enc a) = true
class EncO (α : Type) extends Enc α where
  alk : ∀ a b, PySem.W.alike (enc a) (enc b) = true
  kd : (∀ a, isTup1 (enc a) = true) ∨ (∀ a, isFlat (enc a) = true)
theorem depthAll_le {n : Nat} : ∀ {ds : List PyData}, (∀ d ∈ ds, d.depth ≤ n) → PyData.depthAll ds ≤ n
  | [], _ => by simp [PyData.depthAll]
  | d :: r, h => by
    have h1 := h d List.mem_cons_self
    have h2 := depthAll_le (ds := r) fun x hx => h x (List.mem_cons_of_mem _ hx)
    simp only [PyData.depthAll]; omega
theorem nodAll_of : ∀ {ds : List PyData}, (∀ d ∈ ds, nod d = true) → nodAll ds = true
  | [], _ => rfl
  | d :: r, h => by
    rw [nodAll, h d List.mem_cons_self, nodAll_of fun x hx => h x (List.mem_cons_of_mem _ hx)]; rfl
section
variable {α : Type} [Enc α]
theorem eqvB [DecidableEq α] (a b : α) : PyData.eqv (Enc.enc a) (Enc.enc b) = decide (a = b) := by
  by_cases h : a = b
  · rw [decide_eq_true h]; exact (Enc.eqv a b).mpr h
  · rw [decide_eq_false h]
    cases q : PyData.eqv (Enc.enc a) (Enc.enc b) with
    | false => rfl
    | true => exact absurd ((Enc.eqv a b).mp q) h
theorem shal {β : Type} [Enc β] (a : α) (b : β) : shallow (Enc.enc a) (Enc.enc b) = true := by
  unfold shallow
  rw [Enc.nd, Enc.nd, decide_eq_true (by have := Enc.dep a; omega)]; rfl
theorem eqD_e [DecidableEq α] (a b : α) : eqD (Enc.enc a) (Enc.enc b) = .ok (.bool (decide (a = b))) := by
  unfold eqD; rw [if_pos (shal a b), eqvB]
theorem neD_e [DecidableEq α] (a b : α) : neD (Enc.enc a) (Enc.enc b) = .ok (.bool (!decide (a = b))) := by
  unfold neD; rw [if_pos (shal a b), eqvB]
theorem anyE [DecidableEq α] (a : α) : ∀ l : List α, (l.map Enc.enc).any (fun z => PyData.eqv z (Enc.enc a)) = decide (a ∈ l)
  | [] => by simp
  | b :: r => by
    rw [List.map_cons, List.any_cons, anyE a r, eqvB]
    by_cases h : b = a
    · subst h; simp
    · have : ¬ a = b := fun z => h z.symm
      simp [h, this]
theorem nodE (l : List α) : nodAll (l.map Enc.enc) = true := nodAll_of fun d hd => by
  obtain ⟨a, _, rfl⟩ := List.mem_map.mp hd
  exact Enc.nd a
theorem depE (l : List α) : PyData.depthAll (l.map Enc.enc) ≤ 20 := depthAll_le fun d hd => by
  obtain ⟨a, _, rfl⟩ := List.mem_map.mp hd
  exact Enc.dep a
theorem inD_l [DecidableEq α] (a : α) (l : List α) : inD (Enc.enc a) (.list (l.map Enc.enc)) = .ok (.bool (decide (a ∈ l))) := by
  show (if _ then _ else _) = _
  rw [if_pos ⟨by have := depE l; omega, nodE l, Enc.nd a⟩, anyE]
theorem inD_t [DecidableEq α] (a : α) (l : List α) : inD (Enc.enc a) (.tuple (l.map Enc.enc)) = .ok (.bool (decide (a ∈ l))) := by
  show (if _ then _ else _) = _
  rw [if_pos ⟨by have := depE l; omega, nodE l, Enc.nd a⟩, anyE]
theorem ninD_l [DecidableEq α] (a : α) (l : List α) : ninD (Enc.enc a) (.list (l.map Enc.enc)) = .ok (.bool (!decide (a ∈ l))) := by
  show (if _ then _ else _) = _
  rw [if_pos ⟨by have := depE l; omega, nodE l, Enc.nd a⟩, anyE]
/-- a row of them, as one thing -/
theorem eqvAllE (l m : List α) : PyData.eqvAll (l.map Enc.enc) (m.map Enc.enc) = true ↔ l = m := by
  induction l generalizing m with
  | nil => cases m <;> simp [PyData.eqvAll]
  | cons a r ih =>
    cases m with
    | nil => simp [PyData.eqvAll]
    | cons b s => simp [PyData.eqvAll, ih, Enc.eqv]
end
/-! order -/
section
variable {α : Type} [EncO α]
def ltE (a b : α) : Bool := PySem.W.dataLt (Enc.enc a) (Enc.enc b)
def AscE (l : List α) : Prop := l.Pairwise fun a b => ltE a b = true
theorem ltE_irr (a : α) : ltE a a = false := (listOrd itemOrd).irrefl _
theorem ltE_tr {a b c : α} (h : ltE a b = true) (h' : ltE b c = true) : ltE a c = true := (listOrd itemOrd).trans _ _ _ h h'
theorem ltE_tri {a b : α} (ne : a ≠ b) (h : ltE b a = false) : ltE a b = true := lt_of (EncO.alk a b) (by
  cases q : PyData.eqv (Enc.enc a) (Enc.enc b) with
  | false => rfl
  | true => exact absurd ((Enc.eqv a b).mp q) ne) h
def sortE (l : List α) : List α := l.mergeSort fun a b => !ltE b a
theorem sortE_map (l : List α) : sortD (l.map Enc.enc) = (sortE l).map Enc.enc := by
  unfold sortD sortE
  exact (List.map_mergeSort (f := (Enc.enc : α → PyData)) (r := fun a b => !ltE b a) (s := PySem.W.dataLe false fun d : PyData => d) fun a _ b _ => rfl).symm
theorem mem_sortE {a : α} {l : List α} : a ∈ sortE l ↔ a ∈ l := List.mem_mergeSort
theorem perm_sortE (l : List α) : (sortE l).Perm l := List.mergeSort_perm _ _
theorem sortE_asc {l : List α} (h : l.Nodup) : AscE (sortE l) := by
  have p1 : (sortE l).Pairwise fun a b => ltE b a = false := by
    have T := PySem.W.sortLe_total (listOrd itemOrd) false (fun d : PyData => PySem.W.keyToks d)
    have := List.pairwise_mergeSort (le := fun a b : α => !ltE b a) (fun a b c h1 h2 => T.trans (Enc.enc a) (Enc.enc b) (Enc.enc c) h1 h2) (fun a b => by rcases T.total (Enc.enc a) (Enc.enc b) with h | h <;> (rw [Bool.or_eq_true]); exact .inl h; exact .inr h) l
    exact this.imp fun {a b} h => by simpa using h
  have nd : (sortE l).Nodup := (perm_sortE l).symm.nodup h
  exact (p1.and nd).imp fun {a b} ⟨h1, h2⟩ => ltE_tri h2 h1
theorem asc_nodup {l : List α} (h : AscE l) : l.Nodup := h.imp fun {a b} q e => by rw [e, ltE_irr] at q; exact nomatch q
theorem asc_ext : ∀ {l m : List α}, AscE l → AscE m → (∀ a, a ∈ l ↔ a ∈ m) → l = m
  | [], [], _, _, _ => rfl
  | [], b :: _, _, _, h => nomatch (h b).mpr List.mem_cons_self
  | a :: _, [], _, _, h => nomatch (h a).mp List.mem_cons_self
  | a :: r, b :: s, h1, h2, h => by
    have ⟨a1, a2⟩ := List.pairwise_cons.mp h1
    have ⟨b1, b2⟩ := List.pairwise_cons.mp h2
    have e : a = b := by
      rcases List.mem_cons.mp ((h a).mp List.mem_cons_self) with e | e
      · exact e
      · rcases List.mem_cons.mp ((h b).mpr List.mem_cons_self) with e' | e'
        · exact e'.symm
        · have := ltE_tr (a1 b e') (b1 a e)
          rw [ltE_irr] at this; exact nomatch this
    subst e
    rw [asc_ext a2 b2 fun x => ?_]
    have na : a ∉ r := fun z => by have := a1 a z; rw [ltE_irr] at this; exact nomatch this
    have nb : a ∉ s := fun z => by have := b1 a z; rw [ltE_irr] at this; exact nomatch this
    constructor
    · intro hx
      rcases List.mem_cons.mp ((h x).mp (List.mem_cons_of_mem _ hx)) with rfl | q
      · exact absurd hx na
      · exact q
    · intro hx
      rcases List.mem_cons.mp ((h x).mpr (List.mem_cons_of_mem _ hx)) with rfl | q
      · exact absurd hx nb
      · exact q
theorem sortE_of {l m : List α} (h : l.Nodup) (hm : AscE m) (e : ∀ a, a ∈ l ↔ a ∈ m) : sortE l = m := asc_ext (sortE_asc h) hm fun a => mem_sortE.trans (e a)
theorem sorted_e (l : List α) : sortedN [.list (l.map Enc.enc)] = .ok ((sortE l).map Enc.enc) := by
  show (if _ then _ else _) = _
  rw [if_pos, sortE_map]
  unfold sortOk allAlike
  simp only [Bool.and_eq_true, Bool.or_eq_true, List.all_eq_true, decide_eq_true_eq]
  refine ⟨⟨fun d hd e he => ?_, ?_⟩, fun d hd => ?_⟩
  · obtain ⟨a, _, rfl⟩ := List.mem_map.mp hd
    obtain ⟨b, _, rfl⟩ := List.mem_map.mp he
    exact EncO.alk a b
  · rcases EncO.kd (α := α) with h | h
    · exact .inl fun d hd => by obtain ⟨a, _, rfl⟩ := List.mem_map.mp hd; exact h a
    · exact .inr fun d hd => by obtain ⟨a, _, rfl⟩ := List.mem_map.mp hd; exact h a
  · obtain ⟨a, _, rfl⟩ := List.mem_map.mp hd
    exact ⟨by have := Enc.dep a; omega, Enc.nd a⟩
theorem AscE.filter {l : List α} (h : AscE l) (p : α → Bool) : AscE (l.filter p) := List.Pairwise.filter p h
theorem asc_typed {l : List α} (h : Asc (l.map Enc.enc)) : AscE l := by
  have step : ∀ {l : List α}, (∀ (k : Nat) (a b : α), l[k]? = some a → l[k + 1]? = some b → ltE a b = true) → AscE l := by
    intro l
    induction l with
    | nil => intro _; exact List.Pairwise.nil
    | cons a r ih =>
      intro h
      have ih' := ih fun k x y h1 h2 => h (k + 1) x y (by simpa using h1) (by simpa using h2)
      refine List.pairwise_cons.mpr ⟨fun b hb => ?_, ih'⟩
      cases r with
      | nil => exact nomatch hb
      | cons c s =>
        have ac := h 0 a c rfl rfl
        rcases List.mem_cons.mp hb with rfl | hb
        · exact ac
        · exact ltE_tr ac ((List.pairwise_cons.mp ih').1 b hb)
  refine step fun k a b h1 h2 => ?_
  have := h k (Enc.enc a) (Enc.enc b) (by rw [List.getElem?_map, h1]; rfl) (by rw [List.getElem?_map, h2]; rfl)
  unfold ltE
  revert this
  unfold ltD
  split
  · intro q
    rename_i i j e1 e2
    have : decide (i < j) = true := by simpa using q
    rw [e1, e2]
    have := of_decide_eq_true this
    simp [PySem.W.dataLt, PySem.W.keyToks, PyProof.Rows.lexLt, itemOrd, itemLt, this]
  · split
    · intro q; simpa using q
    · intro q; exact nomatch q
theorem asc_data {l : List α} (kd : ∀ a : α, isTup1 (Enc.enc a) = true) (h : AscE l) : Asc (l.map Enc.enc) := by
  refine asc_of (List.pairwise_map.mpr (h.imp fun {a b} q => ?_))
  have ka := kd a
  have kb := kd b
  have s := shal a b
  have al := EncO.alk a b
  have q' : PySem.W.dataLt (Enc.enc a) (Enc.enc b) = true := q
  revert s al q' ka kb
  generalize Enc.enc a = x
  generalize Enc.enc b = y
  intro ka kb s al q'
  unfold isTup1 at ka kb
  split at ka
  · split at kb
    · exact ltD_t al s q'
    · exact nomatch kb
  · exact nomatch ka
end
end Q

/-! T2: people and groups, entries, members -/
namespace Q
open PySem PySem.Spec PyProof.Rows L2 PL M
theorem p_ne_g : ("p" : Str) ≠ ("g" : Str) := by decide +kernel
theorem g_ne_p : ("g" : Str) ≠ ("p" : Str) := by decide +kernel
theorem allow_ne_bar : ("allow" : Str) ≠ ("bar" : Str) := by decide +kernel
theorem bar_ne_allow : ("bar" : Str) ≠ ("allow" : Str) := by decide +kernel
inductive Who where
  | p (i : Int) | g (i : Int)
  deriving DecidableEq
@[reducible] def Who.kind : Who → Str | .p _ => "p" | .g _ => "g"
@[reducible] def Who.num : Who → Int | .p i => i | .g i => i
def Who.isP : Who → Bool | .p _ => true | .g _ => false
def encW (w : Who) : PyData := .tuple [.str w.kind, .int w.num]
structure Ent where
  f : Int
  w : Who
  a : Bool
  deriving DecidableEq
def kindS (a : Bool) : Str := if a = true then "allow" else "bar"
def encE (e : Ent) : PyData := .tuple [.int e.f, encW e.w, .str (kindS e.a)]
structure Mem where
  g : Int
  w : Who
  deriving DecidableEq
def encM (m : Mem) : PyData := .tuple [.int m.g, encW m.w]
theorem kindS_inj {a b : Bool} : kindS a = kindS b ↔ a = b := by
  cases a <;> cases b <;> simp [kindS, allow_ne_bar, bar_ne_allow]
theorem who_eqvI (a b : Who) : PyData.eqv (encW a) (encW b) = true ↔ a = b := by
  cases a <;> cases b <;> simp [encW, PyData.eqv, PyData.eqvAll, p_ne_g, g_ne_p]
instance : EncO Int where
  enc := .int
  eqv a b := by simp [PyData.eqv]
  dep a := by simp [PyData.depth]
  nd a := rfl
  alk a b := by simp [PySem.W.alike]
  kd := .inr fun _ => rfl
instance : EncO Who where
  enc := encW
  eqv := who_eqvI
  dep a := by cases a <;> simp [encW, PyData.depth, PyData.depthAll]
  nd a := by cases a <;> rfl
  alk a b := by cases a <;> cases b <;> simp [encW, PySem.W.alike, PySem.W.alikeAll]
  kd := .inl fun _ => rfl
instance : EncO Ent where
  enc := encE
  eqv a b := by
    obtain ⟨f, w, k⟩ := a
    obtain ⟨f', w', k'⟩ := b
    have := who_eqvI w w'
    simp [encE, PyData.eqv, PyData.eqvAll, this, kindS_inj]
  dep a := by obtain ⟨f, w, k⟩ := a; cases w <;> simp [encE, encW, PyData.depth, PyData.depthAll]
  nd a := by obtain ⟨f, w, k⟩ := a; cases w <;> rfl
  alk a b := by
    obtain ⟨f, w, k⟩ := a
    obtain ⟨f', w', k'⟩ := b
    cases w <;> cases w' <;> simp [encE, encW, PySem.W.alike, PySem.W.alikeAll]
  kd := .inl fun _ => rfl
instance : EncO Mem where
  enc := encM
  eqv a b := by
    obtain ⟨f, w⟩ := a
    obtain ⟨f', w'⟩ := b
    have := who_eqvI w w'
    simp [encM, PyData.eqv, PyData.eqvAll, this]
  dep a := by obtain ⟨f, w⟩ := a; cases w <;> simp [encM, encW, PyData.depth, PyData.depthAll]
  nd a := by obtain ⟨f, w⟩ := a; cases w <;> rfl
  alk a b := by
    obtain ⟨f, w⟩ := a
    obtain ⟨f', w'⟩ := b
    cases w <;> cases w' <;> simp [encM, encW, PySem.W.alike, PySem.W.alikeAll]
  kd := .inl fun _ => rfl
theorem kind_p (w : Who) : eqD (.str w.kind) (.str "p") = .ok (.bool w.isP) := by
  cases w <;> simp [eqD, shallow, nod, PyData.depth, PyData.eqv, g_ne_p, Who.isP]
theorem eqD_w (a b : Who) : eqD (encW a) (encW b) = .ok (.bool (decide (a = b))) := eqD_e a b
theorem eqD_wg (a : Who) (i : Int) : eqD (encW a) (.tuple [.str "g", .int i]) = .ok (.bool (decide (a = .g i))) := eqD_e a (.g i)
theorem eqD_wp (a : Who) (i : Int) : eqD (encW a) (.tuple [.str "p", .int i]) = .ok (.bool (decide (a = .p i))) := eqD_e a (.p i)
theorem lt_int (a b : Int) : ltE a b = decide (a < b) := by
  unfold ltE
  simp [Enc.enc, PySem.W.dataLt, PySem.W.keyToks, PyProof.Rows.lexLt, itemOrd, itemLt]
/-! loops over typed rows -/
theorem forL_rel {α σ : Type} {t : Tg} {f : Ev → Rs Out} {enc : α → PyData} (I : σ → Ev → Prop) (step : σ → α → σ) : ∀ (l : List α) (s : σ) (ρ : Ev), (∀ a ∈ l, ∀ s ρ, I s ρ → ∃ ρ1 ρ2, tgt t (enc a) ρ = .ok ρ1 ∧ (f ρ1 = .ok (.nx ρ2) ∨ f ρ1 = .ok (.ct ρ2)) ∧ I (step s a) ρ2) → I s ρ → ∃ ρ', forL t f (l.map enc) ρ = .ok (.nx ρ') ∧ I (l.foldl step s) ρ'
  | [], s, ρ, _, h => ⟨ρ, rfl, h⟩
  | a :: r, s, ρ, st, h => by
    obtain ⟨ρ1, ρ2, e1, e2, h2⟩ := st a List.mem_cons_self s ρ h
    obtain ⟨ρ', e3, h3⟩ := forL_rel I step r (step s a) ρ2 (fun b hb => st b (List.mem_cons_of_mem _ hb)) h2
    refine ⟨ρ', ?_, h3⟩
    show (tgt t (enc a) ρ).bnd _ = _
    rw [e1]
    rcases e2 with e2 | e2
    · show (f ρ1).bnd _ = _; rw [e2]; exact e3
    · show (f ρ1).bnd _ = _; rw [e2]; exact e3
/-! groups -/
/-- a step further up -/
def upG (ms : List Mem) (found : List Int) : List Int := [0, 1, 2].filter fun g => decide (g ∈ found) || found.any fun x => decide ((⟨g, .g x⟩ : Mem) ∈ ms)
def dirG (ms : List Mem) (w : Who) : List Int := [0, 1, 2].filter fun g => decide ((⟨g, w⟩ : Mem) ∈ ms)
def groupsOf (ms : List Mem) (w : Who) (deep : Bool) : List Int := if deep = true then upG ms (upG ms (dirG ms w)) else dirG ms w
inductive Reach (ms : List Mem) (w : Who) : Int → Prop where
  | dir {g : Int} : (⟨g, w⟩ : Mem) ∈ ms → Reach ms w g
  | up {g x : Int} : Reach ms w x → (⟨g, .g x⟩ : Mem) ∈ ms → Reach ms w g
def GrpOk (ms : List Mem) : Prop := ∀ m ∈ ms, 0 ≤ m.g ∧ m.g < 3
theorem mem012 {g : Int} : g ∈ ([0, 1, 2] : List Int) ↔ 0 ≤ g ∧ g < 3 := by
  simp only [List.mem_cons, List.not_mem_nil, or_false]; omega
theorem Reach.lt {ms : List Mem} {w : Who} {g : Int} (ok : GrpOk ms) (h : Reach ms w g) : 0 ≤ g ∧ g < 3 := by
  cases h with
  | dir h => exact ok _ h
  | up _ h => exact ok _ h
theorem upG_asc (ms : List Mem) (f : List Int) : AscE (upG ms f) := AscE.filter (by simp [AscE, lt_int]) _
theorem groups_asc (ms : List Mem) (w : Who) (deep : Bool) : AscE (groupsOf ms w deep) := by
  unfold groupsOf
  split
  · exact upG_asc _ _
  · exact AscE.filter (by simp [AscE, lt_int]) _
theorem mem_upG {ms : List Mem} {f : List Int} {g : Int} : g ∈ upG ms f ↔ (0 ≤ g ∧ g < 3) ∧ (g ∈ f ∨ ∃ x ∈ f, (⟨g, .g x⟩ : Mem) ∈ ms) := by
  unfold upG
  rw [List.mem_filter, mem012]
  simp
theorem mem_dirG {ms : List Mem} {w : Who} {g : Int} : g ∈ dirG ms w ↔ (0 ≤ g ∧ g < 3) ∧ (⟨g, w⟩ : Mem) ∈ ms := by
  unfold dirG
  rw [List.mem_filter, mem012]
  simp
/-- three groups: two steps up are all -/
theorem up_closed {ms : List Mem} (f : List Int) (hf : ∀ x ∈ f, 0 ≤ x ∧ x < 3) {g x : Int} (ok : GrpOk ms) (hx : x ∈ upG ms (upG ms f)) (hm : (⟨g, .g x⟩ : Mem) ∈ ms) : g ∈ upG ms (upG ms f) := by
  have g3 : 0 ≤ g ∧ g < 3 := ok _ hm
  have lift : ∀ {f : List Int} {x : Int}, (∀ x ∈ f, 0 ≤ x ∧ x < 3) → x ∈ f → x ∈ upG ms f := fun hf h => mem_upG.mpr ⟨hf _ h, .inl h⟩
  have hA : ∀ x ∈ upG ms f, 0 ≤ x ∧ x < 3 := fun x h => (mem_upG.mp h).1
  by_cases h1 : ∀ x ∈ upG ms (upG ms f), x ∈ upG ms f
  · exact mem_upG.mpr ⟨g3, .inr ⟨x, h1 x hx, hm⟩⟩
  · have ⟨b, hb, nb⟩ : ∃ b ∈ upG ms (upG ms f), b ∉ upG ms f := by
      refine Classical.byContradiction fun z => h1 fun x hx => Classical.byContradiction fun q => z ⟨x, hx, q⟩
    have ⟨b3, hb'⟩ := mem_upG.mp hb
    rcases hb' with hb' | ⟨y, hy, ym⟩
    · exact absurd hb' nb
    · have ny : y ∉ f := fun z => nb (mem_upG.mpr ⟨b3, .inr ⟨y, z, ym⟩⟩)
      have ⟨y3, hy'⟩ := mem_upG.mp hy
      rcases hy' with hy' | ⟨z, hz, zm⟩
      · exact absurd hy' ny
      · have z3 := hf z hz
        have e1 : y ≠ z := fun e => ny (by rw [e]; exact hz)
        have e2 : b ≠ y := fun e => nb (by rw [e]; exact hy)
        have e3 : b ≠ z := fun e => nb (by rw [e]; exact lift hf hz)
        rcases (show g = z ∨ g = y ∨ g = b by omega) with rfl | rfl | rfl
        · exact lift hA (lift hf hz)
        · exact lift hA hy
        · exact hb
theorem groups_iff {ms : List Mem} {w : Who} {g : Int} (ok : GrpOk ms) : g ∈ groupsOf ms w true ↔ Reach ms w g := by
  have hd : ∀ x ∈ dirG ms w, 0 ≤ x ∧ x < 3 := fun x hx => (mem_dirG.mp hx).1
  constructor
  · intro h
    have h : g ∈ upG ms (upG ms (dirG ms w)) := h
    have r0 : ∀ x ∈ dirG ms w, Reach ms w x := fun x hx => .dir (mem_dirG.mp hx).2
    have r1 : ∀ f : List Int, (∀ x ∈ f, Reach ms w x) → ∀ x ∈ upG ms f, Reach ms w x := fun f hf x hx => by
      rcases (mem_upG.mp hx).2 with q | ⟨y, hy, hm⟩
      · exact hf x q
      · exact .up (hf y hy) hm
    exact r1 _ (r1 _ r0) g h
  · intro h
    show g ∈ upG ms (upG ms (dirG ms w))
    induction h with
    | dir h =>
      have b := ok _ h
      exact mem_upG.mpr ⟨b, .inl (mem_upG.mpr ⟨b, .inl (mem_dirG.mpr ⟨b, h⟩)⟩)⟩
    | up _ hm ih => exact up_closed _ hd ok ih hm
theorem groups_iff0 {ms : List Mem} {w : Who} {g : Int} (ok : GrpOk ms) : g ∈ groupsOf ms w false ↔ (⟨g, w⟩ : Mem) ∈ ms := by
  show g ∈ dirG ms w ↔ _
  rw [mem_dirG]
  exact ⟨fun h => h.2, fun h => ⟨ok _ h, h⟩⟩
end Q

/-! T3: the program's groups_of -/
namespace Q
open PySem PySem.Spec PyProof.Rows L2 PL M
def dM (ms : List Mem) : PyData := .tuple (ms.map encM)
def dI (l : List Int) : PyData := .tuple (l.map .int)
/-- the state of groups_of -/
def SG (ms : List Mem) (w : Who) (deep : Bool) (l : List Int) (k : Nat) (c d : Option Cell) : Ev := [some (.pub (dM ms)), some (.pub (encW w)), some (.pub (.bool deep)), some (.own (l.map .int)), some (.pub (.int k)), c, d]
theorem grp_first (ms : List Mem) (w : Who) (deep : Bool) : comp (seqE (vr 0)) (.many [5, 6]) [5, 6] groups_of_c5 groups_of_e4 [some (.pub (dM ms)), some (.pub (encW w)), some (.pub (.bool deep)), none, none, none, none] = .ok (((ms.filter fun m => decide (m.w = w)).map (·.g)).map .int) := by
  refine comp_of (ds := ms.map encM) rfl ?_
  rw [List.map_map]
  refine compL_filter (enc := encM) (to := fun m => [some (.pub (dM ms)), some (.pub (encW w)), some (.pub (.bool deep)), none, none, some (.pub (.int m.g)), some (.pub (encW m.w))]) ms fun m _ => ⟨rfl, ?_, fun _ => rfl⟩
  unfold groups_of_c5
  simp only [tB', ap2, vr, getC, Rs.bnd_ok, eqD_w, isB_b]
/-- a turn of groups_of: what is found then -/
def turnG (ms : List Mem) (x : Int) (l : List Int) : List Int := ms.foldl (fun l m => if m.w = .g x ∧ m.g ∉ l then l ++ [m.g] else l) l
theorem turnG_pre (x : Int) : ∀ (ms : List Mem) (l : List Int), ∃ r, turnG ms x l = l ++ r
  | [], l => ⟨[], by simp [turnG]⟩
  | m :: ms, l => by
    unfold turnG
    rw [List.foldl_cons]
    obtain ⟨r, e⟩ := turnG_pre x ms (if m.w = .g x ∧ m.g ∉ l then l ++ [m.g] else l)
    unfold turnG at e
    rw [e]
    split
    · exact ⟨m.g :: r, by simp⟩
    · exact ⟨r, rfl⟩
theorem mem_turnG (x g : Int) : ∀ (ms : List Mem) (l : List Int), g ∈ turnG ms x l ↔ g ∈ l ∨ (⟨g, .g x⟩ : Mem) ∈ ms
  | [], l => by simp [turnG]
  | m :: ms, l => by
    unfold turnG
    rw [List.foldl_cons]
    have ih := mem_turnG x g ms (if m.w = .g x ∧ m.g ∉ l then l ++ [m.g] else l)
    unfold turnG at ih
    rw [ih]
    obtain ⟨a, w⟩ := m
    by_cases h : w = .g x
    · subst h
      by_cases h2 : a ∈ l
      · simp only [h2, not_true_eq_false, and_false, if_false, List.mem_cons, Mem.mk.injEq, and_true]
        constructor
        · rintro (q | q)
          · exact .inl q
          · exact .inr (.inr q)
        · rintro (q | q | q)
          · exact .inl q
          · exact .inl (q ▸ h2)
          · exact .inr q
      · simp only [h2, not_false_eq_true, and_self, if_true, List.mem_cons, Mem.mk.injEq, and_true, List.mem_append, List.not_mem_nil, or_false]
        exact or_assoc
    · have : (⟨g, .g x⟩ : Mem) ≠ ⟨a, w⟩ := fun z => h (by injection z with _ z; exact z.symm)
      simp [h, this]
theorem turnG_nd (x : Int) : ∀ (ms : List Mem) (l : List Int), l.Nodup → (turnG ms x l).Nodup
  | [], l, h => h
  | m :: ms, l, h => by
    unfold turnG
    rw [List.foldl_cons]
    refine turnG_nd x ms _ ?_
    split
    · rename_i q
      refine List.nodup_append.mpr ⟨h, by simp, fun a ha b hb e => ?_⟩
      rw [List.mem_singleton.mp hb] at e
      exact q.2 (e ▸ ha)
    · exact h
/-- what may be found: groups, each once -/
def Fnd (l : List Int) : Prop := l.Nodup ∧ ∀ x ∈ l, 0 ≤ x ∧ x < 3
theorem Fnd.len {l : List Int} (h : Fnd l) : l.length ≤ 3 := nodup_le 3 l h.1 h.2
theorem Fnd.add {l : List Int} (h : Fnd l) {x : Int} (hx : 0 ≤ x ∧ x < 3) (n : x ∉ l) : Fnd (l ++ [x]) := by
  refine ⟨List.nodup_append.mpr ⟨h.1, by simp, fun a ha b hb e => ?_⟩, fun y hy => ?_⟩
  · rw [List.mem_singleton.mp hb] at e
    exact n (e ▸ ha)
  · rcases List.mem_append.mp hy with hy | hy
    · exact h.2 y hy
    · rw [List.mem_singleton.mp hy]; exact hx
theorem turnG_fnd {ms : List Mem} (ok : GrpOk ms) (x : Int) : ∀ {l : List Int}, Fnd l → Fnd (turnG ms x l) := fun {l} h => ⟨turnG_nd x ms l h.1, fun y hy => by
  rcases (mem_turnG x y ms l).mp hy with q | q
  · exact h.2 y q
  · exact ok _ q⟩
theorem grp_turn {ms : List Mem} (ok : GrpOk ms) {w : Who} {deep : Bool} {l : List Int} {k : Nat} {c d : Option Cell} (hk : k < l.length) (hl : Fnd l) : ∃ c' d', groups_of_w2 (SG ms w deep l k c d) = .ok (.nx (SG ms w deep (turnG ms l[k] l) (k + 1) c' d')) := by
  obtain ⟨ρ', e, ⟨c', d', r, er, fr, eρ⟩⟩ := forL_rel (t := .many [5, 6]) (f := groups_of_f1) (enc := encM)
    (fun (s : List Int) ρ => ∃ c d r, s = l ++ r ∧ Fnd s ∧ ρ = SG ms w deep s k c d)
    (fun s m => if m.w = .g l[k] ∧ m.g ∉ s then s ++ [m.g] else s) ms l (SG ms w deep l k c d) (fun m hm s ρ ⟨c, d, r, er, fs, eρ⟩ => by
      subst eρ
      have hk' : k < s.length := by rw [er, List.length_append]; omega
      have ek : s[k] = l[k] := by simp only [er]; rw [List.getElem_append_left hk]
      have hx : s[k]?.map PyData.int = some (.int l[k]) := by rw [List.getElem?_eq_getElem hk', ek]; rfl
      have ss : s.length < sizeLine := by have := fs.len; rw [sizeLine_eq]; omega
      refine ⟨_, SG ms w deep (if m.w = .g l[k] ∧ m.g ∉ s then s ++ [m.g] else s) k (some (.pub (.int m.g))) (some (.pub (encW m.w))), rfl, .inl ?_, _, _, if m.w = .g l[k] ∧ m.g ∉ s then r ++ [m.g] else r, ?_, ?_, rfl⟩
      · by_cases h1 : m.w = .g l[k]
        · by_cases h2 : m.g ∈ s
          · unfold groups_of_f1
            simp [PL.run, PL.startE, PL.sq, PL.sIf, PL.sRet, PL.sSet, PL.sAsg, PL.sOwn, PL.sApp, PL.sFor, PL.sDo, PL.sDoX, PL.sSetX, PL.sRetX, PL.argX, PL.lft, PL.sNil, PL.tB', PL.tru, PL.ap1, PL.ap2, PL.apC, PL.apN, PL.lst, PL.tupE, PL.vr, PL.getC, PL.aC, PL.aN, PL.cn, PL.seqE, PL.pubE, PL.tgt_one, PL.atI_nat, PL.addD_i, PL.subD_i, PL.modD_i, PL.divD_i, PL.mulN_i, PL.mulOk_l, PL.mulOk_r, PL.ltD_i, PL.leD_i, PL.gtD_i, PL.geD_i, PL.lenD_l, PL.lenD_t, PL.intD_i, PL.maxD_i, PL.minD_i, PL.isB_b, PL.truD_b, PL.asI_i, PL.seqOf_l, PL.seqOf_t, PL.rng1_i, PL.rng2_i, tAnd', ownIx, ownL, ownV, hk', ek, eqD_wg, h1, nin_ints, h2, SG]
          · unfold groups_of_f1
            simp [PL.run, PL.startE, PL.sq, PL.sIf, PL.sRet, PL.sSet, PL.sAsg, PL.sOwn, PL.sApp, PL.sFor, PL.sDo, PL.sDoX, PL.sSetX, PL.sRetX, PL.argX, PL.lft, PL.sNil, PL.tB', PL.tru, PL.ap1, PL.ap2, PL.apC, PL.apN, PL.lst, PL.tupE, PL.vr, PL.getC, PL.aC, PL.aN, PL.cn, PL.seqE, PL.pubE, PL.tgt_one, PL.atI_nat, PL.addD_i, PL.subD_i, PL.modD_i, PL.divD_i, PL.mulN_i, PL.mulOk_l, PL.mulOk_r, PL.ltD_i, PL.leD_i, PL.gtD_i, PL.geD_i, PL.lenD_l, PL.lenD_t, PL.intD_i, PL.maxD_i, PL.minD_i, PL.isB_b, PL.truD_b, PL.asI_i, PL.seqOf_l, PL.seqOf_t, PL.rng1_i, PL.rng2_i, tAnd', ownIx, ownL, ownV, hk', ek, eqD_wg, h1, nin_ints, h2, SG, ss]
        · unfold groups_of_f1
          simp [PL.run, PL.startE, PL.sq, PL.sIf, PL.sRet, PL.sSet, PL.sAsg, PL.sOwn, PL.sApp, PL.sFor, PL.sDo, PL.sDoX, PL.sSetX, PL.sRetX, PL.argX, PL.lft, PL.sNil, PL.tB', PL.tru, PL.ap1, PL.ap2, PL.apC, PL.apN, PL.lst, PL.tupE, PL.vr, PL.getC, PL.aC, PL.aN, PL.cn, PL.seqE, PL.pubE, PL.tgt_one, PL.atI_nat, PL.addD_i, PL.subD_i, PL.modD_i, PL.divD_i, PL.mulN_i, PL.mulOk_l, PL.mulOk_r, PL.ltD_i, PL.leD_i, PL.gtD_i, PL.geD_i, PL.lenD_l, PL.lenD_t, PL.intD_i, PL.maxD_i, PL.minD_i, PL.isB_b, PL.truD_b, PL.asI_i, PL.seqOf_l, PL.seqOf_t, PL.rng1_i, PL.rng2_i, tAnd', ownIx, ownL, ownV, hk', ek, eqD_wg, h1, nin_ints, SG]
      · split
        · rw [er, List.append_assoc]
        · exact er
      · split
        · rename_i q; exact fs.add (ok _ hm) q.2
        · exact fs) ⟨c, d, [], by simp, hl, rfl⟩
  subst eρ
  refine ⟨c', d', ?_⟩
  have e' : forL (.many [5, 6]) groups_of_f1 (ms.map encM) [some (.pub (.tuple (ms.map encM))), some (.pub (encW w)), some (.pub (.bool deep)), some (.own (l.map .int)), some (.pub (.int k)), c, d] = .ok (.nx (SG ms w deep (turnG ms l[k] l) k c' d')) := e
  unfold groups_of_w2
  simp [PL.run, PL.startE, PL.sq, PL.sIf, PL.sRet, PL.sSet, PL.sAsg, PL.sOwn, PL.sApp, PL.sFor, PL.sDo, PL.sDoX, PL.sSetX, PL.sRetX, PL.argX, PL.lft, PL.sNil, PL.tB', PL.tru, PL.ap1, PL.ap2, PL.apC, PL.apN, PL.lst, PL.tupE, PL.vr, PL.getC, PL.aC, PL.aN, PL.cn, PL.seqE, PL.pubE, PL.tgt_one, PL.atI_nat, PL.addD_i, PL.subD_i, PL.modD_i, PL.divD_i, PL.mulN_i, PL.mulOk_l, PL.mulOk_r, PL.ltD_i, PL.leD_i, PL.gtD_i, PL.geD_i, PL.lenD_l, PL.lenD_t, PL.intD_i, PL.maxD_i, PL.minD_i, PL.isB_b, PL.truD_b, PL.asI_i, PL.seqOf_l, PL.seqOf_t, PL.rng1_i, PL.rng2_i, SG, dM, e', sAug]
/-- groups_of -/
theorem groups_of {ms : List Mem} (ok : GrpOk ms) (nd : ms.Nodup) (w : Who) (deep : Bool) : G_groups_of [dM ms, encW w, .bool deep] = .ok (dI (groupsOf ms w deep)) := by
  let l0 : List Int := (ms.filter fun m => decide (m.w = w)).map (·.g)
  have f0 : Fnd l0 := by
    have n0 : l0.Nodup := by
      refine List.pairwise_map.mpr ((List.Pairwise.and_mem.mp (nd.filter fun m => decide (m.w = w))).imp fun {a b} ⟨ha, hb, ne⟩ e => ne ?_)
      have h1 : a.w = w := by simpa using (List.mem_filter.mp ha).2
      have h2 : b.w = w := by simpa using (List.mem_filter.mp hb).2
      cases a; cases b; simp only at e h1 h2; rw [e, h1, h2]
    refine ⟨n0, fun x hx => ?_⟩
    obtain ⟨m, hm, rfl⟩ := List.mem_map.mp hx
    exact ok _ (List.mem_filter.mp hm).1
  have m0 : ∀ g, g ∈ l0 ↔ (⟨g, w⟩ : Mem) ∈ ms := fun g => by
    constructor
    · intro h
      obtain ⟨m, hm, rfl⟩ := List.mem_map.mp h
      have ⟨h1, h2⟩ := List.mem_filter.mp hm
      have h2 : m.w = w := of_decide_eq_true h2
      rw [← h2]; exact h1
    · intro h
      exact List.mem_map.mpr ⟨_, List.mem_filter.mpr ⟨h, by simp⟩, rfl⟩
  -- the loop
  obtain ⟨ρ', w1, l, k, c, d, fl, sl, pl, cl, eρ⟩ := whL_ex (g := groups_of_t3) (f := groups_of_w2)
    (fun m ρ => ∃ l k c d, Fnd l ∧ k ≤ l.length ∧ (∀ x ∈ l, Reach ms w x) ∧ (∀ x ∈ l0, x ∈ l) ∧ (deep = false → l = l0) ∧ (∀ (j : Nat) x g, j < k → l[j]? = some x → (⟨g, .g x⟩ : Mem) ∈ ms → g ∈ l) ∧ m = 3 - k ∧ ρ = SG ms w deep l k c d)
    (fun ρ => ∃ l k c d, Fnd l ∧ (∀ x ∈ l, Reach ms w x) ∧ (∀ x ∈ l0, x ∈ l) ∧ ((deep = false → l = l0) ∧ (deep = true → ∀ x g, x ∈ l → (⟨g, .g x⟩ : Mem) ∈ ms → g ∈ l)) ∧ ρ = SG ms w deep l k c d)
    (fun m ρ ⟨l, k, c, d, fl, kl, sl, pl, dl, cl, em, eρ⟩ => by
      subst eρ
      have l3 := fl.len
      cases deep with
      | false => exact .inl ⟨by unfold groups_of_t3; simp [PL.run, PL.startE, PL.sq, PL.sIf, PL.sRet, PL.sSet, PL.sAsg, PL.sOwn, PL.sApp, PL.sFor, PL.sDo, PL.sDoX, PL.sSetX, PL.sRetX, PL.argX, PL.lft, PL.sNil, PL.tB', PL.tru, PL.ap1, PL.ap2, PL.apC, PL.apN, PL.lst, PL.tupE, PL.vr, PL.getC, PL.aC, PL.aN, PL.cn, PL.seqE, PL.pubE, PL.tgt_one, PL.atI_nat, PL.addD_i, PL.subD_i, PL.modD_i, PL.divD_i, PL.mulN_i, PL.mulOk_l, PL.mulOk_r, PL.ltD_i, PL.leD_i, PL.gtD_i, PL.geD_i, PL.lenD_l, PL.lenD_t, PL.intD_i, PL.maxD_i, PL.minD_i, PL.isB_b, PL.truD_b, PL.asI_i, PL.seqOf_l, PL.seqOf_t, PL.rng1_i, PL.rng2_i, tAnd', SG], l, k, c, d, fl, sl, pl, ⟨dl, fun z => (nomatch z)⟩, rfl⟩
      | true =>
        by_cases lt : k < l.length
        · obtain ⟨c', d', e⟩ := grp_turn ok (w := w) (deep := true) (c := c) (d := d) lt fl
          obtain ⟨r, er⟩ := turnG_pre l[k] ms l
          refine .inr ⟨?_, _, 3 - (k + 1), e, by omega, turnG ms l[k] l, k + 1, c', d', turnG_fnd ok _ fl, by rw [er, List.length_append]; omega, fun x hx => ?_, fun x hx => (mem_turnG _ _ _ _).mpr (.inl (pl x hx)), fun z => (nomatch z), fun j x g hj hx hm => ?_, rfl, rfl⟩
          · unfold groups_of_t3
            simp [PL.run, PL.startE, PL.sq, PL.sIf, PL.sRet, PL.sSet, PL.sAsg, PL.sOwn, PL.sApp, PL.sFor, PL.sDo, PL.sDoX, PL.sSetX, PL.sRetX, PL.argX, PL.lft, PL.sNil, PL.tB', PL.tru, PL.ap1, PL.ap2, PL.apC, PL.apN, PL.lst, PL.tupE, PL.vr, PL.getC, PL.aC, PL.aN, PL.cn, PL.seqE, PL.pubE, PL.tgt_one, PL.atI_nat, PL.addD_i, PL.subD_i, PL.modD_i, PL.divD_i, PL.mulN_i, PL.mulOk_l, PL.mulOk_r, PL.ltD_i, PL.leD_i, PL.gtD_i, PL.geD_i, PL.lenD_l, PL.lenD_t, PL.intD_i, PL.maxD_i, PL.minD_i, PL.isB_b, PL.truD_b, PL.asI_i, PL.seqOf_l, PL.seqOf_t, PL.rng1_i, PL.rng2_i, tAnd', ownV, ownL, flatD, SG, lt]
          · rcases (mem_turnG _ _ _ _).mp hx with q | q
            · exact sl x q
            · exact .up (sl _ (List.getElem_mem lt)) q
          · rw [er, List.getElem?_append_left (by omega)] at hx
            refine (mem_turnG _ _ _ _).mpr ?_
            by_cases ej : j = k
            · subst ej
              rw [List.getElem?_eq_getElem lt] at hx
              rw [Option.some.inj hx]
              exact .inr hm
            · exact .inl (cl j x g (by omega) hx hm)
        · refine .inl ⟨?_, l, k, c, d, fl, sl, pl, ⟨fun z => (nomatch z), fun _ x g hx hm => ?_⟩, rfl⟩
          · unfold groups_of_t3
            simp [PL.run, PL.startE, PL.sq, PL.sIf, PL.sRet, PL.sSet, PL.sAsg, PL.sOwn, PL.sApp, PL.sFor, PL.sDo, PL.sDoX, PL.sSetX, PL.sRetX, PL.argX, PL.lft, PL.sNil, PL.tB', PL.tru, PL.ap1, PL.ap2, PL.apC, PL.apN, PL.lst, PL.tupE, PL.vr, PL.getC, PL.aC, PL.aN, PL.cn, PL.seqE, PL.pubE, PL.tgt_one, PL.atI_nat, PL.addD_i, PL.subD_i, PL.modD_i, PL.divD_i, PL.mulN_i, PL.mulOk_l, PL.mulOk_r, PL.ltD_i, PL.leD_i, PL.gtD_i, PL.geD_i, PL.lenD_l, PL.lenD_t, PL.intD_i, PL.maxD_i, PL.minD_i, PL.isB_b, PL.truD_b, PL.asI_i, PL.seqOf_l, PL.seqOf_t, PL.rng1_i, PL.rng2_i, tAnd', ownV, ownL, flatD, SG, lt]
          · obtain ⟨j, hj⟩ := List.getElem?_of_mem hx
            exact cl j x g (by have := (List.getElem?_eq_some_iff.mp hj).1; omega) hj hm)
    100000 3 (SG ms w deep l0 0 none none) ⟨l0, 0, none, none, f0, Nat.zero_le _, fun x hx => .dir ((m0 x).mp hx), fun x hx => hx, fun _ => rfl, fun j _ _ h => absurd h (Nat.not_lt_zero _), rfl, rfl⟩ (by omega)
  subst eρ
  have eG : sortE l = groupsOf ms w deep := sortE_of fl.1 (groups_asc ms w deep) fun g => by
    cases deep with
    | false =>
      rw [groups_iff0 ok, cl.1 rfl]
      exact m0 g
    | true =>
      rw [groups_iff ok]
      constructor
      · exact sl g
      · intro h
        induction h with
        | dir h => exact pl _ ((m0 _).mpr h)
        | up _ hm ih => exact cl.2 rfl _ _ ih hm
  have es : sortedN [.list (l.map .int)] = .ok ((groupsOf ms w deep).map .int) := by rw [← eG]; exact sorted_e l
  have gf := grp_first ms w deep
  have w1' : whL groups_of_t3 groups_of_w2 100000 [some (.pub (dM ms)), some (.pub (encW w)), some (.pub (.bool deep)), some (.own (l0.map .int)), some (.pub (.int 0)), none, none] = .ok (.nx (SG ms w deep l k c d)) := w1
  unfold G_groups_of b_groups_of
  refine run_rt ?_
  show sq _ _ [some (.pub (dM ms)), some (.pub (encW w)), some (.pub (.bool deep)), none, none, none, none] = _
  rw [sq_nx (sOwn_of gf), sq_nx (sSet_of (d := .int 0) rfl)]
  show sq _ _ [some (.pub (dM ms)), some (.pub (encW w)), some (.pub (.bool deep)), some (.own (l0.map .int)), some (.pub (.int 0)), none, none] = _
  rw [sq_nx w1']
  simp [PL.run, PL.startE, PL.sq, PL.sIf, PL.sRet, PL.sSet, PL.sAsg, PL.sOwn, PL.sApp, PL.sFor, PL.sDo, PL.sDoX, PL.sSetX, PL.sRetX, PL.argX, PL.lft, PL.sNil, PL.tB', PL.tru, PL.ap1, PL.ap2, PL.apC, PL.apN, PL.lst, PL.tupE, PL.vr, PL.getC, PL.aC, PL.aN, PL.cn, PL.seqE, PL.pubE, PL.tgt_one, PL.atI_nat, PL.addD_i, PL.subD_i, PL.modD_i, PL.divD_i, PL.mulN_i, PL.mulOk_l, PL.mulOk_r, PL.ltD_i, PL.leD_i, PL.gtD_i, PL.geD_i, PL.lenD_l, PL.lenD_t, PL.intD_i, PL.maxD_i, PL.minD_i, PL.isB_b, PL.truD_b, PL.asI_i, PL.seqOf_l, PL.seqOf_t, PL.rng1_i, PL.rng2_i, SG, es, tupleD]
  rfl
end Q

/-! T4: houses, rules and states -/
namespace Q
open PySem PySem.Spec PyProof.Rows L2 PL M
/-- one comes to folder 0 in so many steps -/
inductive Up (ps : List Int) : Nat → Int → Prop where
  | top (n : Nat) : Up ps n 0
  | step {n : Nat} {f p : Int} : 1 ≤ f → ps[(f - 1).toNat]? = some p → Up ps n p → Up ps (n + 1) f
theorem Up.mono {ps : List Int} {n m : Nat} {f : Int} (h : Up ps n f) (l : n ≤ m) : Up ps m f := by
  induction h generalizing m with
  | top n => exact .top m
  | step h1 h2 _ ih =>
    obtain ⟨k, rfl⟩ : ∃ k, m = k + 1 := ⟨m - 1, by omega⟩
    exact .step h1 h2 (ih (by omega))
structure TreeU (ps : List Int) : Prop where
  len : ps.length ≤ 5
  rng : ∀ p ∈ ps, 0 ≤ p ∧ p ≤ ps.length
  up : ∀ f : Int, 0 ≤ f → f ≤ ps.length → Up ps ps.length f
theorem Tree.u {ps : List Int} (h : Tree ps) : TreeU ps := by
  obtain ⟨o, o1, o2, o3, o4⟩ := h.ord
  refine ⟨h.len, h.rng, fun f f0 f1 => ?_⟩
  have key : ∀ (n j : Nat) (f : Int), j ≤ n → o[j]? = some f → Up ps j f := by
    intro n
    induction n with
    | zero =>
      intro j f hj e
      have : j = 0 := by omega
      subst this
      rw [o2] at e; cases e; exact .top 0
    | succ n ih =>
      intro j f hj e
      by_cases z : j = 0
      · subst z; rw [o2] at e; cases e; exact .top 0
      · obtain ⟨a1, a2, j', p, l1, l2, l3⟩ := o4 j f (by omega) e
        exact (Up.step a1 l3 (ih j' p (by omega) l2)).mono (by omega)
  obtain ⟨j, hj, e⟩ := o3 f f0 f1
  exact (key j j f (Nat.le_refl _) e).mono hj
theorem to_topU {ps : List Int} {f : Int} (h : Up ps ps.length f) : G_comes_to_top [.tuple (ps.map .int), .int f] = .ok (.bool true) := by
  let I : Nat → Ev → Prop := fun i ρ => ∃ (a : Int) (c : Option Cell), Up ps (ps.length - i) a ∧ ρ = [some (.pub (.tuple (ps.map .int))), some (.pub (.int f)), some (.pub (.int a)), c]
  obtain ⟨ρ', e, a, c, ha, eρ⟩ := forL_one (j := 3) (f := comes_to_top_f1) I (ps.map .int) [some (.pub (.tuple (ps.map .int))), some (.pub (.int f)), some (.pub (.int f)), none]
    (fun i d ρ hd ⟨a, c, ha, eρ⟩ => by
      subst eρ
      have hi : i < ps.length := by have := (List.getElem?_eq_some_iff.mp hd).1; simpa using this
      generalize en : ps.length - i = n at ha
      cases ha with
      | top n =>
        refine ⟨[some (.pub (.tuple (ps.map .int))), some (.pub (.int f)), some (.pub (.int 0)), some (.pub d)], ?_, 0, some (.pub d), .top _, rfl⟩
        unfold comes_to_top_f1
        simp [PL.run, PL.startE, PL.sq, PL.sIf, PL.sRet, PL.sSet, PL.sAsg, PL.sOwn, PL.sApp, PL.sFor, PL.sDo, PL.sDoX, PL.sSetX, PL.sRetX, PL.argX, PL.lft, PL.sNil, PL.tB', PL.tru, PL.ap1, PL.ap2, PL.apC, PL.apN, PL.lst, PL.tupE, PL.vr, PL.getC, PL.aC, PL.aN, PL.cn, PL.seqE, PL.pubE, PL.tgt_one, PL.atI_nat, PL.addD_i, PL.subD_i, PL.modD_i, PL.divD_i, PL.mulN_i, PL.mulOk_l, PL.mulOk_r, PL.ltD_i, PL.leD_i, PL.gtD_i, PL.geD_i, PL.lenD_l, PL.lenD_t, PL.intD_i, PL.maxD_i, PL.minD_i, PL.isB_b, PL.truD_b, PL.asI_i, PL.seqOf_l, PL.seqOf_t, PL.rng1_i, PL.rng2_i, neD_i]
      | step h1 h2 h3 =>
        rename_i n p
        refine ⟨[some (.pub (.tuple (ps.map .int))), some (.pub (.int f)), some (.pub (.int p)), some (.pub d)], ?_, p, some (.pub d), h3.mono (by omega), rfl⟩
        have hz : a ≠ 0 := by omega
        have hx : ixD (.tuple (ps.map .int)) (.int (a - 1)) = .ok (.int p) := ixD_t (by rw [atI_of (by omega), List.getElem?_map, h2]; rfl)
        unfold comes_to_top_f1
        simp [PL.run, PL.startE, PL.sq, PL.sIf, PL.sRet, PL.sSet, PL.sAsg, PL.sOwn, PL.sApp, PL.sFor, PL.sDo, PL.sDoX, PL.sSetX, PL.sRetX, PL.argX, PL.lft, PL.sNil, PL.tB', PL.tru, PL.ap1, PL.ap2, PL.apC, PL.apN, PL.lst, PL.tupE, PL.vr, PL.getC, PL.aC, PL.aN, PL.cn, PL.seqE, PL.pubE, PL.tgt_one, PL.atI_nat, PL.addD_i, PL.subD_i, PL.modD_i, PL.divD_i, PL.mulN_i, PL.mulOk_l, PL.mulOk_r, PL.ltD_i, PL.leD_i, PL.gtD_i, PL.geD_i, PL.lenD_l, PL.lenD_t, PL.intD_i, PL.maxD_i, PL.minD_i, PL.isB_b, PL.truD_b, PL.asI_i, PL.seqOf_l, PL.seqOf_t, PL.rng1_i, PL.rng2_i, neD_i, hz, hx])
    ⟨f, none, by simpa using h, rfl⟩
  subst eρ
  rw [List.length_map, Nat.sub_self] at ha
  cases ha
  unfold G_comes_to_top b_comes_to_top
  simp [PL.run, PL.startE, PL.sq, PL.sIf, PL.sRet, PL.sSet, PL.sAsg, PL.sOwn, PL.sApp, PL.sFor, PL.sDo, PL.sDoX, PL.sSetX, PL.sRetX, PL.argX, PL.lft, PL.sNil, PL.tB', PL.tru, PL.ap1, PL.ap2, PL.apC, PL.apN, PL.lst, PL.tupE, PL.vr, PL.getC, PL.aC, PL.aN, PL.cn, PL.seqE, PL.pubE, PL.tgt_one, PL.atI_nat, PL.addD_i, PL.subD_i, PL.modD_i, PL.divD_i, PL.mulN_i, PL.mulOk_l, PL.mulOk_r, PL.ltD_i, PL.leD_i, PL.gtD_i, PL.geD_i, PL.lenD_l, PL.lenD_t, PL.intD_i, PL.maxD_i, PL.minD_i, PL.isB_b, PL.truD_b, PL.asI_i, PL.seqOf_l, PL.seqOf_t, PL.rng1_i, PL.rng2_i, e, eqD_i]
theorem is_parentsU {ps : List Int} (h : TreeU ps) : G_is_parents [.tuple (ps.map .int)] = .ok (.bool true) := by
  have l5 := h.len
  have e1 : compL (.one 3) noIf is_parents_e2 [some (.pub (.tuple (ps.map .int))), some (.pub (.int (ps.length + 1))), none, none] (ps.map .int) = .ok (ps.map fun _ => .bool true) := by
    refine compL_map (to := fun p => [some (.pub (.tuple (ps.map .int))), some (.pub (.int (ps.length + 1))), none, some (.pub (.int p))]) ps fun p hp => ⟨rfl, ?_⟩
    obtain ⟨p0, p1⟩ := h.rng p hp
    unfold is_parents_e2
    simp [PL.run, PL.startE, PL.sq, PL.sIf, PL.sRet, PL.sSet, PL.sAsg, PL.sOwn, PL.sApp, PL.sFor, PL.sDo, PL.sDoX, PL.sSetX, PL.sRetX, PL.argX, PL.lft, PL.sNil, PL.tB', PL.tru, PL.ap1, PL.ap2, PL.apC, PL.apN, PL.lst, PL.tupE, PL.vr, PL.getC, PL.aC, PL.aN, PL.cn, PL.seqE, PL.pubE, PL.tgt_one, PL.atI_nat, PL.addD_i, PL.subD_i, PL.modD_i, PL.divD_i, PL.mulN_i, PL.mulOk_l, PL.mulOk_r, PL.ltD_i, PL.leD_i, PL.gtD_i, PL.geD_i, PL.lenD_l, PL.lenD_t, PL.intD_i, PL.maxD_i, PL.minD_i, PL.isB_b, PL.truD_b, PL.asI_i, PL.seqOf_l, PL.seqOf_t, PL.rng1_i, PL.rng2_i, is_number, p0, p1]
    try omega
  have e2 : compL (.one 2) noIf is_parents_e1 [some (.pub (.tuple (ps.map .int))), some (.pub (.int (ps.length + 1))), none, none] (rangeL 0 (ps.length + 1)) = .ok ((List.range (ps.length + 1)).map fun _ => .bool true) := by
    unfold rangeL
    refine compL_map (to := fun (k : Nat) => [some (.pub (.tuple (ps.map .int))), some (.pub (.int (ps.length + 1))), some (.pub (.int (0 + (k : Int)))), none]) _ fun k hk => ⟨rfl, ?_⟩
    have hk' := List.mem_range.mp hk
    have := to_topU (h.up (0 + (k : Int)) (by omega) (by omega))
    unfold is_parents_e1
    simp only [apC, aC, aN, vr, getC, Rs.bnd_ok, this]
  have e3 : allD [.list (ps.map fun _ => .bool true)] = .ok (.bool true) := by
    have := allD_true (ps.map .int)
    rwa [List.map_map] at this
  have e4 : allD [.list ((List.range (ps.length + 1)).map fun _ => .bool true)] = .ok (.bool true) := by
    have := allD_true ((List.range (ps.length + 1)).map fun _ => .none)
    rwa [List.map_map] at this
  have e5 : ¬ (5 : Int) < ps.length := by omega
  have e6 : rng1 [.int (ps.length + 1)] = .ok (rangeL 0 (ps.length + 1)) := by
    rw [rng1_i (by omega) (by omega), show ((ps.length : Int) + 1).toNat = ps.length + 1 by omega]
  unfold G_is_parents b_is_parents
  simp [PL.run, PL.startE, PL.sq, PL.sIf, PL.sRet, PL.sSet, PL.sAsg, PL.sOwn, PL.sApp, PL.sFor, PL.sDo, PL.sDoX, PL.sSetX, PL.sRetX, PL.argX, PL.lft, PL.sNil, PL.tB', PL.tru, PL.ap1, PL.ap2, PL.apC, PL.apN, PL.lst, PL.tupE, PL.vr, PL.getC, PL.aC, PL.aN, PL.cn, PL.seqE, PL.pubE, PL.tgt_one, PL.atI_nat, PL.addD_i, PL.subD_i, PL.modD_i, PL.divD_i, PL.mulN_i, PL.mulOk_l, PL.mulOk_r, PL.ltD_i, PL.leD_i, PL.gtD_i, PL.geD_i, PL.lenD_l, PL.lenD_t, PL.intD_i, PL.maxD_i, PL.minD_i, PL.isB_b, PL.truD_b, PL.asI_i, PL.seqOf_l, PL.seqOf_t, PL.rng1_i, PL.rng2_i, isi_tup, tOr', tNot', comp, wipeE, e1, e2, e3, e4, e5, e6]
def WOk (n : Int) : Who → Prop
  | .p i => 0 ≤ i ∧ i < n
  | .g j => 0 ≤ j ∧ j < 3
def Ent.spot (e : Ent) : Mem := ⟨e.f, e.w⟩
structure BOk (n : Int) (ps : List Int) (sh : List Bool) (es : List Ent) (ms : List Mem) : Prop where
  tree : TreeU ps
  sl : sh.length = ps.length + 1
  er : ∀ e ∈ es, 0 ≤ e.f ∧ e.f < ps.length + 1 ∧ WOk n e.w
  el : es.length ≤ 12
  ea : AscE (es.map Ent.spot)
  mr : ∀ m ∈ ms, (0 ≤ m.g ∧ m.g < 3) ∧ WOk n m.w
  md : ∃ rank : Int → Nat, ∀ a b, (⟨a, .g b⟩ : Mem) ∈ ms → rank a < rank b
  ma : AscE ms
theorem BOk.grp {n : Int} {ps : List Int} {sh : List Bool} {es : List Ent} {ms : List Mem} (h : BOk n ps sh es ms) : GrpOk ms := fun m hm => (h.mr m hm).1
theorem BOk.nd {n : Int} {ps : List Int} {sh : List Bool} {es : List Ent} {ms : List Mem} (h : BOk n ps sh es ms) : ms.Nodup := asc_nodup h.ma
def dE (es : List Ent) : PyData := .tuple (es.map encE)
def dB (sh : List Bool) : PyData := .tuple (sh.map .bool)
def dL (lg : List (List Int)) : PyData := .tuple (lg.map dI)
structure Hou where
  n : Int
  ps : List Int
  sh : List Bool
  es : List Ent
  ms : List Mem
structure Sta where
  ps : List Int
  sh : List Bool
  es : List Ent
  ms : List Mem
  lg : List (List Int)
structure Rul where
  near : Bool
  drops : Bool
  login : Bool
  deep : Bool
def dH (h : Hou) : PyData := .tuple [.int h.n, dI h.ps, dB h.sh, dE h.es, dM h.ms]
def dS (s : Sta) : PyData := .tuple [dI s.ps, dB s.sh, dE s.es, dM s.ms, dL s.lg]
def firstS (b : Bool) : Str := if b = true then "near" else "bar"
def movS (b : Bool) : Str := if b = true then "drops" else "keeps"
def knoS (b : Bool) : Str := if b = true then "login" else "now"
def dR (r : Rul) : PyData := .tuple [.str (firstS r.near), .str (movS r.drops), .str (knoS r.login), .bool r.deep]
structure HOk (h : Hou) : Prop where
  n1 : 1 ≤ h.n
  n4 : h.n ≤ 4
  b : BOk h.n h.ps h.sh h.es h.ms
structure SOk (h : Hou) (s : Sta) : Prop where
  b : BOk h.n s.ps s.sh s.es s.ms
  pl : s.ps.length = h.ps.length
  ll : (s.lg.length : Int) = h.n
  la : ∀ l ∈ s.lg, AscE l ∧ ∀ x ∈ l, 0 ≤ x ∧ x < 3
/-! from data to typed things -/
theorem who_typed {n : Int} {d : PyData} (h : WhoOk n d) : ∃ w : Who, d = encW w ∧ WOk n w := by
  rcases h with ⟨i, h0, h1, rfl⟩ | ⟨i, h0, h1, rfl⟩
  · exact ⟨.p i, rfl, h0, h1⟩
  · exact ⟨.g i, rfl, h0, h1⟩
theorem who_data {n : Int} {w : Who} (h : WOk n w) : WhoOk n (encW w) := by
  cases w with
  | p i => exact .inl ⟨i, h.1, h.2, rfl⟩
  | g i => exact .inr ⟨i, h.1, h.2, rfl⟩
theorem list_typed {α : Type} {enc : α → PyData} {P : PyData → Prop} {T : α → Prop} (h : ∀ d, P d → ∃ a, d = enc a ∧ T a) : ∀ ds : List PyData, (∀ d ∈ ds, P d) → ∃ l : List α, ds = l.map enc ∧ ∀ a ∈ l, T a
  | [], _ => ⟨[], rfl, by simp⟩
  | d :: r, hd => by
    obtain ⟨a, rfl, ha⟩ := h d (hd d List.mem_cons_self)
    obtain ⟨l, rfl, hl⟩ := list_typed h r fun z hz => hd z (List.mem_cons_of_mem _ hz)
    exact ⟨a :: l, rfl, fun z hz => by
      rcases List.mem_cons.mp hz with rfl | hz
      · exact ha
      · exact hl z hz⟩
theorem ent_typed {n f : Int} {d : PyData} (h : EntOk n f d) : ∃ e : Ent, d = encE e ∧ (0 ≤ e.f ∧ e.f < f ∧ WOk n e.w) := by
  obtain ⟨x, w, k, h0, h1, hw, hk, rfl⟩ := h
  obtain ⟨w', rfl, ww⟩ := who_typed hw
  rcases hk with rfl | rfl
  · exact ⟨⟨x, w', true⟩, rfl, h0, h1, ww⟩
  · exact ⟨⟨x, w', false⟩, rfl, h0, h1, ww⟩
theorem mem_typed {n : Int} {d : PyData} (h : MemOk n d) : ∃ m : Mem, d = encM m ∧ ((0 ≤ m.g ∧ m.g < 3) ∧ WOk n m.w) := by
  obtain ⟨x, w, h0, h1, hw, rfl⟩ := h
  obtain ⟨w', rfl, ww⟩ := who_typed hw
  exact ⟨⟨x, w'⟩, rfl, ⟨h0, h1⟩, ww⟩
theorem ent_data {n f : Int} {e : Ent} (h : 0 ≤ e.f ∧ e.f < f ∧ WOk n e.w) : EntOk n f (encE e) := by
  refine ⟨e.f, encW e.w, kindS e.a, h.1, h.2.1, who_data h.2.2, ?_, rfl⟩
  cases e.a
  · exact .inr rfl
  · exact .inl rfl
theorem mem_data {n : Int} {m : Mem} (h : (0 ≤ m.g ∧ m.g < 3) ∧ WOk n m.w) : MemOk n (encM m) := ⟨m.g, encW m.w, h.1.1, h.1.2, who_data h.2, rfl⟩
theorem pair_spot (es : List Ent) : (es.map encE).map pairOf = (es.map Ent.spot).map encM := by
  rw [List.map_map, List.map_map]; exact List.map_congr_left fun e _ => rfl
theorem body_typed {n : Int} {c : Nat} {d : List PyData} (h : BodyOk n c d) : ∃ ps sh es ms, d = [dI ps, dB sh, dE es, dM ms] ∧ ps.length = c ∧ BOk n ps sh es ms := by
  obtain ⟨ps, bs, es, ms, rank, h1, h2, h3, h4, h5, h6, h7, h8, h9, h10, rfl⟩ := h
  obtain ⟨es', rfl, he⟩ := list_typed (enc := encE) (fun d => ent_typed) es h4
  obtain ⟨ms', rfl, hm⟩ := list_typed (enc := encM) (fun d => mem_typed) ms h7
  refine ⟨ps, bs, es', ms', rfl, h1, h2.u, h3, he, by simpa using h5, ?_, hm, ⟨rank, fun a b hab => h8 a b (List.mem_map.mpr ⟨_, hab, rfl⟩)⟩, asc_typed h10⟩
  rw [pair_spot] at h6
  exact asc_typed h6
theorem mems_le {n : Int} {ms : List Mem} (n4 : n ≤ 4) (hm : ∀ m ∈ ms, (0 ≤ m.g ∧ m.g < 3) ∧ WOk n m.w) (nd : ms.Nodup) : ms.length ≤ 24 := by
  let ix : Mem → Int := fun m => m.g * 8 + (match m.w with | .p i => i | .g j => 4 + j)
  have := nodup_le 24 (ms.map ix) (List.pairwise_map.mpr ((List.Pairwise.and_mem.mp nd).imp fun {a b} ⟨ha, hb, ne⟩ e => ne (by
    obtain ⟨a1, a2⟩ := hm a ha
    obtain ⟨b1, b2⟩ := hm b hb
    obtain ⟨ag, aw⟩ := a
    obtain ⟨bg, bw⟩ := b
    simp only [ix] at e a1 b1 a2 b2
    cases aw <;> cases bw <;> simp only [WOk] at a2 b2 e
    · congr 2 <;> omega
    · omega
    · omega
    · congr 2 <;> omega))) (fun x hx => by
    obtain ⟨a, ha, rfl⟩ := List.mem_map.mp hx
    obtain ⟨a1, a2⟩ := hm a ha
    obtain ⟨ag, aw⟩ := a
    simp only [ix] at a1 a2 ⊢
    cases aw <;> simp only [WOk] at a2 ⊢ <;> omega)
  rwa [List.length_map] at this
theorem fit_together {n : Int} {ps : List Int} {sh : List Bool} {es : List Ent} {ms : List Mem} (n4 : n ≤ 4) (h : BOk n ps sh es ms) : G_fit_together [.int n, dI ps, dB sh, dE es, dM ms] = .ok (.bool true) := by
  obtain ⟨rank, hr⟩ := h.md
  have f1 := is_parentsU h.tree
  have f2 := is_shut (bs := sh) (n := ps.length + 1) (by have := h.sl; omega)
  have f3 := is_entries (people := n) (folders := ps.length + 1) (es := es.map encE) (fun d hd => by
    obtain ⟨e, he, rfl⟩ := List.mem_map.mp hd
    exact ent_data (h.er e he)) (by rw [List.length_map]; exact h.el) (by rw [pair_spot]; exact asc_data (fun _ => rfl) h.ea)
  have f4 := is_members (people := n) (ms := ms.map encM) (rank := rank) (fun d hd => by
    obtain ⟨m, hm, rfl⟩ := List.mem_map.mp hd
    exact mem_data (h.mr m hm)) (fun a b hab => by
    obtain ⟨m, hm, e⟩ := List.mem_map.mp hab
    refine hr a b ?_
    have : m = ⟨a, .g b⟩ := (Enc.eqv m ⟨a, .g b⟩).mp (by rw [show (Enc.enc m : PyData) = Enc.enc (⟨a, .g b⟩ : Mem) from e]; exact (Enc.eqv _ _).mpr rfl)
    rw [← this]; exact hm) (by rw [List.length_map]; have := mems_le n4 h.mr h.nd; omega) (asc_data (fun _ => rfl) h.ma)
  unfold dI dB dE dM
  unfold G_fit_together b_fit_together
  simp [PL.run, PL.startE, PL.sq, PL.sIf, PL.sRet, PL.sSet, PL.sAsg, PL.sOwn, PL.sApp, PL.sFor, PL.sDo, PL.sDoX, PL.sSetX, PL.sRetX, PL.argX, PL.lft, PL.sNil, PL.tB', PL.tru, PL.ap1, PL.ap2, PL.apC, PL.apN, PL.lst, PL.tupE, PL.vr, PL.getC, PL.aC, PL.aN, PL.cn, PL.seqE, PL.pubE, PL.tgt_one, PL.atI_nat, PL.addD_i, PL.subD_i, PL.modD_i, PL.divD_i, PL.mulN_i, PL.mulOk_l, PL.mulOk_r, PL.ltD_i, PL.leD_i, PL.gtD_i, PL.geD_i, PL.lenD_l, PL.lenD_t, PL.intD_i, PL.maxD_i, PL.minD_i, PL.isB_b, PL.truD_b, PL.asI_i, PL.seqOf_l, PL.seqOf_t, PL.rng1_i, PL.rng2_i, tNot', andV, f1, f2, f3, f4]
theorem is_houseT {h : Hou} (o : HOk h) : G_is_house [dH h] = .ok (.bool true) := by
  have e0 := is_row [.int h.n, dI h.ps, dB h.sh, dE h.es, dM h.ms] 5
  have e5 := fit_together o.n4 o.b
  have n1 := o.n1
  have n4 := o.n4
  unfold dH
  unfold G_is_house b_is_house
  simp [PL.run, PL.startE, PL.sq, PL.sIf, PL.sRet, PL.sSet, PL.sAsg, PL.sOwn, PL.sApp, PL.sFor, PL.sDo, PL.sDoX, PL.sSetX, PL.sRetX, PL.argX, PL.lft, PL.sNil, PL.tB', PL.tru, PL.ap1, PL.ap2, PL.apC, PL.apN, PL.lst, PL.tupE, PL.vr, PL.getC, PL.aC, PL.aN, PL.cn, PL.seqE, PL.pubE, PL.tgt_one, PL.atI_nat, PL.addD_i, PL.subD_i, PL.modD_i, PL.divD_i, PL.mulN_i, PL.mulOk_l, PL.mulOk_r, PL.ltD_i, PL.leD_i, PL.gtD_i, PL.geD_i, PL.lenD_l, PL.lenD_t, PL.intD_i, PL.maxD_i, PL.minD_i, PL.isB_b, PL.truD_b, PL.asI_i, PL.seqOf_l, PL.seqOf_t, PL.rng1_i, PL.rng2_i, e0, tNot', tgt, setAll, andV, is_integer, n1, n4, e5]
theorem house_t (c : Int) : ∃ h : Hou, HOk h ∧ G_law_house [.int c] = .ok (dH h) := by
  obtain ⟨d, ⟨n, ps, bs, es, ms, rank, n1, n4, e2, e3, e4, e5, e6, e7, e8, e9, e10, rfl⟩, eh⟩ := house c
  obtain ⟨ps', sh', es', ms', ed, el, hb⟩ := body_typed (c := ps.length) ⟨ps, bs, es, ms, rank, rfl, e2, e3, e4, e5, e6, e7, e8, e9, e10, rfl⟩
  injection ed with d1 ed; injection ed with d2 ed; injection ed with d3 ed; injection ed with d4 ed
  refine ⟨⟨n, ps', sh', es', ms'⟩, ⟨n1, n4, hb⟩, ?_⟩
  rw [eh, d1, d2, d3, d4]; rfl
theorem rule_t (d : Int) : ∃ r : Rul, G_law_rule [.int d] = .ok (dR r) := by
  have two : ∀ x : Int, x % 2 = 0 ∨ x % 2 = 1 := fun x => by omega
  have pick : ∀ (x : Int) (a b : Str), ixD (.list [.str a, .str b]) (.int (x % 2)) = .ok (.str (if decide (x % 2 = 1) = true then b else a)) := fun x a b => by
    rcases two x with h | h
    · rw [h]; rfl
    · rw [h]; rfl
  have p1 := pick d "bar" "near"
  have p2 := pick (d / 2) "keeps" "drops"
  have p3 := pick (d / 4) "now" "login"
  refine ⟨⟨decide (d % 2 = 1), decide (d / 2 % 2 = 1), decide (d / 4 % 2 = 1), decide (d / 8 % 2 = 1)⟩, ?_⟩
  unfold G_law_rule b_law_rule dR firstS movS knoS
  simp [PL.run, PL.startE, PL.sq, PL.sIf, PL.sRet, PL.sSet, PL.sAsg, PL.sOwn, PL.sApp, PL.sFor, PL.sDo, PL.sDoX, PL.sSetX, PL.sRetX, PL.argX, PL.lft, PL.sNil, PL.tB', PL.tru, PL.ap1, PL.ap2, PL.apC, PL.apN, PL.lst, PL.tupE, PL.vr, PL.getC, PL.aC, PL.aN, PL.cn, PL.seqE, PL.pubE, PL.tgt_one, PL.atI_nat, PL.addD_i, PL.subD_i, PL.modD_i, PL.divD_i, PL.mulN_i, PL.mulOk_l, PL.mulOk_r, PL.ltD_i, PL.leD_i, PL.gtD_i, PL.geD_i, PL.lenD_l, PL.lenD_t, PL.intD_i, PL.maxD_i, PL.minD_i, PL.isB_b, PL.truD_b, PL.asI_i, PL.seqOf_l, PL.seqOf_t, PL.rng1_i, PL.rng2_i, p1, p2, p3, eqD_i]
theorem rule_d (r : Rul) : RuleOk (dR r) := by
  refine ⟨_, _, _, _, ?_, ?_, ?_, rfl⟩
  · cases r.near
    · exact .inl rfl
    · exact .inr rfl
  · cases r.drops
    · exact .inl rfl
    · exact .inr rfl
  · cases r.login
    · exact .inl rfl
    · exact .inr rfl
theorem who_t (d n : Int) (h : 1 ≤ n) : ∃ w : Who, WOk n w ∧ G_law_who [.int d, .int n] = .ok (encW w) := by
  obtain ⟨w, hw, e⟩ := who d n h
  obtain ⟨w', rfl, ok⟩ := who_typed hw
  exact ⟨w', ok, e⟩
/-! what is asked for is there -/
theorem need_house {h : Hou} (o : HOk h) : G_need_house [dH h] = .ok .none := by
  have := is_houseT o
  unfold G_need_house b_need_house
  simp [PL.run, PL.startE, PL.sq, PL.sIf, PL.sRet, PL.sSet, PL.sAsg, PL.sOwn, PL.sApp, PL.sFor, PL.sDo, PL.sDoX, PL.sSetX, PL.sRetX, PL.argX, PL.lft, PL.sNil, PL.tB', PL.tru, PL.ap1, PL.ap2, PL.apC, PL.apN, PL.lst, PL.tupE, PL.vr, PL.getC, PL.aC, PL.aN, PL.cn, PL.seqE, PL.pubE, PL.tgt_one, PL.atI_nat, PL.addD_i, PL.subD_i, PL.modD_i, PL.divD_i, PL.mulN_i, PL.mulOk_l, PL.mulOk_r, PL.ltD_i, PL.leD_i, PL.gtD_i, PL.geD_i, PL.lenD_l, PL.lenD_t, PL.intD_i, PL.maxD_i, PL.minD_i, PL.isB_b, PL.truD_b, PL.asI_i, PL.seqOf_l, PL.seqOf_t, PL.rng1_i, PL.rng2_i, tNot', this]
theorem need_rule (r : Rul) : G_need_rule [dR r] = .ok .none := by
  have := is_rule (rule_d r)
  unfold G_need_rule b_need_rule
  simp [PL.run, PL.startE, PL.sq, PL.sIf, PL.sRet, PL.sSet, PL.sAsg, PL.sOwn, PL.sApp, PL.sFor, PL.sDo, PL.sDoX, PL.sSetX, PL.sRetX, PL.argX, PL.lft, PL.sNil, PL.tB', PL.tru, PL.ap1, PL.ap2, PL.apC, PL.apN, PL.lst, PL.tupE, PL.vr, PL.getC, PL.aC, PL.aN, PL.cn, PL.seqE, PL.pubE, PL.tgt_one, PL.atI_nat, PL.addD_i, PL.subD_i, PL.modD_i, PL.divD_i, PL.mulN_i, PL.mulOk_l, PL.mulOk_r, PL.ltD_i, PL.leD_i, PL.gtD_i, PL.geD_i, PL.lenD_l, PL.lenD_t, PL.intD_i, PL.maxD_i, PL.minD_i, PL.isB_b, PL.truD_b, PL.asI_i, PL.seqOf_l, PL.seqOf_t, PL.rng1_i, PL.rng2_i, tNot', this]
end Q

/-! T5: states -/
namespace Q
open PySem PySem.Spec PyProof.Rows L2 PL M
theorem all_true {l : List PyData} (h : ∀ d ∈ l, d = .bool true) : allD [.list l] = .ok (.bool true) := by
  show (bools _).bnd _ = _
  rw [bools_true l h]
  simp
theorem is_groups {l : List Int} (h : AscE l ∧ ∀ x ∈ l, 0 ≤ x ∧ x < 3) : G_is_groups [dI l] = .ok (.bool true) := by
  have len : l.length ≤ 3 := nodup_le 3 l (asc_nodup h.1) h.2
  have ha : Asc (l.map PyData.int) := by
    refine asc_of (List.pairwise_map.mpr (h.1.imp fun {a b} q => ?_))
    rw [lt_int] at q
    show Rs.ok _ = _
    rw [q]
  have e0 := ascends_core (dI l) (l.map .int) (.inr rfl) ha (by rw [List.length_map]; omega)
  have e1 : compL (.one 1) noIf is_groups_e1 (wipeE [some (.pub (dI l)), none] [1]) (l.map .int) = .ok (l.map fun _ => .bool true) := by
    refine compL_map (to := fun x => [some (.pub (dI l)), some (.pub (.int x))]) l fun x hx => ⟨rfl, ?_⟩
    have := h.2 x hx
    unfold is_groups_e1
    simp [PL.run, PL.startE, PL.sq, PL.sIf, PL.sRet, PL.sSet, PL.sAsg, PL.sOwn, PL.sApp, PL.sFor, PL.sDo, PL.sDoX, PL.sSetX, PL.sRetX, PL.argX, PL.lft, PL.sNil, PL.tB', PL.tru, PL.ap1, PL.ap2, PL.apC, PL.apN, PL.lst, PL.tupE, PL.vr, PL.getC, PL.aC, PL.aN, PL.cn, PL.seqE, PL.pubE, PL.tgt_one, PL.atI_nat, PL.addD_i, PL.subD_i, PL.modD_i, PL.divD_i, PL.mulN_i, PL.mulOk_l, PL.mulOk_r, PL.ltD_i, PL.leD_i, PL.gtD_i, PL.geD_i, PL.lenD_l, PL.lenD_t, PL.intD_i, PL.maxD_i, PL.minD_i, PL.isB_b, PL.truD_b, PL.asI_i, PL.seqOf_l, PL.seqOf_t, PL.rng1_i, PL.rng2_i, is_number, this.1]
    omega
  have e2 : allD [.list (l.map fun _ => .bool true)] = .ok (.bool true) := all_true (by simp)
  unfold G_is_groups b_is_groups
  refine run_rt ?_
  show sq _ _ [some (.pub (dI l)), none] = _
  refine sq_rt (sRet_of ?_)
  have c1 : comp (seqE (vr 0)) (.one 1) [1] noIf is_groups_e1 [some (.pub (dI l)), none] = .ok (l.map fun _ => .bool true) := comp_of rfl e1
  simp only [andV, ap1, vr, getC, Rs.bnd_ok, show isiD "tuple" (dI l) = .ok (.bool true) from rfl, isB_b, if_true, apC, aC, aN, lst, c1, e2, e0]
theorem is_logins {lg : List (List Int)} {n : Int} (hl : (lg.length : Int) = n) (h : ∀ l ∈ lg, AscE l ∧ ∀ x ∈ l, 0 ≤ x ∧ x < 3) : G_is_logins [dL lg, .int n] = .ok (.bool true) := by
  have e0 := is_row (lg.map dI) n
  have e1 : compL (.one 2) noIf is_logins_e1 (wipeE [some (.pub (dL lg)), some (.pub (.int n)), none] [2]) (lg.map dI) = .ok (lg.map fun _ => .bool true) := by
    refine compL_map (to := fun x => [some (.pub (dL lg)), some (.pub (.int n)), some (.pub (dI x))]) lg fun x hx => ⟨rfl, ?_⟩
    unfold is_logins_e1
    simp only [apC, aC, aN, vr, getC, Rs.bnd_ok, is_groups (h x hx)]
  have e2 : allD [.list (lg.map fun _ => .bool true)] = .ok (.bool true) := all_true (by simp)
  unfold G_is_logins b_is_logins
  refine run_rt ?_
  show sq _ _ [some (.pub (dL lg)), some (.pub (.int n)), none] = _
  refine sq_rt (sRet_of ?_)
  have c1 : comp (seqE (vr 0)) (.one 2) [2] noIf is_logins_e1 [some (.pub (dL lg)), some (.pub (.int n)), none] = .ok (lg.map fun _ => .bool true) := comp_of rfl e1
  have e0' : G_is_row [dL lg, .int n] = .ok (.bool true) := by
    have : G_is_row [dL lg, .int n] = _ := e0
    rw [this]; simp [hl]
  simp only [andV, vr, getC, Rs.bnd_ok, e0', isB_b, if_true, apC, aC, aN, lst, c1, e2]
theorem is_state {h : Hou} {s : Sta} (o : HOk h) (p : SOk h s) : G_is_state [dH h, dS s] = .ok (.bool true) := by
  have e0 := is_row [dI s.ps, dB s.sh, dE s.es, dM s.ms, dL s.lg] 5
  have e1 := is_row (s.ps.map .int) h.ps.length
  have e2 := fit_together o.n4 p.b
  have e3 := is_logins p.ll p.la
  have i1 : ixD (dH h) (.int 1) = .ok (dI h.ps) := rfl
  have i0 : ixD (dH h) (.int 0) = .ok (.int h.n) := rfl
  have l1 : lenD [dI h.ps] = .ok (.int h.ps.length) := by show Rs.ok _ = _; rw [List.length_map]
  have e1' : G_is_row [dI s.ps, .int h.ps.length] = .ok (.bool true) := by
    have : G_is_row [dI s.ps, .int h.ps.length] = _ := e1
    rw [this, List.length_map, p.pl]; simp
  have e0' : G_is_row [dS s, .int 5] = .ok (.bool true) := by
    have : G_is_row [dS s, .int 5] = _ := e0
    rw [this]; simp
  have t : tgt (.many [2, 3, 4, 5, 6]) (dS s) [some (.pub (dH h)), some (.pub (dS s)), none, none, none, none, none] = .ok [some (.pub (dH h)), some (.pub (dS s)), some (.pub (dI s.ps)), some (.pub (dB s.sh)), some (.pub (dE s.es)), some (.pub (dM s.ms)), some (.pub (dL s.lg))] := rfl
  unfold G_is_state b_is_state
  simp [PL.run, PL.startE, PL.sq, PL.sIf, PL.sRet, PL.sSet, PL.sAsg, PL.sOwn, PL.sApp, PL.sFor, PL.sDo, PL.sDoX, PL.sSetX, PL.sRetX, PL.argX, PL.lft, PL.sNil, PL.tB', PL.tru, PL.ap1, PL.ap2, PL.apC, PL.apN, PL.lst, PL.tupE, PL.vr, PL.getC, PL.aC, PL.aN, PL.cn, PL.seqE, PL.pubE, PL.tgt_one, PL.atI_nat, PL.addD_i, PL.subD_i, PL.modD_i, PL.divD_i, PL.mulN_i, PL.mulOk_l, PL.mulOk_r, PL.ltD_i, PL.leD_i, PL.gtD_i, PL.geD_i, PL.lenD_l, PL.lenD_t, PL.intD_i, PL.maxD_i, PL.minD_i, PL.isB_b, PL.truD_b, PL.asI_i, PL.seqOf_l, PL.seqOf_t, PL.rng1_i, PL.rng2_i, e0', tNot', t, i1, i0, l1, e1', andV, e2, e3]
theorem need_state {h : Hou} {s : Sta} (o : HOk h) (p : SOk h s) : G_need_state [dH h, dS s] = .ok .none := by
  have := is_state o p
  unfold G_need_state b_need_state
  simp [PL.run, PL.startE, PL.sq, PL.sIf, PL.sRet, PL.sSet, PL.sAsg, PL.sOwn, PL.sApp, PL.sFor, PL.sDo, PL.sDoX, PL.sSetX, PL.sRetX, PL.argX, PL.lft, PL.sNil, PL.tB', PL.tru, PL.ap1, PL.ap2, PL.apC, PL.apN, PL.lst, PL.tupE, PL.vr, PL.getC, PL.aC, PL.aN, PL.cn, PL.seqE, PL.pubE, PL.tgt_one, PL.atI_nat, PL.addD_i, PL.subD_i, PL.modD_i, PL.divD_i, PL.mulN_i, PL.mulOk_l, PL.mulOk_r, PL.ltD_i, PL.leD_i, PL.gtD_i, PL.geD_i, PL.lenD_l, PL.lenD_t, PL.intD_i, PL.maxD_i, PL.minD_i, PL.isB_b, PL.truD_b, PL.asI_i, PL.seqOf_l, PL.seqOf_t, PL.rng1_i, PL.rng2_i, tNot', this]
/-! the law's states -/
def SS (c n k : Int) (dr : List Int) (lg : List (List Int)) (c5 c6 : Option Cell) : Ev := [some (.pub (.int c)), some (.pub (.int n)), some (.pub (.int k)), some (.pub (.list (dr.map .int))), some (.own (lg.map dI)), c5, c6, none]
theorem login_turn {c n k : Int} {dr : List Int} {lg : List (List Int)} {c5 c6 : Option Cell} {i : Nat} (hi : 48 + 3 * i ≤ dr.length) (hi4 : i < 4) (hl : lg.length < 1000) : ∃ l c6', law_state_f3 ((SS c n k dr lg c5 c6).set 5 (some (.pub (.int i)))) = .ok (.nx (SS c n k dr (lg ++ [l]) (some (.pub (.int i))) c6')) ∧ AscE l ∧ ∀ x ∈ l, 0 ≤ x ∧ x < 3 := by
  let p : Nat → Bool := fun k => decide (dr.getD (45 + 3 * i + k) 0 % 3 = 1)
  let sl : PyData := .list (((dr.drop (45 + 3 * i)).take 3).map .int)
  let l : List Int := ((List.range 3).filter p).map fun g : Nat => (g : Int)
  refine ⟨l, some (.pub sl), ?_, ?_, fun x hx => ?_⟩
  · have e1 : slD (.list (dr.map .int)) (some (45 + 3 * (i : Int))) (some (48 + 3 * (i : Int))) = .ok sl := by
      show Rs.ok (PyData.list (PL.cutD _ _ _)) = _
      unfold PL.cutD
      rw [show (45 + 3 * (i : Int)) = ((45 + 3 * i : Nat) : Int) by omega, show (48 + 3 * (i : Int)) = ((48 + 3 * i : Nat) : Int) by omega, HT.sIx_nat, HT.sIx_nat, List.length_map, Nat.min_eq_left (by omega), Nat.min_eq_left (by omega), ← List.map_drop, ← List.map_take]
      congr 4
      omega
    let ρ1 : Ev := SS c n k dr lg (some (.pub (.int i))) (some (.pub sl))
    have e2 : comp (apN rng1 (aC (cn (.int (3))) aN)) (.one 7) [7] law_state_c2 law_state_e1 ρ1 = .ok (l.map .int) := by
      unfold comp
      have e6 : apN rng1 (aC (cn (.int 3)) aN) ρ1 = .ok (rangeL 0 3) := by
        simp only [apN, aC, cn, aN, Rs.bnd_ok]
        exact rng1_i (by decide) (by decide)
      rw [e6, Rs.bnd_ok]
      have er : rangeL 0 3 = (List.range 3).map fun k : Nat => PyData.int (k : Int) := by
        unfold rangeL
        exact List.map_congr_left fun k _ => by rw [Int.zero_add]
      rw [er, List.map_map]
      refine compL_filter (to := fun k : Nat => (wipeE ρ1 [7]).set 7 (some (.pub (.int (k : Int))))) _ fun k hk => ⟨rfl, ?_, fun _ => rfl⟩
      have hk' := List.mem_range.mp hk
      have d1 : 45 + 3 * i + k < dr.length := by omega
      have x1 : ixD sl (.int k) = .ok (.int (dr.getD (45 + 3 * i + k) 0)) := ixD_l (by
        rw [PL.atI_nat, List.getElem?_map, List.getElem?_take_of_lt hk', List.getElem?_drop]
        simp [List.getD, d1])
      unfold law_state_c2
      simp only [ρ1, SS, wipeE, List.set, tB', ap2, apC, aC, aN, vr, getC, cn, Rs.bnd_ok, x1, intD_i, modD_i (show (0 : Int) < 3 by decide), eqD_i, isB_b]
      rfl
    have e3 : slE (vr 3) (oS (ap2 addD (cn (.int (45))) (ap2 mulN (cn (.int (3))) (vr 5)))) (oS (ap2 addD (cn (.int (48))) (ap2 mulN (cn (.int (3))) (vr 5)))) ((SS c n k dr lg c5 c6).set 5 (some (.pub (.int i)))) = .ok sl := by
      have m1 : mulOk 3 (i : Int) = true := mulOk_l (by decide) (by decide)
      simp only [SS, List.set, slE, oS, vr, getC, Rs.bnd_ok, ap2, cn, mulN_i m1, addD_i, asI_i]
      exact e1
    have sz : lg.length < sizeLine := by rw [sizeLine_eq]; omega
    unfold law_state_f3
    rw [sq_nx (sSet_of e3)]
    show sq _ _ ρ1 = _
    have e4 : apC tupleD (aC (lst (comp (apN rng1 (aC (cn (.int (3))) aN)) (.one 7) [7] law_state_c2 law_state_e1)) aN) ρ1 = .ok (dI l) := by
      simp only [apC, aC, aN, lst, e2, Rs.bnd_ok]; rfl
    have e5 : sApp 4 (apC tupleD (aC (lst (comp (apN rng1 (aC (cn (.int (3))) aN)) (.one 7) [7] law_state_c2 law_state_e1)) aN)) ρ1 = .ok (.nx (SS c n k dr (lg ++ [l]) (some (.pub (.int i))) (some (.pub sl)))) := by
      unfold sApp
      have g4 : getC ρ1 4 = some (.own (lg.map dI)) := rfl
      rw [g4]
      simp only [e4, Rs.bnd_ok]
      rw [if_pos (by rw [List.length_map]; exact sz)]
      simp [ρ1, SS]
    rw [sq_nx e5]
    rfl
  · refine List.pairwise_map.mpr ((List.pairwise_lt_range.filter p).imp fun {a b} h => ?_)
    rw [lt_int]; simp; exact h
  · obtain ⟨k, hk, rfl⟩ := List.mem_map.mp hx
    have := List.mem_range.mp (List.mem_filter.mp hk).1
    omega
theorem state_t {h : Hou} (o : HOk h) (c : Int) {k : Int} (hk : k = h.ps.length) : ∃ s : Sta, SOk h s ∧ G_law_state [.int c, .int h.n, .int k] = .ok (dS s) := by
  subst hk
  obtain ⟨dr, ⟨ll, lr⟩, ed⟩ := draws c 57 (by decide)
  obtain ⟨n, en⟩ : ∃ n : Nat, (n : Int) = h.n := ⟨h.n.toNat, by have := o.n1; omega⟩
  have n1 := o.n1
  have n4 := o.n4
  obtain ⟨d, hb, eb⟩ := body (dr := dr) (n := n) (c := h.ps.length) (by omega) lr (by omega) (by omega) o.b.tree.len
  rw [en] at hb eb
  obtain ⟨ps, sh, es, ms, rfl, pl, bk⟩ := body_typed hb
  obtain ⟨ρ', e, lg, c5, c6, hl, ha, eρ⟩ := forL_range (j := 5) (n := n) (f := law_state_f3)
    (fun i ρ => ∃ lg c5 c6, lg.length = i ∧ (∀ l ∈ lg, AscE l ∧ ∀ x ∈ l, 0 ≤ x ∧ x < 3) ∧ ρ = SS c h.n h.ps.length dr lg c5 c6) (SS c h.n h.ps.length dr [] none none)
    (fun i ρ hi ⟨lg, c5, c6, hl, ha, eρ⟩ => by
      subst eρ
      obtain ⟨l, c6', e, l1⟩ := login_turn (c := c) (n := h.n) (k := h.ps.length) (dr := dr) (lg := lg) (c5 := c5) (c6 := c6) (i := i) (by omega) (by omega) (by omega)
      refine ⟨_, e, lg ++ [l], _, c6', by rw [List.length_append, hl]; rfl, fun x hx => ?_, rfl⟩
      rcases List.mem_append.mp hx with hx | hx
      · exact ha x hx
      · rw [List.mem_singleton.mp hx]; exact l1)
    ⟨[], none, none, rfl, by simp, rfl⟩
  subst eρ
  refine ⟨⟨ps, sh, es, ms, lg⟩, ⟨bk, pl, by show (lg.length : Int) = _; omega, ha⟩, ?_⟩
  have ed' : G_law_draws [.int c, .int (57 : Int)] = .ok (.list (dr.map .int)) := ed
  have hr : rng1 [.int h.n] = .ok (rangeL 0 n) := by
    rw [rng1_i (by omega) (by omega), show h.n.toNat = n by omega]
  unfold G_law_state b_law_state
  refine run_rt ?_
  show sq _ _ [some (.pub (.int c)), some (.pub (.int h.n)), some (.pub (.int h.ps.length)), none, none, none, none, none] = _
  rw [sq_nx (sSet_of (d := .list (dr.map .int)) (by simp only [apC, aC, aN, vr, getC, cn, Rs.bnd_ok]; exact ed')), sq_nx (sOwn_of (d := []) rfl)]
  show sq _ _ (SS c h.n h.ps.length dr [] none none) = _
  rw [sq_nx (sFor_of (ds := rangeL 0 n) (by simp only [apN, aC, aN, SS, vr, getC, Rs.bnd_ok]; exact hr) e)]
  refine sq_rt (sRet_of ?_)
  have sz : [dI ps, dB sh, dE es, dM ms].length + [dL lg].length ≤ sizeLine := by rw [sizeLine_eq]; simp
  simp only [ap2, apC, aC, aN, SS, vr, getC, Rs.bnd_ok, eb, tupE, ownL]
  exact addD_t sz
end Q

/-! T6: first states; the law's way to compare -/
namespace Q
open PySem PySem.Spec PyProof.Rows L2 PL M
theorem rng_n {i : Int} (h0 : 0 ≤ i) (h1 : i ≤ 1000) : rng1 [.int i] = .ok (rangeL 0 i.toNat) := rng1_i (by omega) (by omega)
theorem depth_t {n : Nat} {ds : List PyData} (h : ∀ d ∈ ds, d.depth ≤ n) : (PyData.tuple ds).depth ≤ n + 1 := by
  have := depthAll_le h
  simp only [PyData.depth]; omega
theorem map_all {α : Type} {enc : α → PyData} {P : PyData → Prop} {l : List α} (h : ∀ a ∈ l, P (enc a)) : ∀ d ∈ l.map enc, P d := fun d hd => by
  obtain ⟨a, ha, rfl⟩ := List.mem_map.mp hd
  exact h a ha
end Q

/-! T7: ways, and who sees -/
namespace Q
open PySem PySem.Spec PyProof.Rows L2 PL M
def par (ps : List Int) (f : Int) : Int := ps.getD (f - 1).toNat 0
def wayF (ps : List Int) (sh : List Bool) : Nat → Int → List Int
  | 0, f => [f]
  | n + 1, f => f :: if f = 0 ∨ sh.getD f.toNat false = true then [] else wayF ps sh n (par ps f)
def wayOf (ps : List Int) (sh : List Bool) (f : Int) : List Int := wayF ps sh ps.length f
def lineOf (ps : List Int) (f : Int) : List Int := wayF ps [] ps.length f
theorem par_of {ps : List Int} {f p : Int} (h : ps[(f - 1).toNat]? = some p) : par ps f = p := by
  unfold par; rw [List.getD_eq_getElem?_getD, h]; rfl
def cutW (sh : List Bool) : List Int → List Int
  | [] => []
  | a :: r => a :: if sh.getD a.toNat false = true then [] else cutW sh r
theorem wayF_cut (ps : List Int) (sh : List Bool) : ∀ (n : Nat) (f : Int), cutW sh (wayF ps [] n f) = wayF ps sh n f
  | 0, f => by simp [wayF, cutW]
  | n + 1, f => by
    simp only [wayF, cutW]
    by_cases h0 : f = 0
    · subst h0; simp [cutW]
    · by_cases h1 : sh.getD f.toNat false = true
      · simp only [h1, or_true, if_true]
      · have h2 : ([] : List Bool).getD f.toNat false = false := by simp
        simp only [h0, h1, h2, or_self, if_false, Bool.false_eq_true]
        rw [wayF_cut ps sh n (par ps f)]
theorem up_rng {ps : List Int} (t : TreeU ps) {f : Int} (f0 : 0 ≤ f) (f1 : f ≤ ps.length) (hf : f ≠ 0) : ps[(f - 1).toNat]? = some (par ps f) ∧ 0 ≤ par ps f ∧ par ps f ≤ ps.length := by
  have hi : (f - 1).toNat < ps.length := by omega
  have e : ps[(f - 1).toNat]? = some ps[(f - 1).toNat] := List.getElem?_eq_getElem hi
  rw [par_of e]
  exact ⟨e, t.rng _ (List.getElem_mem hi)⟩
theorem wayF_rng {ps : List Int} (t : TreeU ps) (sh : List Bool) : ∀ (n : Nat) (f : Int), 0 ≤ f → f ≤ ps.length → ∀ a ∈ wayF ps sh n f, 0 ≤ a ∧ a ≤ ps.length
  | 0, f, f0, f1, a, ha => by simp only [wayF, List.mem_singleton] at ha; rw [ha]; exact ⟨f0, f1⟩
  | n + 1, f, f0, f1, a, ha => by
    simp only [wayF, List.mem_cons] at ha
    rcases ha with rfl | ha
    · exact ⟨f0, f1⟩
    · split at ha
      · exact nomatch ha
      · rename_i q
        have := up_rng t f0 f1 (fun z => q (.inl z))
        exact wayF_rng t sh n _ this.2.1 this.2.2 a ha
theorem wayF_len (ps : List Int) (sh : List Bool) : ∀ (n : Nat) (f : Int), (wayF ps sh n f).length ≤ n + 1
  | 0, f => by simp [wayF]
  | n + 1, f => by
    simp only [wayF, List.length_cons]
    split
    · simp
    · have := wayF_len ps sh n (par ps f); omega
theorem atI_last {α : Type} (xs : List α) (a : α) : L2.atI (xs ++ [a]) (-1) = some a := by
  unfold L2.atI L2.ixN
  have h : ¬ (0 : Int) ≤ -1 := by omega
  have h2 : (0 : Int) ≤ -1 + ((xs ++ [a]).length : Int) := by rw [List.length_append]; simp; omega
  have h3 : (-1 + ((xs ++ [a]).length : Int)).toNat = xs.length := by rw [List.length_append]; simp; omega
  simp only [h, if_false]
  first
  | rw [if_pos (by rw [List.length_append]; simp; omega)]
    simp
    done
  | (have h4 : (-1 + ((xs.length : Int) + 1)).toNat = xs.length := by omega
     have h5 : (1 : Int) ≤ (xs.length : Int) + 1 := by omega
     simp [h4, h5])
/-! line_up -/
def SU (ps : List Int) (f : Int) (l : List Int) : Ev := [some (.pub (dI ps)), some (.pub (.int f)), some (.own (l.map .int))]
theorem line_up {ps : List Int} (t : TreeU ps) {f : Int} (f0 : 0 ≤ f) (f1 : f ≤ ps.length) : G_line_up [dI ps, .int f] = .ok (.list ((lineOf ps f).map .int)) := by
  have l5 := t.len
  obtain ⟨ρ', w, eρ⟩ := whL_ex (g := line_up_t2) (f := line_up_w1)
    (fun m ρ => ∃ r a, Up ps m a ∧ 0 ≤ a ∧ a ≤ ps.length ∧ m + r.length ≤ ps.length ∧ r ++ wayF ps [] m a = lineOf ps f ∧ ρ = SU ps f (r ++ [a]))
    (fun ρ => ρ = SU ps f (lineOf ps f))
    (fun m ρ ⟨r, a, ha, a0, a1, lr, er, eρ⟩ => by
      subst eρ
      have hl : L2.atI ((r ++ [a]).map PyData.int) (-1) = some (.int a) := by rw [List.map_append]; exact atI_last _ _
      have own : ownIx 2 (ap1 negD (cn (.int (1)))) (SU ps f (r ++ [a])) = .ok (.int a) := by
        unfold ownIx
        simp only [ownL, SU, getC, Rs.bnd_ok, ap1, cn, negD, asI]
        rw [hl]
      by_cases hz : a = 0
      · subst hz
        refine .inl ⟨?_, ?_⟩
        · unfold line_up_t2
          exact tB_of (apd2 own rfl (by rw [neD_i]; rfl))
        · have : wayF ps [] m 0 = [0] := by cases m <;> simp [wayF]
          rw [this] at er
          rw [er]
      · cases ha with
        | top => exact absurd rfl hz
        | @step n _ p h1 h2 h3 =>
          have ep := par_of h2
          have pr := up_rng t a0 a1 hz
          rw [ep] at pr
          refine .inr ⟨?_, SU ps f (r ++ [a] ++ [p]), n, ?_, by omega, r ++ [a], p, h3, pr.2.1, pr.2.2, by rw [List.length_append]; simp; omega, ?_, rfl⟩
          · unfold line_up_t2
            exact tB_of (apd2 own rfl (by rw [neD_i]; simp [hz]))
          · have e1 : ap2 ixD (vr 0) (ap2 subD (ownIx 2 (ap1 negD (cn (.int (1))))) (cn (.int (1)))) (SU ps f (r ++ [a])) = .ok (.int p) :=
              apd2 (a := dI ps) rfl (apd2 own rfl rfl) (ixD_t (by rw [atI_of (by omega), List.getElem?_map, h2]; rfl))
            unfold line_up_w1
            have sz : ((r ++ [a]).map PyData.int).length < sizeLine := by rw [sizeLine_eq, List.length_map, List.length_append]; simp; omega
            have e2 : sApp 2 (ap2 ixD (vr 0) (ap2 subD (ownIx 2 (ap1 negD (cn (.int (1))))) (cn (.int (1))))) (SU ps f (r ++ [a])) = .ok (.nx (SU ps f (r ++ [a] ++ [p]))) := by
              unfold sApp
              rw [show getC (SU ps f (r ++ [a])) 2 = some (.own ((r ++ [a]).map .int)) from rfl]
              simp only [e1, Rs.bnd_ok]
              rw [if_pos sz]
              simp [SU]
            rw [sq_nx e2]; rfl
          · rw [← er]
            simp [wayF, hz, ep]) 100000 ps.length (SU ps f [f]) ⟨[], f, t.up f f0 f1, f0, f1, by simp, rfl, rfl⟩ (by omega)
  subst eρ
  unfold G_line_up b_line_up
  refine run_rt ?_
  show sq _ _ [some (.pub (dI ps)), some (.pub (.int f)), none] = _
  rw [sq_nx (sOwn_of (d := [.int f]) rfl)]
  show sq _ _ (SU ps f [f]) = _
  rw [sq_nx w]
  rfl
/-! way_of -/
def SV (ps : List Int) (sh : List Bool) (f : Int) (l : List Int) (c : Option Cell) : Ev := [some (.pub (dI ps)), some (.pub (dB sh)), some (.pub (.int f)), some (.own (l.map .int)), c]
theorem ix_sh {sh : List Bool} {a : Int} (a0 : 0 ≤ a) (a1 : a < sh.length) : ixD (dB sh) (.int a) = .ok (.bool (sh.getD a.toNat false)) := ixD_t (by
  have hi : a.toNat < sh.length := by omega
  rw [atI_of a0, List.getElem?_map, List.getElem?_eq_getElem hi, List.getD_eq_getElem?_getD, List.getElem?_eq_getElem hi]; rfl)
theorem way_loop {ps : List Int} {sh : List Bool} {f : Int} : ∀ (l acc : List Int) (c : Option Cell), (∀ a ∈ l, 0 ≤ a ∧ a < sh.length) → acc.length + l.length ≤ 1000 → ∃ c', forL (.one 4) way_of_f1 (l.map .int) (SV ps sh f acc c) = .ok (.nx (SV ps sh f (acc ++ cutW sh l) c'))
  | [], acc, c, _, _ => ⟨c, by simp [forL, cutW]⟩
  | a :: r, acc, c, h, hz => by
    have ha := h a List.mem_cons_self
    rw [List.length_cons] at hz
    have sz : (acc.map PyData.int).length < sizeLine := by rw [sizeLine_eq, List.length_map]; omega
    have e1 : sApp 3 (vr 4) (SV ps sh f acc (some (.pub (.int a)))) = .ok (.nx (SV ps sh f (acc ++ [a]) (some (.pub (.int a))))) := by
      unfold sApp
      rw [show getC (SV ps sh f acc (some (.pub (.int a)))) 3 = some (.own (acc.map .int)) from rfl]
      simp only [show vr 4 (SV ps sh f acc (some (.pub (.int a)))) = .ok (.int a) from rfl, Rs.bnd_ok]
      rw [if_pos sz]
      simp [SV]
    have e2 : tru (ap2 ixD (vr 1) (vr 4)) (SV ps sh f (acc ++ [a]) (some (.pub (.int a)))) = .ok (sh.getD a.toNat false) := tru_of (apd2 (a := dB sh) (b := .int a) rfl rfl (ix_sh ha.1 ha.2))
    show ∃ c', (way_of_f1 (SV ps sh f acc (some (.pub (.int a))))).bnd _ = _
    unfold way_of_f1
    rw [sq_nx e1]
    cases q : sh.getD a.toNat false with
    | true =>
      rw [q] at e2
      refine ⟨some (.pub (.int a)), ?_⟩
      show (((sIf _ _ _ _).bnd _).bnd _) = _
      rw [sIf_t e2]
      simp only [cutW, q, if_true]
      rfl
    | false =>
      rw [q] at e2
      obtain ⟨c', ih⟩ := way_loop r (acc ++ [a]) (some (.pub (.int a))) (fun x hx => h x (List.mem_cons_of_mem _ hx)) (by rw [List.length_append]; simp; omega)
      refine ⟨c', ?_⟩
      show (((sIf _ _ _ _).bnd _).bnd _) = _
      rw [sIf_f e2]
      simp only [cutW, q, if_false, Bool.false_eq_true]
      rw [show acc ++ a :: cutW sh r = acc ++ [a] ++ cutW sh r by simp]
      exact ih
theorem way_of {ps : List Int} {sh : List Bool} (t : TreeU ps) (hs : sh.length = ps.length + 1) {f : Int} (f0 : 0 ≤ f) (f1 : f ≤ ps.length) : G_way_of [dI ps, dB sh, .int f] = .ok (.list ((wayOf ps sh f).map .int)) := by
  have l5 := t.len
  have ln := wayF_len ps [] ps.length f
  obtain ⟨c', e⟩ := way_loop (ps := ps) (sh := sh) (f := f) (lineOf ps f) [] none (fun a ha => by
    have := wayF_rng t [] ps.length f f0 f1 a ha
    omega) (by show 0 + (wayF ps [] ps.length f).length ≤ 1000; omega)
  have ec : cutW sh (lineOf ps f) = wayOf ps sh f := wayF_cut ps sh ps.length f
  rw [List.nil_append, ec] at e
  unfold G_way_of b_way_of
  refine run_rt ?_
  show sq _ _ [some (.pub (dI ps)), some (.pub (dB sh)), some (.pub (.int f)), none, none] = _
  rw [sq_nx (sOwn_of (d := []) rfl)]
  show sq _ _ (SV ps sh f [] none) = _
  rw [sq_nx (sFor_of (seqE_of (apc2 (a := dI ps) (b := .int f) rfl rfl (line_up t f0 f1)) rfl) e)]
  rfl
/-! who counts -/
def countedG (r : Rul) (s : Sta) (i : Int) : List Int := if r.login = true then s.lg.getD i.toNat [] else groupsOf s.ms (.p i) r.deep
def countsB (w : Who) (i : Int) (gs : List Int) : Bool := match w with
  | .p j => decide (j = i)
  | .g j => decide (j ∈ gs)
theorem kno_login (b : Bool) : eqD (.str (knoS b)) (.str "login") = .ok (.bool b) := by
  have n : ("now" : Str) ≠ ("login" : Str) := by decide +kernel
  cases b <;> simp [knoS, eqD, shallow, nod, PyData.depth, PyData.eqv, n]
theorem kno_now (b : Bool) : eqD (.str (knoS b)) (.str "now") = .ok (.bool (!b)) := by
  have n : ("login" : Str) ≠ ("now" : Str) := by decide +kernel
  cases b <;> simp [knoS, eqD, shallow, nod, PyData.depth, PyData.eqv, n]
theorem first_near (b : Bool) : eqD (.str (firstS b)) (.str "near") = .ok (.bool b) := by
  have n : ("bar" : Str) ≠ ("near" : Str) := by decide +kernel
  cases b <;> simp [firstS, eqD, shallow, nod, PyData.depth, PyData.eqv, n]
theorem ix_lg {lg : List (List Int)} {i : Int} (i0 : 0 ≤ i) (i1 : i < lg.length) : ixD (dL lg) (.int i) = .ok (dI (lg.getD i.toNat [])) := ixD_t (by
  have hi : i.toNat < lg.length := by omega
  rw [atI_of i0, List.getElem?_map, List.getElem?_eq_getElem hi, List.getD_eq_getElem?_getD, List.getElem?_eq_getElem hi]; rfl)
theorem counted_groups {h : Hou} {s : Sta} (r : Rul) (p : SOk h s) {i : Int} (i0 : 0 ≤ i) (i1 : i < h.n) : G_counted_groups [dR r, dS s, .int i] = .ok (dI (countedG r s i)) := by
  have ll := p.ll
  have g := groups_of p.b.grp p.b.nd (.p i) r.deep
  have x4 := ix_lg (lg := s.lg) i0 (by omega)
  unfold G_counted_groups b_counted_groups
  refine run_rt ?_
  show sq _ _ [some (.pub (dR r)), some (.pub (dS s)), some (.pub (.int i)), none, none, none] = _
  have a1 : sAsg (.many [3, 3, 4, 5]) (vr 0) [some (.pub (dR r)), some (.pub (dS s)), some (.pub (.int i)), none, none, none] = .ok (.nx [some (.pub (dR r)), some (.pub (dS s)), some (.pub (.int i)), some (.pub (.str (movS r.drops))), some (.pub (.str (knoS r.login))), some (.pub (.bool r.deep))]) := rfl
  rw [sq_nx a1]
  have t1 : tB' (ap2 eqD (vr 4) (cn (.str "login"))) [some (.pub (dR r)), some (.pub (dS s)), some (.pub (.int i)), some (.pub (.str (movS r.drops))), some (.pub (.str (knoS r.login))), some (.pub (.bool r.deep))] = .ok r.login := tB_of (apd2 (a := .str (knoS r.login)) rfl rfl (kno_login _))
  unfold countedG
  cases q : r.login with
  | true =>
    rw [q] at t1
    rw [if_pos rfl]
    refine sq_rt ?_
    rw [sIf_t (by rw [← q] at t1 ⊢; exact t1)]
    exact sq_rt (sRet_of (apd2 (a := dL s.lg) (b := .int i) rfl rfl x4))
  | false =>
    rw [q] at t1
    rw [if_neg (by simp)]
    rw [sq_nx (by rw [sIf_f (by rw [← q] at t1 ⊢; exact t1)]; rfl)]
    refine sq_rt (sRet_of (apc3 (a := dM s.ms) (b := encW (.p i)) (c := .bool r.deep) rfl rfl rfl g))
theorem counts_for (w : Who) (i : Int) (gs : List Int) : G_counts_for [encW w, .int i, dI gs] = .ok (.bool (countsB w i gs)) := by
  unfold G_counts_for b_counts_for
  refine run_rt ?_
  show sq _ _ [some (.pub (encW w)), some (.pub (.int i)), some (.pub (dI gs)), none, none] = _
  have a1 : sAsg (.many [3, 4]) (vr 0) [some (.pub (encW w)), some (.pub (.int i)), some (.pub (dI gs)), none, none] = .ok (.nx [some (.pub (encW w)), some (.pub (.int i)), some (.pub (dI gs)), some (.pub (.str w.kind)), some (.pub (.int w.num))]) := rfl
  rw [sq_nx a1]
  have t1 : tB' (ap2 eqD (vr 3) (cn (.str "p"))) [some (.pub (encW w)), some (.pub (.int i)), some (.pub (dI gs)), some (.pub (.str w.kind)), some (.pub (.int w.num))] = .ok w.isP := tB_of (apd2 (a := .str w.kind) rfl rfl (kind_p w))
  cases w with
  | p j =>
    refine sq_rt ?_
    rw [sIf_t t1]
    exact sq_rt (sRet_of (apd2 (a := .int j) (b := .int i) rfl rfl (eqD_i j i)))
  | g j =>
    rw [sq_nx (by rw [sIf_f t1]; rfl)]
    exact sq_rt (sRet_of (apd2 (a := .int j) (b := dI gs) rfl rfl (inD_t j gs)))
/-! the entries that decide -/
def selE (es : List Ent) (i : Int) (gs : List Int) (a : Int) : List Ent := es.filter fun e => decide (e.f = a) && countsB e.w i gs
def decideF (near : Bool) (sel : Int → List Ent) : List Int → List Ent → List Ent
  | [], acc => acc
  | a :: way, acc => if (acc ++ sel a) ≠ [] ∧ near = true then acc ++ sel a else decideF near sel way (acc ++ sel a)
def deciding (r : Rul) (s : Sta) (i f : Int) : List Ent := decideF r.near (selE s.es i (countedG r s i)) (wayOf s.ps s.sh f) []
def SD (r : Rul) (s : Sta) (i f : Int) (gs : List Int) (acc : List Ent) (c6 c11 c12 c13 : Option Cell) : Ev := [some (.pub (dR r)), some (.pub (dS s)), some (.pub (.int i)), some (.pub (.int f)), some (.pub (dI gs)), some (.own (acc.map encE)), c6, some (.pub (dI s.ps)), some (.pub (dB s.sh)), some (.pub (dE s.es)), some (.pub (dL s.lg)), c11, c12, c13]
theorem dec_inner (r : Rul) (s : Sta) (i f a : Int) (gs : List Int) : ∀ (es : List Ent) (acc : List Ent) (c11 c12 c13 : Option Cell), acc.length + es.length ≤ 100000 → ∃ c11' c12' c13', forL (.many [11, 12, 13]) deciding_entries_f1 (es.map encE) (SD r s i f gs acc (some (.pub (.int a))) c11 c12 c13) = .ok (.nx (SD r s i f gs (acc ++ selE es i gs a) (some (.pub (.int a))) c11' c12' c13'))
  | [], acc, c11, c12, c13, _ => ⟨c11, c12, c13, by simp [forL, selE]⟩
  | e :: es, acc, c11, c12, c13, hz => by
    rw [List.length_cons] at hz
    show ∃ c11' c12' c13', (deciding_entries_f1 (SD r s i f gs acc (some (.pub (.int a))) (some (.pub (.int e.f))) (some (.pub (encW e.w))) (some (.pub (.str (kindS e.a)))))).bnd _ = _
    let ρ := SD r s i f gs acc (some (.pub (.int a))) (some (.pub (.int e.f))) (some (.pub (encW e.w))) (some (.pub (.str (kindS e.a))))
    have t0 : tB' (ap2 eqD (vr 11) (vr 6)) ρ = .ok (decide (e.f = a)) := tB_of (apd2 (a := .int e.f) (b := .int a) rfl rfl (eqD_i _ _))
    have t1 : tru (apC G_counts_for (aC (vr 12) (aC (vr 2) (aC (vr 4) aN)))) ρ = .ok (countsB e.w i gs) := tru_of (apc3 (a := encW e.w) (b := .int i) (c := dI gs) rfl rfl rfl (counts_for _ _ _))
    have t2 : tAnd' (tB' (ap2 eqD (vr 11) (vr 6))) (tru (apC G_counts_for (aC (vr 12) (aC (vr 2) (aC (vr 4) aN))))) ρ = .ok (decide (e.f = a) && countsB e.w i gs) := by
      cases q : decide (e.f = a) with
      | true => rw [q] at t0; rw [tAnd_t t0 t1]; rfl
      | false => rw [q] at t0; rw [tAnd_f t0]; rfl
    cases q : decide (e.f = a) && countsB e.w i gs with
    | true =>
      rw [q] at t2
      obtain ⟨x, y, z, ih⟩ := dec_inner r s i f a gs es (acc ++ [e]) (some (.pub (.int e.f))) (some (.pub (encW e.w))) (some (.pub (.str (kindS e.a)))) (by rw [List.length_append]; simp; omega)
      refine ⟨x, y, z, ?_⟩
      have sz : (acc.map encE).length < sizeLine := by rw [sizeLine_eq, List.length_map]; omega
      have e1 : deciding_entries_f1 ρ = .ok (.nx (SD r s i f gs (acc ++ [e]) (some (.pub (.int a))) (some (.pub (.int e.f))) (some (.pub (encW e.w))) (some (.pub (.str (kindS e.a)))))) := by
        unfold deciding_entries_f1
        have e2 : sApp 5 (tupE (aC (vr 11) (aC (vr 12) (aC (vr 13) aN)))) ρ = .ok (.nx (SD r s i f gs (acc ++ [e]) (some (.pub (.int a))) (some (.pub (.int e.f))) (some (.pub (encW e.w))) (some (.pub (.str (kindS e.a)))))) := by
          unfold sApp
          rw [show getC ρ 5 = some (.own (acc.map encE)) from rfl]
          simp only [show tupE (aC (vr 11) (aC (vr 12) (aC (vr 13) aN))) ρ = .ok (encE e) from rfl, Rs.bnd_ok]
          rw [if_pos sz]
          simp [ρ, SD]
        rw [sq_nx (by rw [sIf_t t2, sq_nx e2]; rfl)]
        rfl
      rw [show SD r s i f gs acc (some (.pub (.int a))) (some (.pub (.int e.f))) (some (.pub (encW e.w))) (some (.pub (.str (kindS e.a)))) = ρ from rfl, e1]
      rw [show selE (e :: es) i gs a = e :: selE es i gs a by unfold selE; rw [List.filter_cons, if_pos q]]
      rw [show acc ++ e :: selE es i gs a = acc ++ [e] ++ selE es i gs a by simp]
      exact ih
    | false =>
      rw [q] at t2
      obtain ⟨x, y, z, ih⟩ := dec_inner r s i f a gs es acc (some (.pub (.int e.f))) (some (.pub (encW e.w))) (some (.pub (.str (kindS e.a)))) (by omega)
      refine ⟨x, y, z, ?_⟩
      have e1 : deciding_entries_f1 ρ = .ok (.nx ρ) := by
        unfold deciding_entries_f1
        rw [sq_nx (by rw [sIf_f t2]; rfl)]
        rfl
      rw [show SD r s i f gs acc (some (.pub (.int a))) (some (.pub (.int e.f))) (some (.pub (encW e.w))) (some (.pub (.str (kindS e.a)))) = ρ from rfl, e1]
      rw [show selE (e :: es) i gs a = selE es i gs a by unfold selE; rw [List.filter_cons, if_neg (by rw [q]; simp)]]
      exact ih
end Q

/-! T8: who sees -/
namespace Q
open PySem PySem.Spec PyProof.Rows L2 PL M
theorem selE_len (es : List Ent) (i : Int) (gs : List Int) (a : Int) : (selE es i gs a).length ≤ es.length := List.length_filter_le _ _
theorem dec_outer (r : Rul) (s : Sta) (i f : Int) (gs : List Int) (he : s.es.length ≤ 100) : ∀ (way : List Int) (acc : List Ent) (c6 c11 c12 c13 : Option Cell), acc.length + way.length * 100 ≤ 10000 → ∃ c6' c11' c12' c13', forL (.one 6) deciding_entries_f2 (way.map .int) (SD r s i f gs acc c6 c11 c12 c13) = .ok (.nx (SD r s i f gs (decideF r.near (selE s.es i gs) way acc) c6' c11' c12' c13'))
  | [], acc, c6, c11, c12, c13, _ => ⟨c6, c11, c12, c13, rfl⟩
  | a :: way, acc, c6, c11, c12, c13, hz => by
    rw [List.length_cons] at hz
    have hl := selE_len s.es i gs a
    obtain ⟨x, y, z, e⟩ := dec_inner r s i f a gs s.es acc c11 c12 c13 (by omega)
    let acc' := acc ++ selE s.es i gs a
    let ρ := SD r s i f gs acc' (some (.pub (.int a))) x y z
    have t0 : tru (ownV 5) ρ = .ok (decide (acc' ≠ [])) := by
      show Rs.ok (!(acc'.map encE).isEmpty) = _
      cases acc' <;> rfl
    have t1 : tB' (ap2 eqD (ap2 ixD (vr 0) (cn (.int (0)))) (cn (.str "near"))) ρ = .ok r.near := tB_of (apd2 (a := .str (firstS r.near)) (apd2 (a := dR r) rfl rfl rfl) rfl (first_near _))
    have t2 : tAnd' (tru (ownV 5)) (tB' (ap2 eqD (ap2 ixD (vr 0) (cn (.int (0)))) (cn (.str "near")))) ρ = .ok (decide (acc' ≠ [] ∧ r.near = true)) := by
      by_cases q : acc' ≠ []
      · rw [decide_eq_true q] at t0
        rw [tAnd_t t0 t1]
        cases r.near <;> simp [q]
      · rw [decide_eq_false q] at t0
        rw [tAnd_f t0]
        simp [q]
    have inner : sFor (seqE (vr 9)) (.many [11, 12, 13]) deciding_entries_f1 (SD r s i f gs acc (some (.pub (.int a))) c11 c12 c13) = .ok (.nx ρ) := sFor_of (ds := s.es.map encE) rfl e
    show ∃ c6' c11' c12' c13', (deciding_entries_f2 (SD r s i f gs acc (some (.pub (.int a))) c11 c12 c13)).bnd _ = _
    unfold deciding_entries_f2
    rw [sq_nx inner]
    by_cases q : acc' ≠ [] ∧ r.near = true
    · rw [decide_eq_true q] at t2
      refine ⟨some (.pub (.int a)), x, y, z, ?_⟩
      show (((sIf _ _ _ _).bnd _).bnd _) = _
      rw [sIf_t t2]
      have : decideF r.near (selE s.es i gs) (a :: way) acc = acc' := by
        show (if _ then _ else _) = _
        rw [if_pos q]
      rw [this]
      rfl
    · rw [decide_eq_false q] at t2
      obtain ⟨x6, x11, x12, x13, ih⟩ := dec_outer r s i f gs he way acc' (some (.pub (.int a))) x y z (by show (acc ++ selE s.es i gs a).length + _ ≤ _; rw [List.length_append]; omega)
      refine ⟨x6, x11, x12, x13, ?_⟩
      show (((sIf _ _ _ _).bnd _).bnd _) = _
      rw [sIf_f t2]
      have : decideF r.near (selE s.es i gs) (a :: way) acc = decideF r.near (selE s.es i gs) way acc' := by
        show (if _ then _ else _) = _
        rw [if_neg q]
      rw [this]
      exact ih
theorem deciding_entries {h : Hou} {s : Sta} (r : Rul) (o : HOk h) (p : SOk h s) {i f : Int} (i0 : 0 ≤ i) (i1 : i < h.n) (f0 : 0 ≤ f) (f1 : f ≤ s.ps.length) : G_deciding_entries [dR r, dS s, .int i, .int f] = .ok (.list ((deciding r s i f).map encE)) := by
  have l5 := p.b.tree.len
  have ln := wayF_len s.ps s.sh s.ps.length f
  obtain ⟨x6, x11, x12, x13, e⟩ := dec_outer r s i f (countedG r s i) (by have := p.b.el; omega) (wayOf s.ps s.sh f) [] none none none none (by show 0 + (wayF s.ps s.sh s.ps.length f).length * 100 ≤ 10000; omega)
  unfold G_deciding_entries b_deciding_entries
  refine run_rt ?_
  show sq _ _ [some (.pub (dR r)), some (.pub (dS s)), some (.pub (.int i)), some (.pub (.int f)), none, none, none, none, none, none, none, none, none, none] = _
  have a1 : sAsg (.many [7, 8, 9, 10, 10]) (vr 1) [some (.pub (dR r)), some (.pub (dS s)), some (.pub (.int i)), some (.pub (.int f)), none, none, none, none, none, none, none, none, none, none] = .ok (.nx [some (.pub (dR r)), some (.pub (dS s)), some (.pub (.int i)), some (.pub (.int f)), none, none, none, some (.pub (dI s.ps)), some (.pub (dB s.sh)), some (.pub (dE s.es)), some (.pub (dL s.lg)), none, none, none]) := rfl
  rw [sq_nx a1, sq_nx (sSet_of (apc3 (a := dR r) (b := dS s) (c := .int i) rfl rfl rfl (counted_groups r p i0 i1))), sq_nx (sOwn_of (d := []) rfl)]
  show sq _ _ (SD r s i f (countedG r s i) [] none none none none) = _
  rw [sq_nx (sFor_of (seqE_of (apc3 (a := dI s.ps) (b := dB s.sh) (c := .int f) rfl rfl rfl (way_of p.b.tree p.b.sl f0 f1)) rfl) e)]
  rfl
def seesB (r : Rul) (s : Sta) (i f : Int) : Bool := (deciding r s i f).any (fun e => e.a) && (deciding r s i f).all fun e => e.a
theorem person_sees {h : Hou} {s : Sta} (r : Rul) (o : HOk h) (p : SOk h s) {i f : Int} (i0 : 0 ≤ i) (i1 : i < h.n) (f0 : 0 ≤ f) (f1 : f ≤ s.ps.length) : G_person_sees [dR r, dS s, .int i, .int f] = .ok (.bool (seesB r s i f)) := by
  have e := deciding_entries r o p i0 i1 f0 f1
  let ρ : Ev := [some (.pub (dR r)), some (.pub (dS s)), some (.pub (.int i)), some (.pub (.int f)), none, none, none]
  let ks : List Str := (deciding r s i f).map fun e => kindS e.a
  have c1 : comp (seqE (apC G_deciding_entries (aC (vr 0) (aC (vr 1) (aC (vr 2) (aC (vr 3) aN)))))) (.many [5, 5, 6]) [5, 5, 6] noIf person_sees_e1 ρ = .ok (ks.map .str) := by
    refine comp_of (seqE_of (apc4 (a := dR r) (b := dS s) (c := .int i) (d := .int f) rfl rfl rfl rfl e) rfl) ?_
    show compL _ _ _ _ _ = Rs.ok (((deciding r s i f).map fun e => kindS e.a).map PyData.str)
    rw [List.map_map]
    exact compL_map (to := fun e => [some (.pub (dR r)), some (.pub (dS s)), some (.pub (.int i)), some (.pub (.int f)), none, some (.pub (encW e.w)), some (.pub (.str (kindS e.a)))]) _ fun e _ => ⟨rfl, rfl⟩
  have inS : ∀ (x : Str) (xs : List Str), inD (.str x) (.list (xs.map .str)) = .ok (.bool (xs.contains x)) := fun x xs => inD_strs (x := x) (xs := xs)
  have ninS : ∀ (x : Str) (xs : List Str), ninD (.str x) (.list (xs.map .str)) = .ok (.bool (!xs.contains x)) := fun x xs => by
    have := inD_strs (x := x) (xs := xs)
    unfold inD at this
    unfold ninD
    simp only at this ⊢
    split at this
    · rename_i q
      rw [if_pos q]
      injection this with this
      injection this with this
      rw [this]
    · exact nomatch this
  have k1 : ks.contains "allow" = (deciding r s i f).any (fun e => e.a) := by
    show ((deciding r s i f).map fun e => kindS e.a).contains ("allow" : Str) = _
    generalize deciding r s i f = l
    induction l with
    | nil => rfl
    | cons x t ih =>
      rw [List.map_cons, List.contains_cons, List.any_cons, ih]
      congr 1
      cases x.a
      · show (("allow" : Str) == ("bar" : Str)) = false
        exact beq_eq_false_iff_ne.mpr allow_ne_bar
      · show (("allow" : Str) == ("allow" : Str)) = true
        simp
  have k2 : ks.contains "bar" = !(deciding r s i f).all (fun e => e.a) := by
    show ((deciding r s i f).map fun e => kindS e.a).contains ("bar" : Str) = _
    generalize deciding r s i f = l
    induction l with
    | nil => rfl
    | cons x t ih =>
      rw [List.map_cons, List.contains_cons, List.all_cons, ih, Bool.not_and]
      congr 1
      cases x.a
      · show (("bar" : Str) == ("bar" : Str)) = true
        simp
      · show (("bar" : Str) == ("allow" : Str)) = false
        exact beq_eq_false_iff_ne.mpr bar_ne_allow
  unfold G_person_sees b_person_sees
  refine run_rt ?_
  show sq _ _ ρ = _
  rw [sq_nx (sSet_of (lst_of c1))]
  refine sq_rt (sRet_of ?_)
  have u1 : ap2 inD (cn (.str "allow")) (vr 4) [some (.pub (dR r)), some (.pub (dS s)), some (.pub (.int i)), some (.pub (.int f)), some (.pub (.list (ks.map .str))), none, none] = .ok (.bool (ks.contains "allow")) := apd2 (a := .str "allow") (b := .list (ks.map .str)) rfl rfl (inS _ _)
  have u2 : ap2 ninD (cn (.str "bar")) (vr 4) [some (.pub (dR r)), some (.pub (dS s)), some (.pub (.int i)), some (.pub (.int f)), some (.pub (.list (ks.map .str))), none, none] = .ok (.bool (!ks.contains "bar")) := apd2 (a := .str "bar") (b := .list (ks.map .str)) rfl rfl (ninS _ _)
  show andV _ _ [some (.pub (dR r)), some (.pub (dS s)), some (.pub (.int i)), some (.pub (.int f)), some (.pub (.list (ks.map .str))), none, none] = _
  unfold andV
  rw [u1, Rs.bnd_ok, isB_b, Rs.bnd_ok, u2, k1, k2]
  unfold seesB
  cases (deciding r s i f).any (fun e => e.a) <;> simp
end Q

/-! T9: what the laws reckon themselves: groups, ways -/
namespace Q
open PySem PySem.Spec PyProof.Rows L2 PL M
theorem r3 (ρ : Ev) : apN rng1 (aC (cn (.int (3))) aN) ρ = .ok (rangeL 0 3) := by
  simp only [apN, aC, cn, aN, Rs.bnd_ok]
  exact rng1_i (by decide) (by decide)
theorem rangeL3 : rangeL 0 3 = ([0, 1, 2] : List Int).map .int := rfl
theorem inM (g : Int) (w : Who) (ms : List Mem) : inD (.tuple [.int g, encW w]) (dM ms) = .ok (.bool (decide ((⟨g, w⟩ : Mem) ∈ ms))) := inD_t (⟨g, w⟩ : Mem) ms
theorem inI (g : Int) (l : List Int) : inD (.int g) (.list (l.map .int)) = .ok (.bool (decide (g ∈ l))) := inD_l g l
def SLG (ms : List Mem) (w : Who) (deep : Bool) (l : List Int) (c4 c5 : Option Cell) : Ev := [some (.pub (dM ms)), some (.pub (encW w)), some (.pub (.bool deep)), some (.pub (.list (l.map .int))), c4, c5, none, none]
theorem any_bools (l : List Bool) : anyD [.list (l.map .bool)] = .ok (.bool (l.any fun b => b)) := by
  have : ∀ l : List Bool, bools (l.map .bool) = .ok l := by
    intro l
    induction l with
    | nil => rfl
    | cons b r ih =>
      show (bools (r.map .bool)).bnd _ = _
      rw [ih]; rfl
  show (bools _).bnd _ = _
  rw [this, Rs.bnd_ok]
  congr 2
theorem lg_turn (ms : List Mem) (w : Who) (deep : Bool) (l : List Int) (c4 c5 : Option Cell) : law_groups_f5 (SLG ms w deep l c4 c5) = .ok (.nx (SLG ms w deep (upG ms l) c4 (some (.pub (.list ((l.map Who.g).map encW)))))) := by
  have e1 : comp (seqE (vr 3)) (.one 6) [6] noIf law_groups_e4 (SLG ms w deep l c4 c5) = .ok ((l.map Who.g).map encW) := by
    refine comp_of (ds := l.map .int) rfl ?_
    rw [List.map_map]
    exact compL_map (to := fun x => [some (.pub (dM ms)), some (.pub (encW w)), some (.pub (.bool deep)), some (.pub (.list (l.map .int))), c4, c5, some (.pub (.int x)), none]) l fun x _ => ⟨rfl, rfl⟩
  let ρ := SLG ms w deep l c4 (some (.pub (.list ((l.map Who.g).map encW))))
  have e2 : comp (apN rng1 (aC (cn (.int (3))) aN)) (.one 6) [6] law_groups_c3 law_groups_e2 ρ = .ok ((upG ms l).map .int) := by
    refine comp_of (r3 _) ?_
    rw [rangeL3]
    unfold upG
    refine compL_filter (to := fun x => [some (.pub (dM ms)), some (.pub (encW w)), some (.pub (.bool deep)), some (.pub (.list (l.map .int))), c4, some (.pub (.list ((l.map Who.g).map encW))), some (.pub (.int x)), none]) [0, 1, 2] fun x _ => ⟨rfl, ?_, fun _ => rfl⟩
    let ρ2 : Ev := [some (.pub (dM ms)), some (.pub (encW w)), some (.pub (.bool deep)), some (.pub (.list (l.map .int))), c4, some (.pub (.list ((l.map Who.g).map encW))), some (.pub (.int x)), none]
    have t0 : tB' (ap2 inD (vr 6) (vr 3)) ρ2 = .ok (decide (x ∈ l)) := tB_of (apd2 (a := .int x) (b := .list (l.map .int)) rfl rfl (inI x l))
    have t1 : tru (apC anyD (aC (lst (comp (seqE (vr 5)) (.one 7) [7] noIf law_groups_e1)) aN)) ρ2 = .ok (l.any fun y => decide ((⟨x, .g y⟩ : Mem) ∈ ms)) := by
      have c1 : comp (seqE (vr 5)) (.one 7) [7] noIf law_groups_e1 ρ2 = .ok ((l.map fun y => decide ((⟨x, .g y⟩ : Mem) ∈ ms)).map .bool) := by
        refine comp_of (ds := (l.map Who.g).map encW) rfl ?_
        rw [List.map_map, List.map_map]
        refine compL_map (to := fun y => [some (.pub (dM ms)), some (.pub (encW w)), some (.pub (.bool deep)), some (.pub (.list (l.map .int))), c4, some (.pub (.list ((l.map Who.g).map encW))), some (.pub (.int x)), some (.pub (encW (.g y)))]) l fun y _ => ⟨rfl, ?_⟩
        exact apd2 (a := .tuple [.int x, encW (.g y)]) (b := dM ms) rfl rfl (inM _ _ _)
      refine tru_of (apc1 (lst_of c1) ?_)
      rw [any_bools, List.any_map]
      rfl
    show tOr' _ _ ρ2 = _
    cases q : decide (x ∈ l) with
    | true => rw [q] at t0; rw [tOr_t t0]; rfl
    | false => rw [q] at t0; rw [tOr_f t0 t1]; rfl
  unfold law_groups_f5
  rw [sq_nx (sSet_of (lst_of e1))]
  show sq _ _ ρ = _
  rw [sq_nx (sSet_of (lst_of e2))]
  rfl
theorem law_groupsT (ms : List Mem) (w : Who) (deep : Bool) : G_law_groups [dM ms, encW w, .bool deep] = .ok (.list ((groupsOf ms w deep).map .int)) := by
  let ρ0 : Ev := [some (.pub (dM ms)), some (.pub (encW w)), some (.pub (.bool deep)), none, none, none, none, none]
  have e0 : comp (apN rng1 (aC (cn (.int (3))) aN)) (.one 6) [6] law_groups_c7 law_groups_e6 ρ0 = .ok ((dirG ms w).map .int) := by
    refine comp_of (r3 _) ?_
    rw [rangeL3]
    unfold dirG
    refine compL_filter (to := fun x => [some (.pub (dM ms)), some (.pub (encW w)), some (.pub (.bool deep)), none, none, none, some (.pub (.int x)), none]) [0, 1, 2] fun x _ => ⟨rfl, ?_, fun _ => rfl⟩
    exact tB_of (apd2 (a := .tuple [.int x, encW w]) (b := dM ms) rfl rfl (inM _ _ _))
  unfold G_law_groups b_law_groups
  refine run_rt ?_
  show sq _ _ ρ0 = _
  rw [sq_nx (sSet_of (lst_of e0))]
  show sq _ _ (SLG ms w deep (dirG ms w) none none) = _
  cases deep with
  | false =>
    have rr : apN rng1 (aC (ifE (tru (vr 2)) (cn (.int (2))) (cn (.int (0)))) aN) (SLG ms w false (dirG ms w) none none) = .ok (rangeL 0 0) := apn1 (a := .int 0) rfl (rng_n (i := 0) (by decide) (by decide))
    rw [sq_nx (sFor_of rr rfl)]
    rfl
  | true =>
    have rr : apN rng1 (aC (ifE (tru (vr 2)) (cn (.int (2))) (cn (.int (0)))) aN) (SLG ms w true (dirG ms w) none none) = .ok (rangeL 0 2) := apn1 (a := .int 2) rfl (rng_n (i := 2) (by decide) (by decide))
    have lp : forL (.one 4) law_groups_f5 (rangeL 0 2) (SLG ms w true (dirG ms w) none none) = .ok (.nx (SLG ms w true (upG ms (upG ms (dirG ms w))) (some (.pub (.int 1))) (some (.pub (.list (((upG ms (dirG ms w)).map Who.g).map encW)))))) := by
      show (law_groups_f5 (SLG ms w true (dirG ms w) (some (.pub (.int 0))) none)).bnd _ = _
      rw [lg_turn]
      show (law_groups_f5 (SLG ms w true (upG ms (dirG ms w)) (some (.pub (.int 1))) _)).bnd _ = _
      rw [lg_turn]
      rfl
    rw [sq_nx (sFor_of rr lp)]
    rfl
end Q

/-! T10: the law's own sees -/
namespace Q
open PySem PySem.Spec PyProof.Rows L2 PL M
theorem ix_ps {ps : List Int} (t : TreeU ps) {a : Int} (a0 : 0 ≤ a) (a1 : a ≤ ps.length) (ha : a ≠ 0) : ixD (dI ps) (.int (a - 1)) = .ok (.int (par ps a)) := ixD_t (by rw [atI_of (by omega), List.getElem?_map, (up_rng t a0 a1 ha).1]; rfl)
/-! how the laws begin -/
theorem cell_atI (ns : List Int) {k : Int} (hk : 0 ≤ k) : G_law_cell_at [.list (ns.map .int), .int k] = .ok (.int (cellAt ns k.toNat)) := by
  have := cell_at ns k.toNat
  rwa [Int.toNat_of_nonneg hk] at this
theorem pre_house (ns : List Int) (k : Int) (hk : 0 ≤ k) : ∃ h : Hou, HOk h ∧ ∀ ρ : Ev, vr 0 ρ = .ok (.list (ns.map .int)) → apC G_law_house (aC (apC G_law_cell_at (aC (vr 0) (aC (cn (.int k)) aN))) aN) ρ = .ok (dH h) := by
  obtain ⟨h, o, e⟩ := house_t (cellAt ns k.toNat)
  exact ⟨h, o, fun ρ hv => apc1 (apc2 hv rfl (cell_atI ns hk)) e⟩
theorem pre_state (ns : List Int) (k : Int) (hk : 0 ≤ k) {h : Hou} (o : HOk h) : ∃ s : Sta, SOk h s ∧ ∀ ρ : Ev, vr 0 ρ = .ok (.list (ns.map .int)) → vr 1 ρ = .ok (dH h) → apC G_law_state (aC (apC G_law_cell_at (aC (vr 0) (aC (cn (.int k)) aN))) (aC (ap2 ixD (vr 1) (cn (.int (0)))) (aC (apC lenD (aC (ap2 ixD (vr 1) (cn (.int (1)))) aN)) aN))) ρ = .ok (dS s) := by
  obtain ⟨s, p, e⟩ := state_t o (cellAt ns k.toNat) rfl
  refine ⟨s, p, fun ρ hv h1 => apc3 (apc2 hv rfl (cell_atI ns hk)) (apd2 (a := dH h) (b := .int 0) (r := .ok (.int h.n)) h1 rfl rfl) (b := .int h.n) (c := .int h.ps.length) (apc1 (apd2 (a := dH h) (b := .int 1) (r := .ok (dI h.ps)) h1 rfl rfl) ?_) e⟩
  show Rs.ok _ = _
  rw [List.length_map]
theorem pre_draws (ns : List Int) (k n : Int) (hk : 0 ≤ k) (h0 : 0 ≤ n) (hn : n ≤ 1000) : ∃ l : List Int, Draws n.toNat l ∧ ∀ ρ : Ev, vr 0 ρ = .ok (.list (ns.map .int)) → apC G_law_draws (aC (apC G_law_cell_at (aC (vr 0) (aC (cn (.int k)) aN))) (aC (cn (.int n)) aN)) ρ = .ok (.list (l.map .int)) := by
  obtain ⟨l, hl, e⟩ := draws (cellAt ns k.toNat) n.toNat (by omega)
  rw [Int.toNat_of_nonneg h0] at e
  exact ⟨l, hl, fun ρ hv => apc2 (apc2 hv rfl (cell_atI ns hk)) rfl e⟩
theorem ix_d {l : List Int} {k : Int} (h0 : 0 ≤ k) (h : k.toNat < l.length) : ixD (.list (l.map .int)) (.int k) = .ok (.int l[k.toNat]) := ixD_l (by rw [atI_of h0, List.getElem?_map, List.getElem?_eq_getElem h]; rfl)
end Q

/-! T11: deeds -/
namespace Q
open PySem PySem.Spec PyProof.Rows L2 PL M
theorem eqD_s (x y : Str) : eqD (.str x) (.str y) = .ok (.bool (x == y)) := by
  simp [eqD, shallow, nod, PyData.depth, PyData.eqv]
end Q

/-! T12: what deeds do -/
namespace Q
open PySem PySem.Spec PyProof.Rows L2 PL M
theorem tup_of {g : Ev → Rs (List PyData)} {ρ : Ev} {ds : List PyData} (h : g ρ = .ok ds) : tupE g ρ = .ok (.tuple ds) := by unfold tupE; rw [h, Rs.bnd_ok]
def restE (es : List Ent) (f : Int) (w : Who) : List Ent := es.filter fun e => !decide (e.spot = ⟨f, w⟩)
theorem cut2 (a b : PyData) (r : List PyData) : slD (.tuple (a :: b :: r)) none (some 2) = .ok (.tuple [a, b]) := by
  show Rs.ok (PyData.tuple (PL.cutD _ _ _)) = _
  unfold PL.cutD
  rw [show (2 : Int) = ((2 : Nat) : Int) by rfl, HT.sIx_nat, HT.sIx_none]
  simp
end Q

/-! T13: states stay small; the law's lines -/
namespace Q
open PySem PySem.Spec PyProof.Rows L2 PL M
theorem sortE_len {α : Type} [EncO α] (l : List α) : (sortE l).length = l.length := (perm_sortE l).length_eq
end Q

/-! T14: a state after a deed is a state -/
namespace Q
open PySem PySem.Spec PyProof.Rows L2 PL M
theorem spot_lt_iff {a b : Ent} (ne : a.spot ≠ b.spot) : ltE a b = ltE a.spot b.spot := by
  have ea : EntOk 1000000 1000000 (encE a) ∨ True := .inr trivial
  obtain ⟨f, w, k⟩ := a
  obtain ⟨f', w', k'⟩ := b
  have al : PySem.W.alike (encW w) (encW w') = true := EncO.alk w w'
  have ai : PySem.W.alike (.int f) (.int f') = true := by simp [PySem.W.alike]
  have t : ∀ xs ys : List PyData, PySem.W.dataLt (.tuple xs) (.tuple ys) = PyProof.Rows.lexLt itemOrd (PySem.W.keyToksAll xs) (PySem.W.keyToksAll ys) := fun xs ys => by
    unfold PySem.W.dataLt
    simp only [PySem.W.keyToks]
  show PySem.W.dataLt (.tuple [.int f, encW w, .str (kindS k)]) (.tuple [.int f', encW w', .str (kindS k')]) = PySem.W.dataLt (.tuple [.int f, encW w]) (.tuple [.int f', encW w'])
  rw [t, t, PySem.W.dataLt_cons ai, PySem.W.dataLt_cons ai, PySem.W.dataLt_cons al, PySem.W.dataLt_cons al]
  by_cases h1 : f = f'
  · subst h1
    have h2 : w ≠ w' := fun z => ne (by rw [z]; rfl)
    have e2 : PyData.eqv (encW w) (encW w') = false := by
      cases q : PyData.eqv (encW w) (encW w') with
      | false => rfl
      | true => exact absurd ((Enc.eqv w w').mp q) h2
    rw [e2]; rfl
  · have e1 : PyData.eqv (.int f) (.int f') = false := by simp [PyData.eqv, h1]
    rw [e1]; rfl
theorem asc_spots {l : List Ent} (h : AscE (l.map Ent.spot)) : AscE l := by
  refine (List.pairwise_map.mp h).imp fun {a b} q => ?_
  rw [spot_lt_iff (fun z => by rw [z, ltE_irr] at q; exact nomatch q)]
  exact q
theorem spots_asc {l : List Ent} (h : AscE l) (nd : (l.map Ent.spot).Nodup) : AscE (l.map Ent.spot) := by
  refine List.pairwise_map.mpr ((h.and (List.pairwise_map.mp nd)).imp fun {a b} ⟨q, ne⟩ => ?_)
  rw [← spot_lt_iff ne]; exact q
theorem spots_sort {l : List Ent} (nd : (l.map Ent.spot).Nodup) : AscE ((sortE l).map Ent.spot) := by
  have n1 : l.Nodup := (List.pairwise_map.mp nd).imp fun {a b} q e => q (by rw [e])
  exact spots_asc (sortE_asc n1) (((perm_sortE l).map Ent.spot).symm.nodup nd)
/-- reaching further -/
theorem Reach.trans {ms : List Mem} {w : Who} {x y : Int} (h : Reach ms w x) (h' : Reach ms (.g x) y) : Reach ms w y := by
  induction h' with
  | dir hm => exact .up h hm
  | up _ hm ih => exact .up ih hm
end Q

/-! T15: members put in, as the law reckons rings -/
namespace Q
open PySem PySem.Spec PyProof.Rows L2 PL M
/-- pairs of numbers -/
structure Pr where
  a : Int
  b : Int
  deriving DecidableEq
def encP (p : Pr) : PyData := .tuple [.int p.a, .int p.b]
instance : Enc Pr where
  enc := encP
  eqv a b := by
    obtain ⟨f, w⟩ := a
    obtain ⟨f', w'⟩ := b
    simp [encP, PyData.eqv, PyData.eqvAll]
  dep a := by simp [encP, PyData.depth, PyData.depthAll]
  nd a := rfl
/-- a turn of the law's own closing -/
def turnP (x : Pr) (l : List Pr) : List Pr := l ++ (l.filter fun q => decide (q.a = x.b) && !decide ((⟨x.a, q.b⟩ : Pr) ∈ l)).map fun q => ⟨x.a, q.b⟩
/-- related by links -/
inductive Lnk (l : List Pr) : Int → Int → Prop where
  | one {a b : Int} : (⟨a, b⟩ : Pr) ∈ l → Lnk l a b
  | cons {a b c : Int} : (⟨a, b⟩ : Pr) ∈ l → Lnk l b c → Lnk l a c
theorem Lnk.app {l : List Pr} {a b c : Int} (h : Lnk l a b) (h' : Lnk l b c) : Lnk l a c := by
  induction h with
  | one h => exact .cons h h'
  | cons h _ ih => exact .cons h (ih h')
def Pr.ok (x : Pr) : Prop := (0 ≤ x.a ∧ x.a < 3) ∧ (0 ≤ x.b ∧ x.b < 3)
def PrsOk (l : List Pr) : Prop := l.Nodup ∧ ∀ x ∈ l, x.ok
theorem PrsOk.len {l : List Pr} (h : PrsOk l) : l.length ≤ 9 := by
  have := nodup_le 9 (l.map fun x => x.a * 3 + x.b) (List.pairwise_map.mpr ((List.Pairwise.and_mem.mp h.1).imp fun {x y} ⟨hx, hy, ne⟩ e => ne (by
    have ⟨⟨a0, a1⟩, b0, b1⟩ := h.2 x hx
    have ⟨⟨c0, c1⟩, d0, d1⟩ := h.2 y hy
    obtain ⟨xa, xb⟩ := x
    obtain ⟨ya, yb⟩ := y
    simp only at *
    have : xa = ya := by omega
    have : xb = yb := by omega
    subst_vars; rfl))) fun z hz => by
    obtain ⟨x, hx, rfl⟩ := List.mem_map.mp hz
    have ⟨⟨a0, a1⟩, b0, b1⟩ := h.2 x hx
    omega
  rwa [List.length_map] at this
theorem PrsOk.turn {l : List Pr} {x : Pr} (h : PrsOk l) (hx : x.ok) : PrsOk (turnP x l) := by
  let pr : Pr → Bool := fun q => decide (q.a = x.b) && !decide ((⟨x.a, q.b⟩ : Pr) ∈ l)
  have n1 : ((l.filter pr).map fun q => (⟨x.a, q.b⟩ : Pr)).Nodup := by
    refine List.pairwise_map.mpr ((List.Pairwise.and_mem.mp (h.1.filter pr)).imp fun {p q} ⟨hp, hq, ne⟩ e => ne ?_)
    have h1 := (List.mem_filter.mp hp).2
    have h2 := (List.mem_filter.mp hq).2
    simp only [pr, Bool.and_eq_true, decide_eq_true_eq] at h1 h2
    injection e with _ e
    cases p; cases q; simp only at *
    rw [h1.1, h2.1, e]
  have n2 : ∀ z ∈ (l.filter pr).map fun q => (⟨x.a, q.b⟩ : Pr), z ∉ l ∧ z.ok := fun z hz => by
    obtain ⟨q, hq, rfl⟩ := List.mem_map.mp hz
    have h1 := (List.mem_filter.mp hq).2
    simp only [pr, Bool.and_eq_true, Bool.not_eq_true', decide_eq_false_iff_not] at h1
    exact ⟨h1.2, hx.1, (h.2 q (List.mem_filter.mp hq).1).2⟩
  have e : turnP x l = l ++ (l.filter pr).map fun q => (⟨x.a, q.b⟩ : Pr) := rfl
  rw [e]
  refine ⟨List.nodup_append.mpr ⟨h.1, n1, fun y hy z hz e => (n2 z hz).1 (e ▸ hy)⟩, fun y hy => ?_⟩
  rcases List.mem_append.mp hy with hy | hy
  · exact h.2 y hy
  · exact (n2 y hy).2
end Q

/-! T16: the law's own ways; what only the way tells -/
namespace Q
open PySem PySem.Spec PyProof.Rows L2 PL M
/-- a way ends here -/
def stopW (sh : List Bool) (a : Int) : Prop := a = 0 ∨ sh.getD a.toNat false = true
theorem wayF_stop {ps : List Int} {sh : List Bool} {a : Int} (h : stopW sh a) (n : Nat) : wayF ps sh n a = [a] := by
  cases n with
  | zero => rfl
  | succ n => simp only [wayF]; rw [if_pos (show a = 0 ∨ sh.getD a.toNat false = true from h)]
theorem law_way {h : Hou} {s : Sta} (p : SOk h s) {f : Int} (f0 : 0 ≤ f) (f1 : f ≤ s.ps.length) : G_law_way [dS s, .int f] = .ok (.list ((wayOf s.ps s.sh f).map .int)) := by
  have t := p.b.tree
  have l5 := t.len
  have sl := p.b.sl
  have dec : ∀ a, Decidable (stopW s.sh a) := fun a => Classical.propDecidable _
  let S (l : List Int) (c : Option Cell) : Ev := [some (.pub (dS s)), some (.pub (.int f)), some (.own (l.map .int)), c]
  obtain ⟨ρ', e, r, a, c, ⟨a0, a1⟩, lr, er, eρ⟩ := forL_range (j := 3) (n := s.ps.length) (f := law_way_f1)
    (fun i ρ => ∃ (r : List Int) (a : Int) (c : Option Cell), (0 ≤ a ∧ a ≤ s.ps.length) ∧ r.length ≤ i ∧ ((stopW s.sh a ∧ r ++ [a] = wayOf s.ps s.sh f) ∨ (¬ stopW s.sh a ∧ Up s.ps (s.ps.length - i) a ∧ r ++ wayF s.ps s.sh (s.ps.length - i) a = wayOf s.ps s.sh f)) ∧ ρ = S (r ++ [a]) c) (S [f] none)
    (fun i ρ hi ⟨r, a, c, ⟨a0, a1⟩, lr, er, eρ⟩ => by
      subst eρ
      let ρ := S (r ++ [a]) (some (.pub (.int i)))
      have hl : L2.atI ((r ++ [a]).map PyData.int) (-1) = some (.int a) := by rw [List.map_append]; exact atI_last _ _
      have own : ownIx 2 (ap1 negD (cn (.int (1)))) ρ = .ok (.int a) := by
        unfold ownIx
        simp only [ownL, ρ, S, getC, Rs.bnd_ok, ap1, cn, negD, asI]
        rw [hl]
      have t0 : tB' (ap2 gtD (ownIx 2 (ap1 negD (cn (.int (1))))) (cn (.int (0)))) ρ = .ok (decide (0 < a)) := tB_of (apd2 own (b := .int 0) rfl (gtD_i _ _))
      have t1 : tNot' (tru (ap2 ixD (ap2 ixD (vr 0) (cn (.int (1)))) (ownIx 2 (ap1 negD (cn (.int (1))))))) ρ = .ok (!s.sh.getD a.toNat false) := tNot_of (tru_of (apd2 (a := dB s.sh) (apd2 (a := dS s) rfl rfl rfl) own (ix_sh a0 (by omega))))
      have hm : s.ps.length - i = (s.ps.length - (i + 1)) + 1 := by omega
      rcases er with ⟨st, er⟩ | ⟨ns, hu, er⟩
      · refine ⟨ρ, ?_, r, a, some (.pub (.int i)), ⟨a0, a1⟩, by omega, .inl ⟨st, er⟩, rfl⟩
        have t2 : tAnd' (tB' (ap2 gtD (ownIx 2 (ap1 negD (cn (.int (1))))) (cn (.int (0))))) (tNot' (tru (ap2 ixD (ap2 ixD (vr 0) (cn (.int (1)))) (ownIx 2 (ap1 negD (cn (.int (1)))))))) ρ = .ok false := by
          by_cases a2 : 0 < a
          · rw [decide_eq_true a2] at t0
            rw [tAnd_t t0 t1]
            rcases st with hz | hz
            · omega
            · rw [hz]; rfl
          · rw [decide_eq_false a2] at t0; rw [tAnd_f t0]
        show law_way_f1 ρ = _
        unfold law_way_f1
        rw [sq_nx (by rw [sIf_f t2]; rfl)]
        rfl
      · have hz : a ≠ 0 := fun z => ns (.inl z)
        have hs : s.sh.getD a.toNat false = false := by
          cases q : s.sh.getD a.toNat false with
          | false => rfl
          | true => exact absurd (.inr q) ns
        rw [hm] at hu er
        have ur := up_rng t a0 a1 hz
        have hp : Up s.ps (s.ps.length - (i + 1)) (par s.ps a) := by
          cases hu with
          | top => exact absurd rfl hz
          | step h1 h2 h3 => rw [par_of h2]; exact h3
        have ew : r ++ [a] ++ wayF s.ps s.sh (s.ps.length - (i + 1)) (par s.ps a) = wayOf s.ps s.sh f := by
          rw [← er]
          simp only [wayF]
          rw [if_neg (show ¬ (a = 0 ∨ s.sh.getD a.toNat false = true) from ns)]
          simp
        refine ⟨S (r ++ [a] ++ [par s.ps a]) (some (.pub (.int i))), ?_, r ++ [a], par s.ps a, some (.pub (.int i)), ur.2, by rw [List.length_append]; simp; omega, ?_, rfl⟩
        · rw [decide_eq_true (by omega)] at t0
          rw [hs] at t1
          have e1 : ap2 ixD (ap2 ixD (vr 0) (cn (.int (0)))) (ap2 subD (ownIx 2 (ap1 negD (cn (.int (1))))) (cn (.int (1)))) ρ = .ok (.int (par s.ps a)) := apd2 (a := dI s.ps) (apd2 (a := dS s) rfl rfl rfl) (apd2 own (b := .int 1) rfl rfl) (ix_ps t a0 a1 hz)
          have sz : ((r ++ [a]).map PyData.int).length < sizeLine := by rw [sizeLine_eq, List.length_map, List.length_append]; simp; omega
          have e2 : sApp 2 (ap2 ixD (ap2 ixD (vr 0) (cn (.int (0)))) (ap2 subD (ownIx 2 (ap1 negD (cn (.int (1))))) (cn (.int (1))))) ρ = .ok (.nx (S (r ++ [a] ++ [par s.ps a]) (some (.pub (.int i))))) := by
            unfold sApp
            rw [show getC ρ 2 = some (.own ((r ++ [a]).map .int)) from rfl]
            simp only [e1, Rs.bnd_ok]
            rw [if_pos sz]
            simp [ρ, S]
          show law_way_f1 ρ = _
          unfold law_way_f1
          rw [sq_nx (by rw [sIf_t (tAnd_t t0 t1), sq_nx e2]; rfl)]
          rfl
        · by_cases st : stopW s.sh (par s.ps a)
          · refine .inl ⟨st, ?_⟩
            rw [wayF_stop st] at ew
            exact ew
          · exact .inr ⟨st, hp, ew⟩) (by
      refine ⟨[], f, none, ⟨f0, f1⟩, by simp, ?_, rfl⟩
      by_cases st : stopW s.sh f
      · exact .inl ⟨st, by unfold wayOf; rw [wayF_stop st]; rfl⟩
      · exact .inr ⟨st, by simpa using t.up f f0 f1, rfl⟩)
  subst eρ
  have er' : r ++ [a] = wayOf s.ps s.sh f := by
    rcases er with ⟨_, er⟩ | ⟨ns, hu, er⟩
    · exact er
    · rw [Nat.sub_self] at hu
      cases hu
      exact absurd (.inl rfl) ns
  unfold G_law_way b_law_way
  refine run_rt ?_
  show sq _ _ [some (.pub (dS s)), some (.pub (.int f)), none, none] = _
  rw [sq_nx (sOwn_of (d := [.int f]) rfl)]
  show sq _ _ (S [f] none) = _
  have rn : apN rng1 (aC (apC lenD (aC (ap2 ixD (vr 0) (cn (.int (0)))) aN)) aN) (S [f] none) = .ok (rangeL 0 s.ps.length) := apn1 (a := .int (s.ps.length : Int)) (apc1 (a := dI s.ps) (apd2 (a := dS s) rfl rfl rfl) (by show Rs.ok _ = _; rw [List.length_map])) (by
    rw [rng_n (by omega) (by omega), Int.toNat_natCast])
  rw [sq_nx (sFor_of rn e)]
  show Rs.ok (Out.rt (.list ((r ++ [a]).map .int))) = _
  rw [er']
end Q

/-! T17: states filled up with entries -/
namespace Q
open PySem PySem.Spec PyProof.Rows L2 PL M
structure FOk (n : Int) (len : Nat) (es : List Ent) : Prop where
  nd : (es.map Ent.spot).Nodup
  le : es.length ≤ 12
  rg : ∀ e ∈ es, 0 ≤ e.f ∧ e.f < (len : Int) + 1 ∧ WOk n e.w
theorem FOk.add {n : Int} {len : Nat} {es : List Ent} (h : FOk n len es) {e : Ent} (l : es.length < 12) (ns : e.spot ∉ es.map Ent.spot) (he : 0 ≤ e.f ∧ e.f < (len : Int) + 1 ∧ WOk n e.w) : FOk n len (es ++ [e]) := by
  refine ⟨?_, by rw [List.length_append, List.length_singleton]; omega, fun x hx => ?_⟩
  · rw [List.map_append]
    exact List.nodup_append.mpr ⟨h.nd, by simp, fun x hx y hy q => by
      have hy : y = e.spot := by simpa using hy
      rw [q, hy] at hx
      exact ns hx⟩
  · rcases List.mem_append.mp hx with hx | hx
    · exact h.rg x hx
    · rw [List.mem_singleton.mp hx]; exact he
end Q

/-! T18: drawn deeds; a thing and itself -/
namespace Q
open PySem PySem.Spec PyProof.Rows L2 PL M
end Q

/-! T19: one deed after another at one place -/
namespace Q
open PySem PySem.Spec PyProof.Rows L2 PL M
theorem SOk.asc {h : Hou} {s : Sta} (p : SOk h s) : AscE s.es := asc_spots p.b.ea
theorem Reach.mono {ms ms' : List Mem} {w : Who} {x : Int} (hs : ∀ m ∈ ms', m ∈ ms) (h : Reach ms' w x) : Reach ms w x := by
  induction h with
  | dir hm => exact .dir (hs _ hm)
  | up _ hm ih => exact .up ih (hs _ hm)
theorem Reach.rank {ms : List Mem} {rank : Int → Nat} (hr : ∀ a b, (⟨a, .g b⟩ : Mem) ∈ ms → rank a < rank b) {g x : Int} (h : Reach ms (.g g) x) : rank x < rank g := by
  induction h with
  | dir hm => exact hr _ _ hm
  | up _ hm ih => exact Nat.lt_trans (hr _ _ hm) ih
end Q

/-! T20: chains of groups -/
namespace Q
open PySem PySem.Spec PyProof.Rows L2 PL M
/-- a chain from who: each group has the one ahead of it -/
def Chn (ms : List Mem) : Who → List Int → Prop
  | _, [] => True
  | w, g :: r => (⟨g, w⟩ : Mem) ∈ ms ∧ Chn ms (.g g) r
theorem Chn.app {ms : List Mem} {x y : Int} : ∀ {l : List Int} {w : Who}, Chn ms w (l ++ [x]) → (⟨y, .g x⟩ : Mem) ∈ ms → Chn ms w (l ++ [x] ++ [y])
  | [], w, h, hm => ⟨h.1, hm, trivial⟩
  | a :: r, w, h, hm => ⟨h.1, Chn.app (l := r) h.2 hm⟩
theorem Chn.rng {ms : List Mem} (ok : GrpOk ms) : ∀ {l : List Int} {w : Who}, Chn ms w l → ∀ x ∈ l, 0 ≤ x ∧ x < 3
  | a :: r, w, h, x, hx => by
    rcases List.mem_cons.mp hx with rfl | hx
    · exact ok _ h.1
    · exact Chn.rng ok h.2 x hx
theorem Chn.rank {ms : List Mem} {rank : Int → Nat} (hr : ∀ a b, (⟨a, .g b⟩ : Mem) ∈ ms → rank a < rank b) : ∀ {l : List Int} {g : Int}, Chn ms (.g g) l → ∀ x ∈ l, rank x < rank g
  | a :: r, g, h, x, hx => by
    have h1 := hr _ _ h.1
    rcases List.mem_cons.mp hx with rfl | hx
    · exact h1
    · exact Nat.lt_trans (Chn.rank hr h.2 x hx) h1
theorem Chn.nodup {ms : List Mem} {rank : Int → Nat} (hr : ∀ a b, (⟨a, .g b⟩ : Mem) ∈ ms → rank a < rank b) : ∀ {l : List Int} {w : Who}, Chn ms w l → l.Nodup
  | [], _, _ => List.nodup_nil
  | a :: r, w, h => List.nodup_cons.mpr ⟨fun z => by have := Chn.rank hr h.2 a z; omega, Chn.nodup hr h.2⟩
theorem Chn.len {ms : List Mem} (ok : GrpOk ms) {rank : Int → Nat} (hr : ∀ a b, (⟨a, .g b⟩ : Mem) ∈ ms → rank a < rank b) {l : List Int} {w : Who} (h : Chn ms w l) : l.length ≤ 3 := nodup_le 3 l (Chn.nodup hr h) (Chn.rng ok h)
/-- a turn of group_chains -/
def turnC (ms : List Mem) (c : List Int) (x : Int) (cs : List (List Int)) : List (List Int) := cs ++ (ms.filter fun m => decide (m.w = .g x)).map fun m => c ++ [m.g]
/-- what is found of chains, the first k of them gone through -/
structure ChOk (ms : List Mem) (i : Int) (cs : List (List Int)) (k : Nat) : Prop where
  ch : ∀ c ∈ cs, Chn ms (.p i) c ∧ c ≠ []
  nd : cs.Nodup
  one : ∀ g, (⟨g, .p i⟩ : Mem) ∈ ms → [g] ∈ cs
  src : ∀ (r : List Int) x y, r ++ [x] ++ [y] ∈ cs → ∃ j, j < k ∧ cs[j]? = some (r ++ [x])
  up : ∀ (j : Nat) (r : List Int) x y, j < k → cs[j]? = some (r ++ [x]) → (⟨y, .g x⟩ : Mem) ∈ ms → r ++ [x] ++ [y] ∈ cs
  kl : k ≤ cs.length
theorem ChOk.turn {ms : List Mem} (nm : ms.Nodup) {i : Int} {cs : List (List Int)} {k : Nat} (h : ChOk ms i cs k) (hk : k < cs.length) {r : List Int} {x : Int} (hc : cs[k] = r ++ [x]) : ChOk ms i (turnC ms cs[k] x cs) (k + 1) := by
  have hin : r ++ [x] ∈ cs := by rw [← hc]; exact List.getElem_mem hk
  have e : turnC ms cs[k] x cs = cs ++ (ms.filter fun m => decide (m.w = .g x)).map fun m => r ++ [x] ++ [m.g] := by unfold turnC; rw [hc]
  have old : ∀ j, j < cs.length → (turnC ms cs[k] x cs)[j]? = cs[j]? := fun j hj => by rw [e, List.getElem?_append_left hj]
  have new : ∀ c, c ∈ turnC ms cs[k] x cs → c ∈ cs ∨ ∃ y, (⟨y, .g x⟩ : Mem) ∈ ms ∧ c = r ++ [x] ++ [y] := fun c hc => by
    rw [e] at hc
    rcases List.mem_append.mp hc with hc | hc
    · exact .inl hc
    · obtain ⟨m, hm, rfl⟩ := List.mem_map.mp hc
      have ⟨h1, h2⟩ := List.mem_filter.mp hm
      obtain ⟨g, w⟩ := m
      have h2 : w = .g x := by simpa using h2
      subst h2
      exact .inr ⟨g, h1, rfl⟩
  have app_inj : ∀ {a b : List Int} {u v : Int}, a ++ [u] = b ++ [v] → a = b ∧ u = v := fun {a b u v} q => by
    have := List.append_inj' q rfl
    exact ⟨this.1, by simpa using this.2⟩
  refine ⟨fun c hc => ?_, ?_, fun g hg => ?_, fun r' x' y' hc' => ?_, fun j r' x' y' hj hc' hm => ?_, by rw [e, List.length_append]; omega⟩
  · rcases new c hc with hc | ⟨y, hm, rfl⟩
    · exact h.ch c hc
    · exact ⟨(h.ch _ hin).1.app hm, by simp⟩
  · rw [e]
    have n1 : ((ms.filter fun m => decide (m.w = .g x)).map fun m => r ++ [x] ++ [m.g]).Nodup := by
      refine List.pairwise_map.mpr ((List.Pairwise.and_mem.mp (nm.filter fun m => decide (m.w = .g x))).imp fun {a b} ⟨ha, hb, ne⟩ q => ne ?_)
      have h1 : a.w = .g x := by simpa using (List.mem_filter.mp ha).2
      have h2 : b.w = .g x := by simpa using (List.mem_filter.mp hb).2
      have h3 := (app_inj q).2
      cases a; cases b; simp only at h1 h2 h3; rw [h1, h2, h3]
    refine List.nodup_append.mpr ⟨h.nd, n1, fun a ha b hb q => ?_⟩
    obtain ⟨m, hm, rfl⟩ := List.mem_map.mp hb
    rw [q] at ha
    obtain ⟨j, hj, hcj⟩ := h.src r x m.g ha
    have hj2 : j < cs.length := (List.getElem?_eq_some_iff.mp hcj).1
    have e1 : cs[j] = cs[k] := by rw [hc]; rw [List.getElem?_eq_getElem hj2] at hcj; exact Option.some.inj hcj
    have := (List.getElem_inj h.nd).mp e1
    omega
  · rw [e]; exact List.mem_append_left _ (h.one g hg)
  · rcases new _ hc' with hc' | ⟨y, hm, q⟩
    · obtain ⟨j, hj, hcj⟩ := h.src r' x' y' hc'
      exact ⟨j, by omega, by rw [old j (by have := h.kl; omega)]; exact hcj⟩
    · have q1 := (app_inj q).1
      exact ⟨k, by omega, by rw [old k hk, List.getElem?_eq_getElem hk, hc, q1]⟩
  · by_cases ej : j = k
    · subst ej
      rw [old j hk, List.getElem?_eq_getElem hk, hc] at hc'
      have q := app_inj (Option.some.inj hc')
      rw [e]
      refine List.mem_append_right _ (List.mem_map.mpr ⟨⟨y', .g x⟩, List.mem_filter.mpr ⟨by rw [q.2]; exact hm, by simp⟩, ?_⟩)
      rw [q.1, q.2]
    · have jk : j < k := by omega
      rw [old j (by omega)] at hc'
      rw [e]; exact List.mem_append_left _ (h.up j r' x' y' jk hc' hm)
end Q

/-! T21: reasons -/
namespace Q
open PySem PySem.Spec PyProof.Rows L2 PL M
theorem decideF_mem {near : Bool} {sel : Int → List Ent} : ∀ (way : List Int) (acc : List Ent) (e : Ent), e ∈ decideF near sel way acc → e ∈ acc ∨ ∃ a ∈ way, e ∈ sel a
  | [], _, e, h => .inl h
  | a :: way, acc, e, h => by
    simp only [decideF] at h
    have fin : e ∈ acc ++ sel a → e ∈ acc ∨ ∃ x ∈ a :: way, e ∈ sel x := fun h => by
      rcases List.mem_append.mp h with h | h
      · exact .inl h
      · exact .inr ⟨a, List.mem_cons_self, h⟩
    split at h
    · exact fin h
    · rcases decideF_mem way _ e h with h | ⟨x, hx, h⟩
      · exact fin h
      · exact .inr ⟨x, List.mem_cons_of_mem _ hx, h⟩
end Q

/-! T22: reasons told, and the law's own look at them -/
namespace Q
open PySem PySem.Spec PyProof.Rows L2 PL M
theorem andV_t {f g : Ev → Rs PyData} {ρ : Ev} {r : Rs PyData} (h : f ρ = .ok (.bool true)) (h' : g ρ = r) : andV f g ρ = r := by unfold andV; rw [h, Rs.bnd_ok]; exact h'
theorem andV_f {f g : Ev → Rs PyData} {ρ : Ev} (h : f ρ = .ok (.bool false)) : andV f g ρ = .ok (.bool false) := by unfold andV; rw [h, Rs.bnd_ok]; rfl
theorem orV_f {f g : Ev → Rs PyData} {ρ : Ev} {r : Rs PyData} (h : f ρ = .ok (.bool false)) (h' : g ρ = r) : orV f g ρ = r := by unfold orV; rw [h, Rs.bnd_ok]; exact h'
theorem orV_t {f g : Ev → Rs PyData} {ρ : Ev} (h : f ρ = .ok (.bool true)) : orV f g ρ = .ok (.bool true) := by unfold orV; rw [h, Rs.bnd_ok]; rfl
theorem bools_ok : ∀ l : List Bool, bools (l.map .bool) = .ok l
  | [] => rfl
  | a :: l => by show (bools (l.map .bool)).bnd _ = _; rw [bools_ok l]; rfl
theorem all_bl (l : List Bool) : allD [.list (l.map .bool)] = .ok (.bool (l.all id)) := by
  show (bools _).bnd _ = _
  rw [bools_ok]; rfl
theorem dep_ints (l : List Int) : (dI l).depth ≤ 1 := depth_t (map_all (P := fun d => d.depth ≤ 0) fun _ _ => by simp [PyData.depth])
end Q

/-! T23: the law's own reckoning of who decides, and of chains -/
namespace Q
open PySem PySem.Spec PyProof.Rows L2 PL M
end Q

/-! T24: a reason that holds is right -/
namespace Q
open PySem PySem.Spec PyProof.Rows L2 PL M
end Q

/-! T25: reasons and smaller states -/
namespace Q
open PySem PySem.Spec PyProof.Rows L2 PL M
theorem dec_mem {r : Rul} {s : Sta} {i f : Int} {e : Ent} (h : e ∈ deciding r s i f) : e ∈ s.es ∧ e.f ∈ wayOf s.ps s.sh f := by
  rcases decideF_mem _ _ _ h with h | ⟨a, ha, h⟩
  · exact nomatch h
  · have ⟨h1, h2⟩ := List.mem_filter.mp h
    simp only [Bool.and_eq_true, decide_eq_true_eq] at h2
    exact ⟨h1, by rw [h2.1]; exact ha⟩
theorem sub_ok {h : Hou} {s : Sta} (p : SOk h s) {es : List Ent} {ms : List Mem} (er : ∀ e ∈ es, 0 ≤ e.f ∧ e.f < s.ps.length + 1 ∧ WOk h.n e.w) (el : es.length ≤ 12) (ea : AscE (es.map Ent.spot)) (hm : ∀ m ∈ ms, m ∈ s.ms) (ma : AscE ms) : SOk h ⟨s.ps, s.sh, es, ms, s.lg⟩ where
  b := { tree := p.b.tree, sl := p.b.sl, er := er, el := el, ea := ea, mr := fun m h => p.b.mr m (hm m h), md := by
           obtain ⟨rank, hr⟩ := p.b.md
           exact ⟨rank, fun a b h => hr a b (hm _ h)⟩, ma := ma }
  pl := p.pl
  ll := p.ll
  la := p.la
end Q

/-! T26: what a reason says of a smaller state -/
namespace Q
open PySem PySem.Spec PyProof.Rows L2 PL M
def nearR (x : Bool) (r : Rul) : Rul := ⟨x, r.drops, r.login, r.deep⟩
theorem slE_of {f : Ev → Rs PyData} {g k : Ev → Rs (Option Int)} {ρ : Ev} {d : PyData} {lo hi : Option Int} {r : Rs PyData} (h : f ρ = .ok d) (hg : g ρ = .ok lo) (hk : k ρ = .ok hi) (e : slD d lo hi = r) : slE f g k ρ = r := by
  unfold slE; rw [h, Rs.bnd_ok, hg, Rs.bnd_ok, hk, Rs.bnd_ok, e]
theorem sApp_of {i : Nat} {f : Ev → Rs PyData} {ρ : Ev} {d : PyData} {ds : List PyData} (h0 : getC ρ i = some (.own ds)) (h : f ρ = .ok d) (hl : ds.length ≤ 1000) : sApp i f ρ = .ok (.nx (ρ.set i (some (.own (ds ++ [d]))))) := by
  unfold sApp
  rw [h0]
  show (f ρ).bnd _ = _
  rw [h]
  exact if_pos (by rw [sizeLine_eq]; omega)
end Q

/-! T27: nothing told -/
namespace Q
open PySem PySem.Spec PyProof.Rows L2 PL M
end Q

/-! T28: cases -/
namespace Q
open PySem PySem.Spec PyProof.Rows L2 PL M
end Q

/-! T29: orders -/
namespace Q
open PySem PySem.Spec PyProof.Rows L2 PL M
def iota (n : Nat) : List Int := (List.range n).map fun k : Nat => (k : Int)
theorem iota_mem {n : Nat} {x : Int} : x ∈ iota n ↔ 0 ≤ x ∧ x < n := by
  unfold iota
  rw [List.mem_map]
  constructor
  · rintro ⟨k, hk, rfl⟩
    have := List.mem_range.mp hk
    omega
  · intro h
    exact ⟨x.toNat, List.mem_range.mpr (by omega), by omega⟩
theorem iota_asc (n : Nat) : AscE (iota n) := by
  unfold iota AscE
  rw [List.pairwise_map]
  refine List.pairwise_lt_range.imp fun {a b} h => ?_
  rw [lt_int]; exact decide_eq_true (by omega)
theorem iota_len (n : Nat) : (iota n).length = n := by simp [iota]
structure PermN (n : Nat) (row : List Int) : Prop where
  nd : row.Nodup
  mem : ∀ x, x ∈ row ↔ 0 ≤ x ∧ x < n
theorem PermN.sort {n : Nat} {row : List Int} (h : PermN n row) : sortE row = iota n := sortE_of h.nd (iota_asc n) fun x => by rw [h.mem, iota_mem]
theorem PermN.len {n : Nat} {row : List Int} (h : PermN n row) : row.length = n := by
  rw [← (perm_sortE row).length_eq, h.sort, iota_len]
end Q

/-! T30: all sights -/
namespace Q
open PySem PySem.Spec PyProof.Rows L2 PL M
theorem comp2L_map {α β : Type} {t t1 : Tg} {it1 : Ev → Rs (List PyData)} {vs1 : List Nat} {elt : Ev → Rs PyData} {ρ : Ev} {enc : α → PyData} {enc1 : β → PyData} {to : α → Ev} {l1 : α → List β} {to1 : α → β → Ev} {out : α → β → PyData} : ∀ (l : List α), (∀ a ∈ l, tgt t (enc a) ρ = .ok (to a) ∧ it1 (to a) = .ok ((l1 a).map enc1) ∧ ∀ b ∈ l1 a, tgt t1 (enc1 b) (wipeE (to a) vs1) = .ok (to1 a b) ∧ elt (to1 a b) = .ok (out a b)) →
    comp2L t noIf it1 t1 vs1 noIf elt ρ (l.map enc) = .ok (l.flatMap fun a => (l1 a).map (out a))
  | [], _ => rfl
  | a :: r, h => by
    obtain ⟨e1, e2, e3⟩ := h a List.mem_cons_self
    have ih := comp2L_map r fun b hb => h b (List.mem_cons_of_mem _ hb)
    have e4 : compL t1 noIf elt (wipeE (to a) vs1) ((l1 a).map enc1) = .ok ((l1 a).map (out a)) := compL_map _ e3
    show (tgt t (enc a) ρ).bnd _ = _
    rw [e1]
    show (it1 (to a)).bnd _ = _
    rw [e2]
    show (compL t1 noIf elt (wipeE (to a) vs1) ((l1 a).map enc1)).bnd _ = _
    rw [e4]
    show (comp2L t noIf it1 t1 vs1 noIf elt ρ (r.map enc)).bnd _ = _
    rw [ih]; rfl
theorem rangeL_map (n : Nat) : rangeL 0 n = (List.range n).map fun k : Nat => PyData.int (k : Int) := by
  unfold rangeL
  exact List.map_congr_left fun k _ => by rw [Int.zero_add]
abbrev encSp (p : Nat × Nat) : PyData := .tuple [.int (p.1 : Int), .int (p.2 : Int)]
def spotL (n len : Nat) : List (Nat × Nat) := (List.range n).flatMap fun i => (List.range len).map fun k => (i, k)
def sightL (r : Rul) (s : Sta) (n len : Nat) : List (Nat × Nat) := (spotL n len).filter fun p => seesB r s (p.1 : Nat) (p.2 : Nat)
theorem mem_spotL {n len : Nat} {p : Nat × Nat} (h : p ∈ spotL n len) : p.1 < n ∧ p.2 < len := by
  unfold spotL at h
  obtain ⟨i, hi, h⟩ := List.mem_flatMap.mp h
  obtain ⟨k, hk, rfl⟩ := List.mem_map.mp h
  exact ⟨List.mem_range.mp hi, List.mem_range.mp hk⟩
theorem spot_len (n len : Nat) : (spotL n len).length = n * len := by
  unfold spotL
  rw [List.length_flatMap]
  have : (List.map (fun a : Nat => ((List.range len).map fun k => (a, k)).length) (List.range n)) = List.replicate n len := by
    rw [List.eq_replicate_iff]; simp
  rw [this, List.sum_replicate_nat]
theorem all_sights_b {h : Hou} {s : Sta} (r : Rul) (o : HOk h) (p : SOk h s) : b_all_sights (startE 6 [dH h, dR r, dS s]) = .ok (.rn ((sightL r s h.n.toNat (h.ps.length + 1)).map encSp)) := by
  have n1 := o.n1
  have n4 := o.n4
  have l5 := o.b.tree.len
  let S (c3 c4 c5 : Option Cell) : Ev := [some (.pub (dH h)), some (.pub (dR r)), some (.pub (dS s)), c3, c4, c5]
  have d1 : sDoX (argX G_need_house (aC (vr 0) aN)) (S none none none) = .ok (.nx (S none none none)) := sDoX_of (d := .none) (apc1 (a := dH h) rfl (need_house o))
  have d2 : sDoX (argX G_need_rule (aC (vr 1) aN)) (S none none none) = .ok (.nx (S none none none)) := sDoX_of (d := .none) (apc1 (a := dR r) rfl (need_rule r))
  have d3 : sDoX (argX G_need_state (aC (vr 0) (aC (vr 2) aN))) (S none none none) = .ok (.nx (S none none none)) := sDoX_of (d := .none) (apc2 (a := dH h) (b := dS s) rfl rfl (need_state o p))
  have c2 : comp2 (apN rng1 (aC (ap2 ixD (vr 0) (cn (.int (0)))) aN)) (.one 4) [4, 5] noIf all_sights_i4 (.one 5) [5] noIf all_sights_e3 (S none none none) = .ok ((spotL h.n.toNat (h.ps.length + 1)).map encSp) := by
    have it : apN rng1 (aC (ap2 ixD (vr 0) (cn (.int (0)))) aN) (S none none none) = .ok (rangeL 0 h.n.toNat) := apn1 (a := .int h.n) (apd2 (a := dH h) rfl rfl rfl) (rng_n (by omega) (by omega))
    have e := comp2L_map (t := .one 4) (t1 := .one 5) (it1 := all_sights_i4) (vs1 := [5]) (elt := all_sights_e3) (ρ := wipeE (S none none none) [4, 5]) (enc := fun k : Nat => .int (k : Int)) (enc1 := fun k : Nat => .int (k : Int)) (to := fun i => S none (some (.pub (.int (i : Nat)))) none) (l1 := fun _ => List.range (h.ps.length + 1)) (to1 := fun i k => S none (some (.pub (.int (i : Nat)))) (some (.pub (.int (k : Nat))))) (out := fun i k => encSp (i, k)) (List.range h.n.toNat) (fun i hi => by
      refine ⟨rfl, ?_, fun k hk => ⟨rfl, rfl⟩⟩
      show apN rng1 _ _ = _
      rw [← rangeL_map]
      exact apn1 (a := .int ((h.ps.length + 1 : Nat) : Int)) (apc1 (a := .tuple (h.sh.map .bool)) rfl (by show Rs.ok _ = _; rw [List.length_map, o.b.sl])) (rng_n (by omega) (by omega)))
    unfold comp2
    rw [it, Rs.bnd_ok, rangeL_map, e, Rs.bnd_ok]
    have el : ((List.range h.n.toNat).flatMap fun a => (List.range (h.ps.length + 1)).map (fun k => encSp (a, k))) = (spotL h.n.toNat (h.ps.length + 1)).map encSp := by
      unfold spotL
      rw [List.map_flatMap]
      simp only [List.map_map]; rfl
    rw [el, if_pos]
    rw [List.length_map, spot_len, sizeLine_eq]
    have : h.n.toNat ≤ 4 := by omega
    have : h.n.toNat * (h.ps.length + 1) ≤ 4 * 6 := Nat.mul_le_mul this (by omega)
    omega
  have c3 : comp (seqE (vr 3)) (.many [4, 5]) [4, 5] all_sights_c2 all_sights_e1 (S (some (.pub (.list ((spotL h.n.toNat (h.ps.length + 1)).map encSp)))) none none) = .ok ((sightL r s h.n.toNat (h.ps.length + 1)).map encSp) := by
    refine comp_of (seqE_of rfl rfl) (compL_filter (to := fun q : Nat × Nat => S (some (.pub (.list ((spotL h.n.toNat (h.ps.length + 1)).map encSp)))) (some (.pub (.int (q.1 : Nat)))) (some (.pub (.int (q.2 : Nat))))) (p := fun q : Nat × Nat => seesB r s (q.1 : Nat) (q.2 : Nat)) _ fun q hq => ⟨rfl, ?_, fun _ => rfl⟩)
    obtain ⟨h1, h2⟩ := mem_spotL hq
    exact tru_of (apc4 (a := dR r) (b := dS s) (c := .int (q.1 : Nat)) (d := .int (q.2 : Nat)) rfl rfl rfl rfl (person_sees r o p (by omega) (by omega) (by omega) (by rw [p.pl]; omega)))
  unfold b_all_sights
  show sq _ _ (S none none none) = _
  rw [sq_nx d1, sq_nx d2, sq_nx d3, sq_nx (sSet_of (lst_of c2))]
  show sq _ _ (S (some (.pub (.list ((spotL h.n.toNat (h.ps.length + 1)).map encSp)))) none none) = _
  have e : sRetL (comp (seqE (vr 3)) (.many [4, 5]) [4, 5] all_sights_c2 all_sights_e1) (S (some (.pub (.list ((spotL h.n.toNat (h.ps.length + 1)).map encSp)))) none none) = .ok (.rn ((sightL r s h.n.toNat (h.ps.length + 1)).map encSp)) := by
    unfold sRetL; rw [c3]; rfl
  show (sRetL _ _).bnd _ = _
  rw [e]; rfl
theorem all_sights {h : Hou} {s : Sta} (r : Rul) (o : HOk h) (p : SOk h s) : G_all_sights [dH h, dR r, dS s] = .ok (.list ((sightL r s h.n.toNat (h.ps.length + 1)).map encSp)) ∧ GN_all_sights [dH h, dR r, dS s] = .ok ((sightL r s h.n.toNat (h.ps.length + 1)).map encSp) := run_rn (all_sights_b r o p)
end Q

/-! T31: reasons held against anything told; bad arguments; chains both ways -/
namespace Q
open PySem PySem.Spec PyProof.Rows L2 PL M
end Q

/-! T32: law_shuffled, a drawn order that keeps to the moments as far as its look goes -/
namespace Q
open PySem PySem.Spec PyProof.Rows L2 PL M
theorem len_own {i : Nat} {ρ : Ev} {ds : List PyData} (h : getC ρ i = some (.own ds)) : (fun ρ => ((ownV i) ρ).bnd fun d => (lenD [d]).bnd flatD) ρ = .ok (.int ds.length) := by
  show (((ownL i) ρ).bnd _).bnd _ = _
  have : ownL i ρ = .ok ds := by unfold ownL; rw [h]
  rw [this]; rfl
end Q

/-! T33: the states of a walk, the outcomes -/
namespace Q
open PySem PySem.Spec PyProof.Rows L2 PL M
end Q

/-! T34: cuts of rows; rows that are no orders -/
namespace Q
open PySem PySem.Spec PyProof.Rows L2 PL M
end Q

/-! T35: states compared, the blank state, after_deeds, commute over the states that are tried -/
namespace Q
open PySem PySem.Spec PyProof.Rows L2 PL M
instance decSta : DecidableEq Sta := fun ⟨p1, p2, p3, p4, p5⟩ ⟨q1, q2, q3, q4, q5⟩ => decidable_of_iff (p1 = q1 ∧ p2 = q2 ∧ p3 = q3 ∧ p4 = q4 ∧ p5 = q5) (by simp only [Sta.mk.injEq])
instance : Enc Bool where
  enc := .bool
  eqv a b := by cases a <;> cases b <;> simp [PyData.eqv]
  dep a := by simp [PyData.depth]
  nd a := rfl
instance encLI : Enc (List Int) where
  enc := dI
  eqv a b := by
    show PyData.eqv (.tuple (a.map .int)) (.tuple (b.map .int)) = true ↔ _
    rw [PyData.eqv]
    exact eqvAllE a b
  dep a := Nat.le_trans (dep_ints a) (by decide)
  nd a := by
    show nod (.tuple _) = true
    rw [nod]
    exact nodE (α := Int) a
end Q

/-! T36: lists of deeds -/
namespace Q
open PySem PySem.Spec PyProof.Rows L2 PL M
theorem ltD_n {a b : Int} : eqD (.int a) (.int b) = .ok (.bool (decide (a = b))) := eqD_e a b
end Q

/-! T37: sights when an entry comes in: sees by the members of what decides; pairs seen -/
namespace Q
open PySem PySem.Spec PyProof.Rows L2 PL M
/-- some allow and all allow -/
def OkD (D : List Ent) : Prop := (∃ x ∈ D, x.a = true) ∧ ∀ x ∈ D, x.a = true
theorem seesB_iff {r : Rul} {s : Sta} {i f : Int} : seesB r s i f = true ↔ OkD (deciding r s i f) := by
  unfold seesB OkD
  rw [Bool.and_eq_true, List.any_eq_true, List.all_eq_true]
theorem OkD.congr {D D' : List Ent} (h : ∀ x, x ∈ D' ↔ x ∈ D) : OkD D' ↔ OkD D := by
  unfold OkD
  constructor
  · rintro ⟨⟨x, h1, h2⟩, h3⟩
    exact ⟨⟨x, (h x).mp h1, h2⟩, fun y hy => h3 y ((h y).mpr hy)⟩
  · rintro ⟨⟨x, h1, h2⟩, h3⟩
    exact ⟨⟨x, (h x).mpr h1, h2⟩, fun y hy => h3 y ((h y).mp hy)⟩
theorem dec_far_mem {sel : Int → List Ent} : ∀ (way : List Int) (acc : List Ent) (x : Ent), x ∈ decideF false sel way acc ↔ x ∈ acc ∨ ∃ a ∈ way, x ∈ sel a
  | [], acc, x => by simp [decideF]
  | a :: way, acc, x => by
    rw [decideF, if_neg (by simp), dec_far_mem way]
    simp only [List.mem_append, List.mem_cons]
    constructor
    · rintro ((h | h) | ⟨b, h1, h2⟩)
      · exact .inl h
      · exact .inr ⟨a, .inl rfl, h⟩
      · exact .inr ⟨b, .inr h1, h2⟩
    · rintro (h | ⟨b, h1 | h1, h2⟩)
      · exact .inl (.inl h)
      · exact .inl (.inr (h1 ▸ h2))
      · exact .inr ⟨b, h1, h2⟩
theorem dec_near_cons {sel : Int → List Ent} {a : Int} {way : List Int} : decideF true sel (a :: way) [] = if sel a = [] then decideF true sel way [] else sel a := by
  rw [decideF, List.nil_append]
  by_cases h : sel a = []
  · rw [if_neg (by simp [h]), if_pos h, h]
  · rw [if_pos ⟨h, rfl⟩, if_neg h]
/-- same members on the way: the same sight -/
theorem ok_same {near : Bool} {sel sel' : Int → List Ent} (way : List Int) (h : ∀ a ∈ way, ∀ x, x ∈ sel' a ↔ x ∈ sel a) : OkD (decideF near sel' way []) ↔ OkD (decideF near sel way []) := by
  cases near with
  | false =>
    refine OkD.congr fun x => ?_
    rw [dec_far_mem, dec_far_mem]
    constructor
    · rintro (z | ⟨a, h1, h2⟩)
      · exact .inl z
      · exact .inr ⟨a, h1, (h a h1 x).mp h2⟩
    · rintro (z | ⟨a, h1, h2⟩)
      · exact .inl z
      · exact .inr ⟨a, h1, (h a h1 x).mpr h2⟩
  | true =>
    induction way with
    | nil => exact Iff.rfl
    | cons a way ih =>
      rw [dec_near_cons, dec_near_cons]
      have ha := h a List.mem_cons_self
      have e : sel' a = [] ↔ sel a = [] := by
        rw [List.eq_nil_iff_forall_not_mem, List.eq_nil_iff_forall_not_mem]
        exact ⟨fun z x hx => z x ((ha x).mpr hx), fun z x hx => z x ((ha x).mp hx)⟩
      by_cases hz : sel a = []
      · rw [if_pos hz, if_pos (e.mpr hz)]
        exact ih fun b hb => h b (List.mem_cons_of_mem _ hb)
      · rw [if_neg hz, if_neg fun z => hz (e.mp z)]
        exact OkD.congr ha
/-- allows that come in take no sight away -/
theorem ok_more {near : Bool} {sel sel' : Int → List Ent} (way : List Int) (h1 : ∀ a ∈ way, ∀ x ∈ sel a, x ∈ sel' a) (h2 : ∀ a ∈ way, ∀ x ∈ sel' a, x ∈ sel a ∨ x.a = true) : OkD (decideF near sel way []) → OkD (decideF near sel' way []) := by
  cases near with
  | false =>
    rintro ⟨⟨x, hx, ha⟩, hall⟩
    refine ⟨⟨x, ?_, ha⟩, fun y hy => ?_⟩
    · rw [dec_far_mem] at hx ⊢
      rcases hx with z | ⟨a, q1, q2⟩
      · exact .inl z
      · exact .inr ⟨a, q1, h1 a q1 x q2⟩
    · rw [dec_far_mem] at hy
      rcases hy with z | ⟨a, q1, q2⟩
      · exact nomatch z
      · rcases h2 a q1 y q2 with q | q
        · exact hall y (by rw [dec_far_mem]; exact .inr ⟨a, q1, q⟩)
        · exact q
  | true =>
    induction way with
    | nil => exact id
    | cons a way ih =>
      rw [dec_near_cons, dec_near_cons]
      have m1 := h1 a List.mem_cons_self
      have m2 := h2 a List.mem_cons_self
      by_cases hz : sel a = []
      · rw [if_pos hz]
        intro hk
        by_cases hz' : sel' a = []
        · rw [if_pos hz']
          exact ih (fun b hb => h1 b (List.mem_cons_of_mem _ hb)) (fun b hb => h2 b (List.mem_cons_of_mem _ hb)) hk
        · rw [if_neg hz']
          have all' : ∀ x ∈ sel' a, x.a = true := fun x hx => (m2 x hx).elim (fun z => by rw [hz] at z; exact nomatch z) id
          obtain ⟨x, hx⟩ := List.exists_mem_of_ne_nil _ hz'
          exact ⟨⟨x, hx, all' x hx⟩, all'⟩
      · rw [if_neg hz]
        rintro ⟨⟨x, hx, ha⟩, hall⟩
        have hz' : sel' a ≠ [] := List.ne_nil_of_mem (m1 x hx)
        rw [if_neg hz']
        exact ⟨⟨x, m1 x hx, ha⟩, fun y hy => (m2 y hy).elim (fun z => hall y z) id⟩
/-- bars that go take no sight away -/
theorem ok_less {near : Bool} {sel sel' : Int → List Ent} (way : List Int) (h1 : ∀ a ∈ way, ∀ x ∈ sel' a, x ∈ sel a) (h2 : ∀ a ∈ way, ∀ x ∈ sel a, x ∈ sel' a ∨ x.a = false) : OkD (decideF near sel way []) → OkD (decideF near sel' way []) := by
  cases near with
  | false =>
    rintro ⟨⟨x, hx, ha⟩, hall⟩
    refine ⟨⟨x, ?_, ha⟩, fun y hy => ?_⟩
    · rw [dec_far_mem] at hx ⊢
      rcases hx with z | ⟨a, q1, q2⟩
      · exact nomatch z
      · rcases h2 a q1 x q2 with q | q
        · exact .inr ⟨a, q1, q⟩
        · rw [ha] at q; exact nomatch q
    · rw [dec_far_mem] at hy
      rcases hy with z | ⟨a, q1, q2⟩
      · exact nomatch z
      · exact hall y (by rw [dec_far_mem]; exact .inr ⟨a, q1, h1 a q1 y q2⟩)
  | true =>
    induction way with
    | nil => exact id
    | cons a way ih =>
      rw [dec_near_cons, dec_near_cons]
      have m1 := h1 a List.mem_cons_self
      have m2 := h2 a List.mem_cons_self
      by_cases hz : sel a = []
      · have hz' : sel' a = [] := List.eq_nil_iff_forall_not_mem.mpr fun x hx => by
          have := m1 x hx
          rw [hz] at this
          exact nomatch this
        rw [if_pos hz, if_pos hz']
        exact ih (fun b hb => h1 b (List.mem_cons_of_mem _ hb)) fun b hb => h2 b (List.mem_cons_of_mem _ hb)
      · rw [if_neg hz]
        rintro ⟨⟨x, hx, ha⟩, hall⟩
        have hx' : x ∈ sel' a := (m2 x hx).elim id fun z => by rw [ha] at z; exact nomatch z
        rw [if_neg (List.ne_nil_of_mem hx')]
        exact ⟨⟨x, hx', ha⟩, fun y hy => hall y (m1 y hy)⟩
/-- who sees by all entries on the way sees by the nearest ones -/
theorem ok_near {sel : Int → List Ent} : ∀ (way : List Int), OkD (decideF false sel way []) → OkD (decideF true sel way [])
  | [] => id
  | a :: way => by
    rintro ⟨⟨x, hx, ha⟩, hall⟩
    rw [dec_near_cons]
    by_cases hz : sel a = []
    · rw [if_pos hz]
      refine ok_near way ⟨⟨x, ?_, ha⟩, fun y hy => ?_⟩
      · rw [dec_far_mem] at hx ⊢
        rcases hx with z | ⟨b, q1, q2⟩
        · exact nomatch z
        · rcases List.mem_cons.mp q1 with e | q1
          · rw [e, hz] at q2; exact nomatch q2
          · exact .inr ⟨b, q1, q2⟩
      · refine hall y ?_
        rw [dec_far_mem] at hy ⊢
        rcases hy with z | ⟨b, q1, q2⟩
        · exact nomatch z
        · exact .inr ⟨b, List.mem_cons_of_mem _ q1, q2⟩
    · rw [if_neg hz]
      obtain ⟨y, hy⟩ := List.exists_mem_of_ne_nil _ hz
      have all' : ∀ z ∈ sel a, z.a = true := fun z hz => hall z (by rw [dec_far_mem]; exact .inr ⟨a, List.mem_cons_self, hz⟩)
      exact ⟨⟨y, hy, all' y hy⟩, all'⟩
/-! pairs of numbers as data -/
structure Sp where
  i : Nat
  k : Nat
  deriving DecidableEq
instance encSpI : Enc Sp where
  enc p := .tuple [.int (p.i : Int), .int (p.k : Int)]
  eqv a b := by
    obtain ⟨i, k⟩ := a
    obtain ⟨j, l⟩ := b
    simp [PyData.eqv, PyData.eqvAll]
    omega
  dep a := by simp [PyData.depth, PyData.depthAll]
  nd a := rfl
def sightS (r : Rul) (s : Sta) (n len : Nat) : List Sp := (sightL r s n len).map fun p => ⟨p.1, p.2⟩
theorem sightS_enc (r : Rul) (s : Sta) (n len : Nat) : (sightL r s n len).map encSp = (sightS r s n len).map Enc.enc := by
  unfold sightS
  rw [List.map_map]
  rfl
theorem mem_sightS {r : Rul} {s : Sta} {n len : Nat} {p : Sp} : p ∈ sightS r s n len ↔ (p.i < n ∧ p.k < len) ∧ seesB r s (p.i : Nat) (p.k : Nat) = true := by
  unfold sightS sightL spotL
  simp only [List.mem_map, List.mem_filter, List.mem_flatMap, List.mem_range]
  constructor
  · rintro ⟨q, ⟨⟨i, hi, k, hk, e⟩, h2⟩, e2⟩
    subst e
    subst e2
    exact ⟨⟨hi, hk⟩, h2⟩
  · rintro ⟨⟨h1, h2⟩, h3⟩
    exact ⟨(p.i, p.k), ⟨⟨p.i, h1, p.k, h2, rfl⟩, h3⟩, rfl⟩
theorem inD_sight (r : Rul) (s : Sta) (n len i k : Nat) (hi : i < n) (hk : k < len) : inD (.tuple [.int (i : Int), .int (k : Int)]) (.list ((sightL r s n len).map encSp)) = .ok (.bool (seesB r s (i : Nat) (k : Nat))) := by
  rw [sightS_enc]
  refine (inD_l (⟨i, k⟩ : Sp) (sightS r s n len)).trans ?_
  congr 2
  have := mem_sightS (r := r) (s := s) (n := n) (len := len) (p := ⟨i, k⟩)
  cases h : seesB r s (i : Nat) (k : Nat) <;> simp_all
end Q

namespace Q
open PySem PySem.Spec PyProof.Rows L2 PL M
/-- the state with these entries -/
def withE (s : Sta) (es : List Ent) : Sta := ⟨s.ps, s.sh, sortE es, s.ms, s.lg⟩
theorem law_withT (s : Sta) (es : List Ent) : G_law_with [dS s, .list (es.map encE)] = .ok (dS (withE s es)) := by
  let ρ : Ev := [some (.pub (dS s)), some (.pub (.list (es.map encE)))]
  have e1 : apN sortedN (aC (vr 1) aN) ρ = .ok ((sortE es).map encE) := apn1 (a := .list (es.map encE)) rfl (sorted_e es)
  have e2 : tupE (aC (apC tupleD (aC (lst (apN sortedN (aC (vr 1) aN))) aN)) aN) ρ = .ok (.tuple [dE (sortE es)]) := tup_of (ac1 (apc1 (a := .list ((sortE es).map encE)) (lst_of e1) rfl) ac0)
  have e3 : ap2 addD (slE (vr 0) oN (oS (cn (.int (2))))) (tupE (aC (apC tupleD (aC (lst (apN sortedN (aC (vr 1) aN))) aN)) aN)) ρ = .ok (.tuple [dI s.ps, dB s.sh, dE (sortE es)]) :=
    apd2 (a := .tuple [dI s.ps, dB s.sh]) (b := .tuple [dE (sortE es)]) (slE_of (d := dS s) (lo := none) (hi := some 2) rfl rfl rfl rfl) e2 rfl
  unfold G_law_with b_law_with
  refine run_rt ?_
  show sq _ _ ρ = _
  refine sq_rt (sRet_of (apd2 (a := .tuple [dI s.ps, dB s.sh, dE (sortE es)]) (b := .tuple [dM s.ms, dL s.lg]) e3 (slE_of (d := dS s) (lo := some 3) (hi := none) rfl rfl rfl rfl) rfl))
theorem law_countsT {h : Hou} {s : Sta} (r : Rul) (p : SOk h s) {i : Int} (i0 : 0 ≤ i) (i1 : i < h.n) (w : Who) : G_law_counts [dR r, dS s, .int i, encW w] = .ok (.bool (countsB w i (countedG r s i))) := by
  have ll := p.ll
  let A (c4 : Option Cell) : Ev := [some (.pub (dR r)), some (.pub (dS s)), some (.pub (.int i)), some (.pub (encW w)), c4]
  have e0 : lst (apN listN (aC (ap2 ixD (ap2 ixD (vr 1) (cn (.int (4)))) (vr 2)) aN)) (A none) = .ok (.list ((s.lg.getD i.toNat []).map .int)) :=
    lst_of (apn1 (a := dI (s.lg.getD i.toNat [])) (apd2 (a := dL s.lg) (b := .int i) (apd2 (a := dS s) rfl rfl rfl) rfl (ix_lg i0 (by omega))) rfl)
  let L0 : PyData := .list ((s.lg.getD i.toNat []).map .int)
  have t1 : tB' (ap2 eqD (ap2 ixD (vr 0) (cn (.int (2)))) (cn (.str "now"))) (A (some (.pub L0))) = .ok (!r.login) := tB_of (apd2 (a := .str (knoS r.login)) (apd2 (a := dR r) rfl rfl rfl) rfl (kno_now _))
  have e2 : sIf (tB' (ap2 eqD (ap2 ixD (vr 0) (cn (.int (2)))) (cn (.str "now")))) (sq (sSet 4 (apC G_law_groups (aC (ap2 ixD (vr 1) (cn (.int (3)))) (aC (tupE (aC (cn (.str "p")) (aC (vr 2) aN))) (aC (ap2 ixD (vr 0) (cn (.int (3)))) aN))))) sNil) sNil (A (some (.pub L0))) = .ok (.nx (A (some (.pub (.list ((countedG r s i).map .int)))))) := by
    unfold countedG
    cases q : r.login with
    | true =>
      rw [q] at t1
      rw [if_pos rfl, sIf_f t1]
      rfl
    | false =>
      rw [q] at t1
      rw [if_neg (by simp), sIf_t t1]
      rw [sq_nx (sSet_of (apc3 (a := dM s.ms) (b := encW (.p i)) (c := .bool r.deep) (apd2 (a := dS s) rfl rfl rfl) rfl (apd2 (a := dR r) rfl rfl rfl) (law_groupsT s.ms (.p i) r.deep)))]
      rfl
  let G : PyData := .list ((countedG r s i).map .int)
  have e3 : orV (ap2 eqD (vr 3) (tupE (aC (cn (.str "p")) (aC (vr 2) aN)))) (andV (ap2 eqD (ap2 ixD (vr 3) (cn (.int (0)))) (cn (.str "g"))) (ap2 inD (ap2 ixD (vr 3) (cn (.int (1)))) (vr 4))) (A (some (.pub G))) = .ok (.bool (countsB w i (countedG r s i))) := by
    have a1 : ap2 eqD (vr 3) (tupE (aC (cn (.str "p")) (aC (vr 2) aN))) (A (some (.pub G))) = .ok (.bool (decide (w = .p i))) := apd2 (a := encW w) (b := .tuple [.str "p", .int i]) rfl rfl (eqD_wp w i)
    cases w with
    | p j =>
      by_cases hj : j = i
      · subst hj
        rw [decide_eq_true rfl] at a1
        rw [orV_t a1]
        show _ = Rs.ok (PyData.bool (decide (j = j)))
        rw [decide_eq_true rfl]
      · rw [decide_eq_false (fun z => hj (Who.p.inj z))] at a1
        rw [orV_f a1 (andV_f (apd2 (a := .str "p") (b := .str "g") (apd2 (a := encW (.p j)) (b := .int 0) rfl rfl rfl) rfl (by rw [eqD_s]; rfl)))]
        show _ = Rs.ok (PyData.bool (decide (j = i)))
        rw [decide_eq_false hj]
    | g j =>
      rw [decide_eq_false (fun z => nomatch z)] at a1
      exact orV_f a1 (andV_t (apd2 (a := .str "g") (b := .str "g") (apd2 (a := encW (.g j)) (b := .int 0) rfl rfl rfl) rfl (by rw [eqD_s]; rfl)) (apd2 (a := .int j) (b := G) (apd2 (a := encW (.g j)) (b := .int 1) rfl rfl rfl) rfl (inI j _)))
  unfold G_law_counts b_law_counts
  refine run_rt ?_
  show sq _ _ (A none) = _
  rw [sq_nx (sSet_of e0)]
  show sq _ _ (A (some (.pub L0))) = _
  rw [sq_nx e2]
  exact sq_rt (sRet_of e3)
/-- sights of a state -/
def SI (r : Rul) (h : Hou) (s : Sta) : PyData := .list ((sightL r s h.n.toNat (h.ps.length + 1)).map encSp)
theorem sights_of {h : Hou} {s : Sta} (r : Rul) (o : HOk h) (p : SOk h s) : G_all_sights [dH h, dR r, dS s] = .ok (SI r h s) := (all_sights r o p).1
theorem allB {n : List Bool} (h : ∀ b ∈ n, b = true) : allD [.list (n.map .bool)] = .ok (.bool true) := by
  rw [all_bl]
  congr 2
  rw [List.all_eq_true]
  intro b hb
  rw [h b hb]
  rfl
/-- each sight of the one state is one of the other -/
def Less (r r' : Rul) (h : Hou) (s s' : Sta) : Prop := ∀ i f : Nat, i < h.n.toNat → f < h.ps.length + 1 → seesB r s i f = true → seesB r' s' i f = true
theorem sight_rng {r : Rul} {s : Sta} {n len : Nat} {p : Nat × Nat} (h : p ∈ sightL r s n len) : (p.1 < n ∧ p.2 < len) ∧ seesB r s (p.1 : Nat) (p.2 : Nat) = true := by
  unfold sightL at h
  rw [List.mem_filter] at h
  exact ⟨mem_spotL h.1, h.2⟩
theorem law_ascendsT {h : Hou} (r : Rul) (o : HOk h) {s0 s1 s2 : Sta} (p0 : SOk h s0) (p1 : SOk h s1) (p2 : SOk h s2) (l1 : Less r r h s0 s1) (l2 : Less r r h s1 s2) : G_law_ascends [dH h, dR r, .list [dS s0, dS s1, dS s2]] = .ok (.bool true) := by
  let A (c3 c4 c5 c6 : Option Cell) : Ev := [some (.pub (dH h)), some (.pub (dR r)), some (.pub (.list [dS s0, dS s1, dS s2])), c3, c4, c5, c6, none]
  have e1 : lst (comp (seqE (vr 2)) (.one 6) [6] noIf law_ascends_e3) (A none none none none) = .ok (.list [SI r h s0, SI r h s1, SI r h s2]) := by
    refine lst_of ?_
    show compL (.one 6) noIf law_ascends_e3 (A none none none none) ([s0, s1, s2].map dS) = _
    refine (compL_map (to := fun s => A none none none (some (.pub (dS s)))) (out := fun s => SI r h s) [s0, s1, s2] (fun s hs => ⟨rfl, ?_⟩)).trans rfl
    have hp : SOk h s := by
      simp only [List.mem_cons, List.not_mem_nil, or_false] at hs
      rcases hs with rfl | rfl | rfl <;> assumption
    exact apc3 (a := dH h) (b := dR r) (c := dS s) rfl rfl rfl (sights_of r o hp)
  let L : PyData := .list [SI r h s0, SI r h s1, SI r h s2]
  have turn : ∀ (s s' : Sta) (c6 : Option Cell), Less r r h s s' → law_ascends_f2 (A (some (.pub L)) (some (.pub (SI r h s))) (some (.pub (SI r h s'))) c6) = .ok (.nx (A (some (.pub L)) (some (.pub (SI r h s))) (some (.pub (SI r h s'))) c6)) := fun s s' c6 hl => by
    let ρ := A (some (.pub L)) (some (.pub (SI r h s))) (some (.pub (SI r h s'))) c6
    have c : lst (comp (seqE (vr 4)) (.one 7) [7] noIf law_ascends_e1) ρ = .ok (.list (((sightL r s h.n.toNat (h.ps.length + 1)).map fun p => seesB r s' (p.1 : Nat) (p.2 : Nat)).map .bool)) := by
      refine lst_of ?_
      show compL (.one 7) noIf law_ascends_e1 ρ ((sightL r s h.n.toNat (h.ps.length + 1)).map encSp) = _
      rw [List.map_map]
      refine compL_map (enc := encSp) (to := fun p => ρ.set 7 (some (.pub (encSp p)))) (out := fun p => .bool (seesB r s' (p.1 : Nat) (p.2 : Nat))) _ (fun p hp => ⟨rfl, ?_⟩)
      have := (sight_rng hp).1
      exact apd2 (a := encSp p) (b := SI r h s') rfl rfl (inD_sight r s' _ _ p.1 p.2 this.1 this.2)
    have t : tru (apC allD (aC (lst (comp (seqE (vr 4)) (.one 7) [7] noIf law_ascends_e1)) aN)) ρ = .ok true := tru_of (apc1 c (allB fun b hb => by
      obtain ⟨p, hp, e⟩ := List.mem_map.mp hb
      obtain ⟨⟨q1, q2⟩, q3⟩ := sight_rng hp
      rw [← e]
      exact hl p.1 p.2 q1 q2 q3))
    show law_ascends_f2 ρ = _
    unfold law_ascends_f2
    rw [sq_nx (by rw [sIf_f (tNot_of t)]; rfl)]
    rfl
  unfold G_law_ascends b_law_ascends
  refine run_rt ?_
  show sq _ _ (A none none none none) = _
  rw [sq_nx (sSet_of e1)]
  show sq _ _ (A (some (.pub L)) none none none) = _
  refine (sq_nx (ρ' := A (some (.pub L)) (some (.pub (SI r h s1))) (some (.pub (SI r h s2))) none) (sFor_of (ds := [.tuple [SI r h s0, SI r h s1], .tuple [SI r h s1, SI r h s2]]) ?_ ?_)).trans rfl
  · exact seqE_of (d := .list [.tuple [SI r h s0, SI r h s1], .tuple [SI r h s1, SI r h s2]]) rfl rfl
  · show (law_ascends_f2 (A (some (.pub L)) (some (.pub (SI r h s0))) (some (.pub (SI r h s1))) none)).bnd _ = _
    rw [turn s0 s1 none l1]
    show (law_ascends_f2 (A (some (.pub L)) (some (.pub (SI r h s1))) (some (.pub (SI r h s2))) none)).bnd _ = _
    rw [turn s1 s2 none l2]
    rfl
theorem cnt_three (b : Bool) : lenSetB [.list [.bool b, .bool b, .bool b]] = .ok (.int 1) := by cases b <;> rfl
theorem law_elsewhereT {h : Hou} (r : Rul) (o : HOk h) {s0 s1 s2 : Sta} (p0 : SOk h s0) (p1 : SOk h s1) (p2 : SOk h s2) (f : Int) (w : Who)
    (hE : ∀ i k : Nat, i < h.n.toNat → k < h.ps.length + 1 → (countsB w i (countedG r s0 i) = false ∨ f ∉ wayOf s0.ps s0.sh k) → seesB r s1 i k = seesB r s0 i k ∧ seesB r s2 i k = seesB r s0 i k) :
    G_law_elsewhere [dH h, dR r, .list [dS s0, dS s1, dS s2], .int f, encW w] = .ok (.bool true) := by
  have n1 := o.n1
  have n4 := o.n4
  have l5 := o.b.tree.len
  let A (c5 c6 c7 c8 c9 : Option Cell) : Ev := [some (.pub (dH h)), some (.pub (dR r)), some (.pub (.list [dS s0, dS s1, dS s2])), some (.pub (.int f)), some (.pub (encW w)), c5, c6, c7, c8, c9]
  have e1 : lst (comp (seqE (vr 2)) (.one 8) [8] noIf law_elsewhere_e4) (A none none none none none) = .ok (.list [SI r h s0, SI r h s1, SI r h s2]) := by
    refine lst_of ?_
    show compL (.one 8) noIf law_elsewhere_e4 (A none none none none none) ([s0, s1, s2].map dS) = _
    refine (compL_map (to := fun s => A none none none (some (.pub (dS s))) none) (out := fun s => SI r h s) [s0, s1, s2] (fun s hs => ⟨rfl, ?_⟩)).trans rfl
    have hp : SOk h s := by
      simp only [List.mem_cons, List.not_mem_nil, or_false] at hs
      rcases hs with rfl | rfl | rfl <;> assumption
    exact apc3 (a := dH h) (b := dR r) (c := dS s) rfl rfl rfl (sights_of r o hp)
  let L : PyData := .list [SI r h s0, SI r h s1, SI r h s2]
  let B (c6 c7 : Option Cell) : Ev := A (some (.pub L)) c6 c7 none none
  have inner : ∀ i k : Nat, i < h.n.toNat → k < h.ps.length + 1 → law_elsewhere_f2 (B (some (.pub (.int (i : Nat)))) (some (.pub (.int (k : Nat))))) = .ok (.nx (B (some (.pub (.int (i : Nat)))) (some (.pub (.int (k : Nat)))))) := fun i k hi hk => by
    let ρ := B (some (.pub (.int (i : Nat)))) (some (.pub (.int (k : Nat))))
    have t1 : tru (apC G_law_counts (aC (vr 1) (aC (ap2 ixD (vr 2) (cn (.int (0)))) (aC (vr 6) (aC (vr 4) aN))))) ρ = .ok (countsB w i (countedG r s0 i)) :=
      tru_of (apc4 (a := dR r) (b := dS s0) (c := .int i) (d := encW w) rfl (apd2 (a := .list [dS s0, dS s1, dS s2]) (b := .int 0) rfl rfl rfl) rfl rfl (law_countsT r p0 (by omega) (by omega) w))
    have t2 : tB' (ap2 ninD (vr 3) (apC G_law_way (aC (ap2 ixD (vr 2) (cn (.int (0)))) (aC (vr 7) aN)))) ρ = .ok (!decide (f ∈ wayOf s0.ps s0.sh k)) :=
      tB_of (apd2 (a := .int f) (b := .list ((wayOf s0.ps s0.sh k).map .int)) rfl (apc2 (a := dS s0) (b := .int k) (apd2 (a := .list [dS s0, dS s1, dS s2]) (b := .int 0) rfl rfl rfl) rfl (law_way p0 (by omega) (by have := p0.pl; omega))) (ninD_l f _))
    have t3 : ∃ b, tOr' (tNot' (tru (apC G_law_counts (aC (vr 1) (aC (ap2 ixD (vr 2) (cn (.int (0)))) (aC (vr 6) (aC (vr 4) aN))))))) (tB' (ap2 ninD (vr 3) (apC G_law_way (aC (ap2 ixD (vr 2) (cn (.int (0)))) (aC (vr 7) aN))))) ρ = .ok b ∧ (b = true → countsB w i (countedG r s0 i) = false ∨ f ∉ wayOf s0.ps s0.sh k) := by
      cases q : countsB w i (countedG r s0 i) with
      | false =>
        rw [q] at t1
        exact ⟨true, tOr_t (tNot_of t1), fun _ => .inl rfl⟩
      | true =>
        rw [q] at t1
        refine ⟨_, tOr_f (tNot_of t1) t2, fun z => .inr ?_⟩
        simpa using z
    obtain ⟨b, eb, hb⟩ := t3
    show law_elsewhere_f2 ρ = _
    unfold law_elsewhere_f2
    cases b with
    | false =>
      rw [sq_nx (by rw [sIf_f eb]; rfl)]
      rfl
    | true =>
      obtain ⟨q1, q2⟩ := hE i k hi hk (hb rfl)
      have c : lst (comp (seqE (vr 5)) (.one 9) [9] noIf law_elsewhere_e1) ρ = .ok (.list [.bool (seesB r s0 i k), .bool (seesB r s0 i k), .bool (seesB r s0 i k)]) := by
        refine lst_of ?_
        show compL (.one 9) noIf law_elsewhere_e1 ρ ([s0, s1, s2].map fun s => SI r h s) = _
        refine (compL_map (to := fun s => ρ.set 9 (some (.pub (SI r h s)))) (out := fun s => .bool (seesB r s i k)) [s0, s1, s2] (fun s hs => ⟨rfl, ?_⟩)).trans ?_
        · exact apd2 (a := .tuple [.int (i : Int), .int (k : Int)]) (b := SI r h s) rfl rfl (inD_sight r s _ _ i k hi hk)
        · show Rs.ok [PyData.bool (seesB r s0 i k), .bool (seesB r s1 i k), .bool (seesB r s2 i k)] = _
          rw [q1, q2]
      have t4 : tB' (ap2 neD (apC lenSetB (aC (lst (comp (seqE (vr 5)) (.one 9) [9] noIf law_elsewhere_e1)) aN)) (cn (.int (1)))) ρ = .ok false :=
        tB_of (apd2 (a := .int 1) (b := .int 1) (apc1 c (cnt_three _)) rfl rfl)
      rw [sq_nx (by rw [sIf_t eb, sq_nx (by rw [sIf_f t4]; rfl)]; rfl)]
      rfl
  have outer : ∀ (i : Nat) (c7 : Option Cell), i < h.n.toNat → ∃ c7', law_elsewhere_f3 (B (some (.pub (.int (i : Nat)))) c7) = .ok (.nx (B (some (.pub (.int (i : Nat)))) c7')) := fun i c7 hi => by
    have rn : apN rng1 (aC (ap2 addD (apC lenD (aC (ap2 ixD (vr 0) (cn (.int (1)))) aN)) (cn (.int (1)))) aN) (B (some (.pub (.int (i : Nat)))) c7) = .ok (rangeL 0 (h.ps.length + 1)) := apn1 (a := .int ((h.ps.length : Int) + 1)) (apd2 (a := .int h.ps.length) (apc1 (a := dI h.ps) rfl (by show Rs.ok _ = _; rw [List.length_map])) rfl rfl) (by
      rw [rng_n (by omega) (by omega)]; congr 1)
    obtain ⟨ρ', e, c7', eρ⟩ := forL_range (j := 7) (n := h.ps.length + 1) (f := law_elsewhere_f2) (fun k ρ => ∃ c7, ρ = B (some (.pub (.int (i : Nat)))) c7) (B (some (.pub (.int (i : Nat)))) c7) (fun k ρ hk ⟨c7, eρ⟩ => by
      subst eρ
      exact ⟨_, inner i k hi hk, _, rfl⟩) ⟨c7, rfl⟩
    subst eρ
    refine ⟨c7', ?_⟩
    unfold law_elsewhere_f3
    rw [sq_nx (sFor_of rn e)]
    rfl
  have rn : apN rng1 (aC (ap2 ixD (vr 0) (cn (.int (0)))) aN) (B none none) = .ok (rangeL 0 h.n.toNat) := apn1 (a := .int h.n) (apd2 (a := dH h) (b := .int 0) rfl rfl rfl) (rng_n (by omega) (by omega))
  obtain ⟨ρ', e, c6, c7, eρ⟩ := forL_range (j := 6) (n := h.n.toNat) (f := law_elsewhere_f3) (fun k ρ => ∃ c6 c7, ρ = B c6 c7) (B none none) (fun k ρ hk ⟨c6, c7, eρ⟩ => by
    subst eρ
    obtain ⟨c7', e⟩ := outer k c7 hk
    exact ⟨_, e, _, _, rfl⟩) ⟨none, none, rfl⟩
  subst eρ
  unfold G_law_elsewhere b_law_elsewhere
  refine run_rt ?_
  show sq _ _ (A none none none none none) = _
  rw [sq_nx (sSet_of e1)]
  show sq _ _ (B none none) = _
  rw [sq_nx (sFor_of rn e)]
  rfl
/-! the three states -/
theorem selE_mem {es : List Ent} {i a : Int} {gs : List Int} {x : Ent} : x ∈ selE es i gs a ↔ x ∈ es ∧ x.f = a ∧ countsB x.w i gs = true := by
  unfold selE
  rw [List.mem_filter, Bool.and_eq_true, decide_eq_true_eq]
theorem withE_ok {h : Hou} {s : Sta} (p : SOk h s) {es : List Ent} (q : FOk h.n h.ps.length es) : SOk h (withE s es) :=
  sub_ok p (fun e he => by rw [p.pl]; exact q.rg e (mem_sortE.mp he)) (by rw [sortE_len]; exact q.le) (spots_sort q.nd) (fun _ hm => hm) p.b.ma
/-- more entries that allow: no sight less -/
theorem less_allow {h : Hou} {s : Sta} (r : Rul) {es : List Ent} {e : Ent} (ha : e.a = true) : Less r r h (withE s es) (withE s (es ++ [e])) := fun i f _ _ hs => by
  rw [seesB_iff] at hs ⊢
  refine ok_more (sel := selE (sortE es) i (countedG r s i)) (sel' := selE (sortE (es ++ [e])) i (countedG r s i)) (wayOf s.ps s.sh f) (fun a _ x hx => ?_) (fun a _ x hx => ?_) hs
  · rw [selE_mem, mem_sortE] at hx ⊢
    exact ⟨List.mem_append_left _ hx.1, hx.2⟩
  · rw [selE_mem, mem_sortE] at hx
    rcases List.mem_append.mp hx.1 with z | z
    · exact .inl (by rw [selE_mem, mem_sortE]; exact ⟨z, hx.2⟩)
    · rw [List.mem_singleton.mp z]
      exact .inr ha
/-- without a bar: no sight less -/
theorem less_bar {h : Hou} {s : Sta} (r : Rul) {es : List Ent} {e : Ent} (ha : e.a = false) : Less r r h (withE s (es ++ [e])) (withE s es) := fun i f _ _ hs => by
  rw [seesB_iff] at hs ⊢
  refine ok_less (sel := selE (sortE (es ++ [e])) i (countedG r s i)) (sel' := selE (sortE es) i (countedG r s i)) (wayOf s.ps s.sh f) (fun a _ x hx => ?_) (fun a _ x hx => ?_) hs
  · rw [selE_mem, mem_sortE] at hx ⊢
    exact ⟨List.mem_append_left _ hx.1, hx.2⟩
  · rw [selE_mem, mem_sortE] at hx
    rcases List.mem_append.mp hx.1 with z | z
    · exact .inl (by rw [selE_mem, mem_sortE]; exact ⟨z, hx.2⟩)
    · rw [List.mem_singleton.mp z]
      exact .inr ha
/-- an entry that does not count or is off the way -/
theorem same_else {s : Sta} (r : Rul) {es : List Ent} {e : Ent} {i f : Int} (hc : countsB e.w i (countedG r s i) = false ∨ e.f ∉ wayOf s.ps s.sh f) : seesB r (withE s (es ++ [e])) i f = seesB r (withE s es) i f := by
  have q : seesB r (withE s (es ++ [e])) i f = true ↔ seesB r (withE s es) i f = true := by
    rw [seesB_iff, seesB_iff]
    refine ok_same (sel := selE (sortE es) i (countedG r s i)) (sel' := selE (sortE (es ++ [e])) i (countedG r s i)) (wayOf s.ps s.sh f) (fun a hw x => ?_)
    rw [selE_mem, selE_mem, mem_sortE, mem_sortE, List.mem_append, List.mem_singleton]
    constructor
    · rintro ⟨z | z, h1, h2⟩
      · exact ⟨z, h1, h2⟩
      · subst z
        rcases hc with c | c
        · rw [c] at h2; exact nomatch h2
        · rw [h1] at c; exact absurd hw c
    · rintro ⟨z, h1⟩
      exact ⟨.inl z, h1⟩
  cases h1 : seesB r (withE s (es ++ [e])) i f <;> cases h2 : seesB r (withE s es) i f <;> simp_all
theorem less_near {h : Hou} {s : Sta} (r : Rul) : Less (nearR false r) (nearR true r) h s s := fun i f _ _ hs => by
  rw [seesB_iff] at hs ⊢
  exact ok_near (sel := selE s.es i (countedG r s i)) (wayOf s.ps s.sh f) hs
theorem allow_on_way {r : Rul} {s : Sta} {i f : Int} (hs : seesB r s i f = true) : ∃ e ∈ s.es, e.a = true ∧ e.f ∈ wayOf s.ps s.sh f := by
  obtain ⟨⟨x, h1, h2⟩, _⟩ := seesB_iff.mp hs
  obtain ⟨q1, q2⟩ := dec_mem h1
  exact ⟨x, q1, h2, q2⟩
theorem kind_allow (b : Bool) : eqD (.str (kindS b)) (.str "allow") = .ok (.bool b) := by cases b <;> exact (eqD_s _ _).trans rfl
/-- one turn over the three states -/
theorem near_turn {h : Hou} (r : Rul) (o : HOk h) {s : Sta} (p : SOk h s) (c0 c2 c3 c5 c6 c7 c8 c10 c11 : Option Cell) : ∃ c10' c11', law_f6 [c0, some (.pub (dH h)), c2, c3, some (.pub (dR r)), c5, c6, c7, c8, some (.pub (dS s)), c10, c11, none, none, none] = .ok (.nx [c0, some (.pub (dH h)), c2, c3, some (.pub (dR r)), c5, c6, c7, c8, some (.pub (dS s)), c10', c11', none, none, none]) := by
  let A (c10 c11 c12 c13 c14 : Option Cell) : Ev := [c0, some (.pub (dH h)), c2, c3, some (.pub (dR r)), c5, c6, c7, c8, some (.pub (dS s)), c10, c11, c12, c13, c14]
  have pl := p.pl
  have en : ap2 addD (tupE (aC (cn (.str "near")) aN)) (slE (vr 4) (oS (cn (.int (1)))) oN) (A c10 c11 none none none) = .ok (dR (nearR true r)) :=
    apd2 (a := .tuple [.str "near"]) (b := .tuple [.str (movS r.drops), .str (knoS r.login), .bool r.deep]) rfl (slE_of (d := dR r) (lo := some 1) (hi := none) rfl rfl rfl rfl) rfl
  let NR := SI (nearR true r) h s
  let ρ1 := A (some (.pub NR)) c11 none none none
  have eb : ap2 addD (tupE (aC (cn (.str "bar")) aN)) (slE (vr 4) (oS (cn (.int (1)))) oN) ρ1 = .ok (dR (nearR false r)) :=
    apd2 (a := .tuple [.str "bar"]) (b := .tuple [.str (movS r.drops), .str (knoS r.login), .bool r.deep]) rfl (slE_of (d := dR r) (lo := some 1) (hi := none) rfl rfl rfl rfl) rfl
  have c1 : lst (comp (seqE (apC G_all_sights (aC (vr 1) (aC (ap2 addD (tupE (aC (cn (.str "bar")) aN)) (slE (vr 4) (oS (cn (.int (1)))) oN)) (aC (vr 9) aN))))) (.one 13) [13] noIf law_e5) ρ1 = .ok (.list (((sightL (nearR false r) s h.n.toNat (h.ps.length + 1)).map fun p => seesB (nearR true r) s (p.1 : Nat) (p.2 : Nat)).map .bool)) := by
    refine lst_of ?_
    refine comp_of (ds := (sightL (nearR false r) s h.n.toNat (h.ps.length + 1)).map encSp) (seqE_of (d := SI (nearR false r) h s) (apc3 (a := dH h) (b := dR (nearR false r)) (c := dS s) rfl eb rfl (sights_of _ o p)) rfl) ?_
    rw [List.map_map]
    refine compL_map (enc := encSp) (to := fun p => A (some (.pub NR)) c11 none (some (.pub (encSp p))) none) (out := fun p => .bool (seesB (nearR true r) s (p.1 : Nat) (p.2 : Nat))) _ (fun p hp => ⟨rfl, ?_⟩)
    have := (sight_rng hp).1
    exact apd2 (a := encSp p) (b := NR) rfl rfl (inD_sight _ s _ _ p.1 p.2 this.1 this.2)
  have t1 : tru (apC allD (aC (lst (comp (seqE (apC G_all_sights (aC (vr 1) (aC (ap2 addD (tupE (aC (cn (.str "bar")) aN)) (slE (vr 4) (oS (cn (.int (1)))) oN)) (aC (vr 9) aN))))) (.one 13) [13] noIf law_e5)) aN)) ρ1 = .ok true := tru_of (apc1 c1 (allB fun b hb => by
    obtain ⟨q, hq, e⟩ := List.mem_map.mp hb
    obtain ⟨⟨q1, q2⟩, q3⟩ := sight_rng hq
    rw [← e]
    exact less_near (h := h) r q.1 q.2 q1 q2 q3))
  let AL := (s.es.filter fun e => e.a).map Ent.f
  have c2' : lst (comp (seqE (ap2 ixD (vr 9) (cn (.int (2))))) (.one 12) [12] law_c4 law_e3) ρ1 = .ok (.list (AL.map .int)) := by
    refine lst_of ?_
    refine comp_of (ds := s.es.map encE) (seqE_of (d := dE s.es) (apd2 (a := dS s) (b := .int 2) rfl rfl rfl) rfl) ?_
    rw [List.map_map]
    refine compL_filter (enc := encE) (to := fun e => A (some (.pub NR)) c11 (some (.pub (encE e))) none none) (out := fun e => .int e.f) (p := fun e => e.a) s.es fun e _ => ⟨rfl, ?_, fun _ => rfl⟩
    exact tB_of (apd2 (a := .str (kindS e.a)) (b := .str "allow") (apd2 (a := encE e) (b := .int 2) rfl rfl rfl) rfl (kind_allow _))
  let ρ2 := A (some (.pub NR)) (some (.pub (.list (AL.map .int)))) none none none
  have c3' : lst (comp (seqE (vr 10)) (.one 13) [13] noIf law_e2) ρ2 = .ok (.list (((sightL (nearR true r) s h.n.toNat (h.ps.length + 1)).map fun p => ((wayOf s.ps s.sh (p.2 : Nat)).map fun a => decide (a ∈ AL)).any fun b => b).map .bool)) := by
    refine lst_of ?_
    refine comp_of (ds := (sightL (nearR true r) s h.n.toNat (h.ps.length + 1)).map encSp) (seqE_of (d := NR) rfl rfl) ?_
    rw [List.map_map]
    refine compL_map (enc := encSp) (to := fun p => A (some (.pub NR)) (some (.pub (.list (AL.map .int)))) none (some (.pub (encSp p))) none) (out := fun p => .bool (((wayOf s.ps s.sh (p.2 : Nat)).map fun a => decide (a ∈ AL)).any fun b => b)) _ (fun q hq => ⟨rfl, ?_⟩)
    have hr := (sight_rng hq).1
    let ρ3 := A (some (.pub NR)) (some (.pub (.list (AL.map .int)))) none (some (.pub (encSp q))) none
    have w : lst (comp (seqE (apC G_law_way (aC (vr 9) (aC (ap2 ixD (vr 13) (cn (.int (1)))) aN)))) (.one 14) [14] noIf law_e1) ρ3 = .ok (.list (((wayOf s.ps s.sh (q.2 : Nat)).map fun a => decide (a ∈ AL)).map .bool)) := by
      refine lst_of ?_
      refine comp_of (ds := (wayOf s.ps s.sh (q.2 : Nat)).map .int) (seqE_of (d := .list ((wayOf s.ps s.sh (q.2 : Nat)).map .int)) (apc2 (a := dS s) (b := .int (q.2 : Nat)) rfl (apd2 (a := encSp q) (b := .int 1) rfl rfl rfl) (law_way p (by omega) (by omega))) rfl) ?_
      rw [List.map_map]
      exact compL_map (enc := PyData.int) (to := fun a => A (some (.pub NR)) (some (.pub (.list (AL.map .int)))) none (some (.pub (encSp q))) (some (.pub (.int a)))) (out := fun a => .bool (decide (a ∈ AL))) _ (fun a _ => ⟨rfl, apd2 (a := .int a) (b := .list (AL.map .int)) rfl rfl (inI a AL)⟩)
    exact apc1 w (any_bools _)
  have t2 : tru (apC allD (aC (lst (comp (seqE (vr 10)) (.one 13) [13] noIf law_e2)) aN)) ρ2 = .ok true := tru_of (apc1 c3' (allB fun b hb => by
    obtain ⟨q, hq, e⟩ := List.mem_map.mp hb
    obtain ⟨x, h1, h2, h3⟩ := allow_on_way (sight_rng hq).2
    rw [← e]
    rw [List.any_map, List.any_eq_true]
    refine ⟨x.f, h3, ?_⟩
    show decide (x.f ∈ AL) = true
    rw [decide_eq_true_eq]
    exact List.mem_map.mpr ⟨x, List.mem_filter.mpr ⟨h1, h2⟩, rfl⟩))
  refine ⟨some (.pub NR), some (.pub (.list (AL.map .int))), ?_⟩
  unfold law_f6
  refine (sq_nx (sSet_of (d := NR) (apc3 (a := dH h) (b := dR (nearR true r)) (c := dS s) rfl en rfl (sights_of _ o p)))).trans ?_
  show sq _ _ ρ1 = _
  rw [sq_nx (by rw [sIf_f (tNot_of t1)]; rfl)]
  rw [sq_nx (sSet_of c2')]
  show sq _ _ ρ2 = _
  rw [sq_nx (by rw [sIf_f (tNot_of t2)]; rfl)]
  rfl
theorem restE_spot {es : List Ent} {f : Int} {w : Who} : ∀ e ∈ restE es f w, e.spot ≠ ⟨f, w⟩ := fun e he => by
  have := (List.mem_filter.mp he).2
  simpa using this
theorem math (ns : List Int) (hl : ns.length ≤ 63) : M.G_law [.list (ns.map .int)] = .ok (.bool true) := by
  obtain ⟨h, o, eh⟩ := pre_house ns 0 (by decide)
  obtain ⟨s, p, es⟩ := pre_state ns 1 (by decide) o
  obtain ⟨dr, hd, ed⟩ := pre_draws ns 2 3 (by decide) (by decide) (by decide)
  have dl : dr.length = 3 := hd.1
  obtain ⟨r, er⟩ := rule_t (dr[(0 : Int).toNat]'(by rw [dl]; decide))
  have n1 := o.n1
  have n4 := o.n4
  have l5 := o.b.tree.len
  have pl := p.pl
  let d1 := dr[(1 : Int).toNat]'(by rw [dl]; decide)
  let d2 := dr[(2 : Int).toNat]'(by rw [dl]; decide)
  let f : Int := d1 % ((h.ps.length : Int) + 1)
  obtain ⟨w, wok, ew⟩ := who_t d2 h.n n1
  have f0 : 0 ≤ f := Int.emod_nonneg _ (by omega)
  have f1 : f ≤ h.ps.length := by
    have := Int.emod_lt_of_pos d1 (b := (h.ps.length : Int) + 1) (by omega)
    show d1 % ((h.ps.length : Int) + 1) ≤ _
    omega
  let A (c1 c2 c3 c4 c5 c6 c7 c8 c9 c10 c11 : Option Cell) : Ev := [some (.pub (.list (ns.map .int))), c1, c2, c3, c4, c5, c6, c7, c8, c9, c10, c11, none, none, none]
  let B (c7 c8 c9 c10 c11 : Option Cell) : Ev := A (some (.pub (dH h))) (some (.pub (dS s))) (some (.pub (.list (dr.map .int)))) (some (.pub (dR r))) (some (.pub (.int f))) (some (.pub (encW w))) c7 c8 c9 c10 c11
  obtain ⟨rest0, h0⟩ : ∃ l, l = restE s.es f w := ⟨_, rfl⟩
  obtain ⟨rest, hR⟩ : ∃ l, l = if rest0.length = 12 then rest0.dropLast else rest0 := ⟨_, rfl⟩
  have sub : rest.Sublist rest0 := by
    rw [hR]
    split
    · exact List.dropLast_sublist _
    · exact List.Sublist.refl _
  have sub2 : rest.Sublist s.es := sub.trans (by rw [h0]; exact List.filter_sublist ..)
  have le0 : rest0.length ≤ 12 := by rw [h0]; exact Nat.le_trans (List.length_filter_le _ _) p.b.el
  have le : rest.length < 12 := by
    rw [hR]
    split
    · rw [List.length_dropLast]; omega
    · omega
  have q0 : FOk h.n h.ps.length rest := ⟨(sub2.map Ent.spot).nodup (asc_nodup p.b.ea), by omega, fun e he => by have := p.b.er e (sub2.subset he); rw [pl] at this; exact this⟩
  have nsp : ∀ a, (⟨f, w, a⟩ : Ent).spot ∉ rest.map Ent.spot := fun a z => by
    obtain ⟨e, he, ee⟩ := List.mem_map.mp z
    exact restE_spot e (by rw [← h0]; exact sub.subset he) ee
  have qa : ∀ a, FOk h.n h.ps.length (rest ++ [⟨f, w, a⟩]) := fun a => q0.add le (nsp a) ⟨f0, by show f < (h.ps.length : Int) + 1; omega, wok⟩
  let sB := withE s (rest ++ [⟨f, w, false⟩])
  let sN := withE s rest
  let sA := withE s (rest ++ [⟨f, w, true⟩])
  have pB : SOk h sB := withE_ok p (qa false)
  have pN : SOk h sN := withE_ok p q0
  have pA : SOk h sA := withE_ok p (qa true)
  -- the entries that stay
  have c0 : comp (seqE (ap2 ixD (vr 2) (cn (.int (2))))) (.one 12) [12] law_c8 law_e7 (B none none none none none) = .ok (rest0.map encE) := by
    refine comp_of (ds := s.es.map encE) (seqE_of (d := dE s.es) (apd2 (a := dS s) (b := .int 2) rfl rfl rfl) rfl) ?_
    rw [h0]
    show compL _ _ _ _ _ = .ok ((s.es.filter fun e => !decide (e.spot = ⟨f, w⟩)).map encE)
    refine compL_filter (enc := encE) (to := fun e => (B none none none none none).set 12 (some (.pub (encE e)))) s.es fun e _ => ⟨rfl, ?_, fun _ => rfl⟩
    refine tB_of (apd2 (a := encM e.spot) (b := encM ⟨f, w⟩) ?_ rfl (neD_e e.spot ⟨f, w⟩))
    show (slD (encE e) none (some 2)) = _
    exact cut2 _ _ _
  have g7 : getC (B (some (.own (rest0.map encE))) none none none none) 7 = some (.own (rest0.map encE)) := rfl
  have t12 : tB' (ap2 eqD (fun ρ => ((ownV 7) ρ).bnd fun d => (lenD [d]).bnd flatD) (cn (.int (12)))) (B (some (.own (rest0.map encE))) none none none none) = .ok (decide (rest0.length = 12)) := by
    refine tB_of (apd2 (a := .int (rest0.map encE).length) (b := .int 12) (len_own g7) rfl ?_)
    rw [ltD_n, List.length_map]
    congr 2
    simp
    omega
  have pop : sIf (tB' (ap2 eqD (fun ρ => ((ownV 7) ρ).bnd fun d => (lenD [d]).bnd flatD) (cn (.int (12))))) (sq (sPop 7) sNil) sNil (B (some (.own (rest0.map encE))) none none none none) = .ok (.nx (B (some (.own (rest.map encE))) none none none none)) := by
    rw [hR]
    by_cases h12 : rest0.length = 12
    · rw [decide_eq_true h12] at t12
      rw [sIf_t t12, if_pos h12]
      have ne : rest0.map encE ≠ [] := fun z => by
        have := congrArg List.length z
        rw [List.length_map, h12] at this
        exact nomatch this
      rw [sq_nx (ρ' := B (some (.own ((rest0.map encE).dropLast))) none none none none) (by
        show (if rest0.map encE = [] then _ else _) = _
        rw [if_neg ne]; rfl)]
      rw [List.map_dropLast]
      rfl
    · rw [decide_eq_false h12] at t12
      rw [sIf_f t12, if_neg h12]
      rfl
  let RL : PyData := .list (rest.map encE)
  have w0 : ∀ (a : Bool) (ρ : Ev), vr 7 ρ = .ok RL → vr 5 ρ = .ok (.int f) → vr 6 ρ = .ok (encW w) → ap2 addD (vr 7) (lst (aC (tupE (aC (vr 5) (aC (vr 6) (aC (cn (.str (kindS a))) aN)))) aN)) ρ = .ok (.list ((rest ++ [(⟨f, w, a⟩ : Ent)]).map encE)) := fun a ρ v7 v5 v6 => by
    have e1 : lst (aC (tupE (aC (vr 5) (aC (vr 6) (aC (cn (.str (kindS a))) aN)))) aN) ρ = .ok (.list [encE (⟨f, w, a⟩ : Ent)]) := lst_of (ac1 (tup_of (ac1 v5 (ac1 v6 (ac1 rfl ac0)))) ac0)
    have e2 : (rest ++ [(⟨f, w, a⟩ : Ent)]).map encE = rest.map encE ++ [encE ⟨f, w, a⟩] := List.map_append
    have e3 : (rest.map encE).length + [encE ⟨f, w, a⟩].length ≤ sizeLine := by
      rw [List.length_map, sizeLine_eq]
      show rest.length + 1 ≤ _
      omega
    rw [e2]
    exact apd2 v7 e1 (addD_l e3)
  have w1 : ∀ (a : Bool) (ρ : Ev), vr 2 ρ = .ok (dS s) → vr 7 ρ = .ok RL → vr 5 ρ = .ok (.int f) → vr 6 ρ = .ok (encW w) → apC G_law_with (aC (vr 2) (aC (ap2 addD (vr 7) (lst (aC (tupE (aC (vr 5) (aC (vr 6) (aC (cn (.str (kindS a))) aN)))) aN))) aN)) ρ = .ok (dS (withE s (rest ++ [(⟨f, w, a⟩ : Ent)]))) := fun a ρ v2 v7 v5 v6 =>
    apc2 v2 (w0 a ρ v7 v5 v6) (law_withT s (rest ++ [(⟨f, w, a⟩ : Ent)]))
  have w2 : apC G_law_with (aC (vr 2) (aC (vr 7) aN)) (B (some (.pub RL)) none none none none) = .ok (dS sN) := apc2 (a := dS s) (b := RL) rfl rfl (law_withT s rest)
  let SL : PyData := .list [dS sB, dS sN, dS sA]
  have lss1 : Less r r h sB sN := less_bar r rfl
  have lss2 : Less r r h sN sA := less_allow r rfl
  have asc := law_ascendsT r o pB pN pA lss1 lss2
  have els := law_elsewhereT r o pB pN pA f w fun i k hi hk hc => by
    have e1 : seesB r sB i k = seesB r sN i k := same_else r (e := ⟨f, w, false⟩) hc
    have e2 : seesB r sA i k = seesB r sN i k := same_else r (e := ⟨f, w, true⟩) hc
    exact ⟨e1.symm, e2.trans e1.symm⟩
  have tt1 : tru (apC G_law_ascends (aC (vr 1) (aC (vr 4) (aC (vr 8) aN)))) (B (some (.pub RL)) (some (.pub SL)) none none none) = .ok true := tru_of (apc3 (a := dH h) (b := dR r) (c := SL) rfl rfl rfl asc)
  have tt2 : tru (apC G_law_elsewhere (aC (vr 1) (aC (vr 4) (aC (vr 8) (aC (vr 5) (aC (vr 6) aN)))))) (B (some (.pub RL)) (some (.pub SL)) none none none) = .ok true := tru_of (apc5 (a := dH h) (b := dR r) (c := SL) (d := .int f) (x := encW w) rfl rfl rfl rfl rfl els)
  obtain ⟨ρ', el, c9, c10, c11, eρ⟩ := forL_one (j := 9) (f := law_f6) (fun _ ρ => ∃ c9 c10 c11, ρ = B (some (.pub RL)) (some (.pub SL)) c9 c10 c11) [dS sB, dS sN, dS sA] (B (some (.pub RL)) (some (.pub SL)) none none none) (fun k d ρ hk ⟨c9, c10, c11, eρ⟩ => by
    subst eρ
    have hm := List.mem_of_getElem? hk
    obtain ⟨t, pt, rfl⟩ : ∃ t, SOk h t ∧ d = dS t := by
      simp only [List.mem_cons, List.not_mem_nil, or_false] at hm
      rcases hm with e | e | e
      · exact ⟨_, pB, e⟩
      · exact ⟨_, pN, e⟩
      · exact ⟨_, pA, e⟩
    obtain ⟨c10', c11', e⟩ := near_turn r o pt (some (.pub (.list (ns.map .int)))) (some (.pub (dS s))) (some (.pub (.list (dr.map .int)))) (some (.pub (.int f))) (some (.pub (encW w))) (some (.pub RL)) (some (.pub SL)) c10 c11
    exact ⟨_, e, _, _, _, rfl⟩) ⟨none, none, none, rfl⟩
  subst eρ
  unfold G_law b_law
  refine run_rt ?_
  show sq _ _ (A none none none none none none none none none none none) = _
  rw [sq_nx (sSet_of (eh _ rfl))]
  show sq _ _ (A (some (.pub (dH h))) none none none none none none none none none none) = _
  rw [sq_nx (sSet_of (es _ rfl rfl))]
  show sq _ _ (A (some (.pub (dH h))) (some (.pub (dS s))) none none none none none none none none none) = _
  rw [sq_nx (sSet_of (ed _ rfl))]
  show sq _ _ (A (some (.pub (dH h))) (some (.pub (dS s))) (some (.pub (.list (dr.map .int)))) none none none none none none none none) = _
  refine (sq_nx (sSet_of (d := dR r) (apc1 (apd2 (a := .list (dr.map .int)) (b := .int 0) rfl rfl (ix_d (k := 0) (by decide) (by rw [dl]; decide))) er))).trans ?_
  show sq _ _ (A (some (.pub (dH h))) (some (.pub (dS s))) (some (.pub (.list (dr.map .int)))) (some (.pub (dR r))) none none none none none none none) = _
  refine (sq_nx (sSet_of (d := .int f) (apd2 (a := .int d1) (b := .int ((h.ps.length : Int) + 1)) (apc1 (a := .int d1) (apd2 (a := .list (dr.map .int)) (b := .int 1) rfl rfl (ix_d (k := 1) (by decide) (by rw [dl]; decide))) rfl) (apd2 (a := .int h.ps.length) (b := .int 1) (apc1 (a := dI h.ps) (apd2 (a := dH h) (b := .int 1) rfl rfl rfl) (by show Rs.ok _ = _; rw [List.length_map])) rfl rfl) (modD_i (by omega))))).trans ?_
  show sq _ _ (A (some (.pub (dH h))) (some (.pub (dS s))) (some (.pub (.list (dr.map .int)))) (some (.pub (dR r))) (some (.pub (.int f))) none none none none none none) = _
  refine (sq_nx (sSet_of (d := encW w) (apc2 (a := .int d2) (b := .int h.n) (apd2 (a := .list (dr.map .int)) (b := .int 2) rfl rfl (ix_d (k := 2) (by decide) (by rw [dl]; decide))) (apd2 (a := dH h) (b := .int 0) rfl rfl rfl) ew))).trans ?_
  show sq _ _ (B none none none none none) = _
  rw [sq_nx (sOwn_of c0)]
  show sq _ _ (B (some (.own (rest0.map encE))) none none none none) = _
  rw [sq_nx pop]
  refine (sq_nx (ρ' := B (some (.pub RL)) (some (.own [dS sB, dS sN])) none none none) ?_).trans ?_
  · show sOwn 8 _ (B (some (.pub RL)) none none none none) = _
    exact sOwn_of (ac1 (w1 false _ rfl rfl rfl rfl) (ac1 w2 ac0))
  refine (sq_nx (ρ' := B (some (.pub RL)) (some (.own [dS sB, dS sN, dS sA])) none none none) ?_).trans ?_
  · show sApp 8 _ (B (some (.pub RL)) (some (.own [dS sB, dS sN])) none none none) = _
    exact sApp_of (ds := [dS sB, dS sN]) rfl (w1 true (B (some (.pub RL)) (some (.own [dS sB, dS sN])) none none none) rfl rfl rfl rfl) (by show 2 ≤ 1000; decide)
  refine (sq_nx (ρ' := B (some (.pub RL)) (some (.pub SL)) none none none) ?_).trans ?_
  · show sIf _ _ _ (B (some (.pub RL)) (some (.pub SL)) none none none) = _
    rw [sIf_f (tOr_f (tNot_of tt1) (tNot_of tt2))]
    rfl
  refine (sq_nx (ρ' := B (some (.pub RL)) (some (.pub SL)) c9 c10 c11) ?_).trans ?_
  · show sFor _ _ _ (B (some (.pub RL)) (some (.pub SL)) none none none) = _
    exact sFor_of (ds := [dS sB, dS sN, dS sA]) rfl el
  rfl
end Q


namespace A
open PySem PySem.Spec PyProof.Rows L2 PL M

def topS (i : Nat) : Stmt := PySem.Challenge.pw_sawwhen_k07_whole_one_entry_more.main.body.getD i (.Pass ⟨0, 0, 0, 0⟩)
abbrev s_ascends : Stmt := topS 17
abbrev scp_ascends : Scope := { kind := .function, names := [(Str.ofString "things", .cell), (Str.ofString "all", .globalImplicit), (Str.ofString "range", .globalImplicit), (Str.ofString "len", .globalImplicit)], isGenerator := false, isCoroutine := false, more := [(Str.ofString "fast", .str "things"), (Str.ofString "fast", .str "at")] }
abbrev scq_ascends_1 : Scope := { kind := .function, names := [(Str.ofString ".0", .local), (Str.ofString "at", .local), (Str.ofString "things", .free)], isGenerator := false, isCoroutine := false, more := [] }
abbrev nm_ascends : List Str := ["things", "at"]
theorem sc_ascends : FnScope nm_ascends ["things"] scp_ascends := ⟨rfl, rfl, rfl, by decide +kernel, rfl, by decide +kernel, by decide +kernel⟩
abbrev s_is_integer : Stmt := topS 13
abbrev scp_is_integer : Scope := { kind := .function, names := [(Str.ofString "thing", .local), (Str.ofString "least", .local), (Str.ofString "most", .local), (Str.ofString "isinstance", .globalImplicit), (Str.ofString "int", .globalImplicit), (Str.ofString "bool", .globalImplicit)], isGenerator := false, isCoroutine := false, more := [] }
abbrev nm_is_integer : List Str := ["thing", "least", "most"]
theorem sc_is_integer : FnScope nm_is_integer ["thing", "least", "most"] scp_is_integer := ⟨rfl, rfl, rfl, by decide +kernel, rfl, by decide +kernel, by decide +kernel⟩
abbrev s_is_number : Stmt := topS 14
abbrev scp_is_number : Scope := { kind := .function, names := [(Str.ofString "thing", .local), (Str.ofString "many", .local), (Str.ofString "is_integer", .globalImplicit)], isGenerator := false, isCoroutine := false, more := [] }
abbrev nm_is_number : List Str := ["thing", "many"]
theorem sc_is_number : FnScope nm_is_number ["thing", "many"] scp_is_number := ⟨rfl, rfl, rfl, by decide +kernel, rfl, by decide +kernel, by decide +kernel⟩
abbrev s_is_row : Stmt := topS 16
abbrev scp_is_row : Scope := { kind := .function, names := [(Str.ofString "thing", .local), (Str.ofString "length", .local), (Str.ofString "isinstance", .globalImplicit), (Str.ofString "tuple", .globalImplicit), (Str.ofString "len", .globalImplicit)], isGenerator := false, isCoroutine := false, more := [] }
abbrev nm_is_row : List Str := ["thing", "length"]
theorem sc_is_row : FnScope nm_is_row ["thing", "length"] scp_is_row := ⟨rfl, rfl, rfl, by decide +kernel, rfl, by decide +kernel, by decide +kernel⟩
abbrev s_is_word : Stmt := topS 15
abbrev scp_is_word : Scope := { kind := .function, names := [(Str.ofString "thing", .local), (Str.ofString "words", .local), (Str.ofString "isinstance", .globalImplicit), (Str.ofString "str", .globalImplicit)], isGenerator := false, isCoroutine := false, more := [] }
abbrev nm_is_word : List Str := ["thing", "words"]
theorem sc_is_word : FnScope nm_is_word ["thing", "words"] scp_is_word := ⟨rfl, rfl, rfl, by decide +kernel, rfl, by decide +kernel, by decide +kernel⟩
abbrev s_is_who : Stmt := topS 18
abbrev scp_is_who : Scope := { kind := .function, names := [(Str.ofString "thing", .local), (Str.ofString "people", .local), (Str.ofString "kind", .local), (Str.ofString "number", .local), (Str.ofString "is_row", .globalImplicit), (Str.ofString "is_word", .globalImplicit), (Str.ofString "is_number", .globalImplicit), (Str.ofString "GROUPS", .globalImplicit)], isGenerator := false, isCoroutine := false, more := [] }
abbrev nm_is_who : List Str := ["thing", "people", "kind", "number"]
theorem sc_is_who : FnScope nm_is_who ["thing", "people"] scp_is_who := ⟨rfl, rfl, rfl, by decide +kernel, rfl, by decide +kernel, by decide +kernel⟩
abbrev s_is_entry : Stmt := topS 22
abbrev scp_is_entry : Scope := { kind := .function, names := [(Str.ofString "thing", .local), (Str.ofString "people", .local), (Str.ofString "folders", .local), (Str.ofString "folder", .local), (Str.ofString "who", .local), (Str.ofString "kind", .local), (Str.ofString "is_row", .globalImplicit), (Str.ofString "is_number", .globalImplicit), (Str.ofString "is_who", .globalImplicit), (Str.ofString "is_word", .globalImplicit), (Str.ofString "KINDS", .globalImplicit)], isGenerator := false, isCoroutine := false, more := [] }
abbrev nm_is_entry : List Str := ["thing", "people", "folders", "folder", "who", "kind"]
theorem sc_is_entry : FnScope nm_is_entry ["thing", "people", "folders"] scp_is_entry := ⟨rfl, rfl, rfl, by decide +kernel, rfl, by decide +kernel, by decide +kernel⟩
abbrev s_is_entries : Stmt := topS 23
abbrev scp_is_entries : Scope := { kind := .function, names := [(Str.ofString "thing", .local), (Str.ofString "people", .cell), (Str.ofString "folders", .cell), (Str.ofString "isinstance", .globalImplicit), (Str.ofString "tuple", .globalImplicit), (Str.ofString "len", .globalImplicit), (Str.ofString "MOST_ENTRIES", .globalImplicit), (Str.ofString "all", .globalImplicit), (Str.ofString "ascends", .globalImplicit)], isGenerator := false, isCoroutine := false, more := [(Str.ofString "fast", .str "thing"), (Str.ofString "fast", .str "people"), (Str.ofString "fast", .str "folders"), (Str.ofString "fast", .str "entry"), (Str.ofString "fast", .str "folder"), (Str.ofString "fast", .str "who"), (Str.ofString "fast", .str "kind")] }
abbrev scq_is_entries_1 : Scope := { kind := .function, names := [(Str.ofString ".0", .local), (Str.ofString "folder", .local), (Str.ofString "who", .local), (Str.ofString "kind", .local)], isGenerator := false, isCoroutine := false, more := [] }
abbrev scq_is_entries_2 : Scope := { kind := .function, names := [(Str.ofString ".0", .local), (Str.ofString "entry", .local), (Str.ofString "is_entry", .globalImplicit), (Str.ofString "folders", .free), (Str.ofString "people", .free)], isGenerator := false, isCoroutine := false, more := [] }
abbrev nm_is_entries : List Str := ["thing", "people", "folders", "entry", "folder", "who", "kind"]
theorem sc_is_entries : FnScope nm_is_entries ["thing", "people", "folders"] scp_is_entries := ⟨rfl, rfl, rfl, by decide +kernel, rfl, by decide +kernel, by decide +kernel⟩
abbrev s_groups_of : Stmt := topS 6
abbrev scp_groups_of : Scope := { kind := .function, names := [(Str.ofString "members", .local), (Str.ofString "who", .cell), (Str.ofString "deep", .local), (Str.ofString "group", .local), (Str.ofString "member", .local), (Str.ofString "found", .local), (Str.ofString "at", .local), (Str.ofString "len", .globalImplicit), (Str.ofString "tuple", .globalImplicit), (Str.ofString "sorted", .globalImplicit)], isGenerator := false, isCoroutine := false, more := [(Str.ofString "fast", .str "members"), (Str.ofString "fast", .str "who"), (Str.ofString "fast", .str "deep"), (Str.ofString "fast", .str "group"), (Str.ofString "fast", .str "member"), (Str.ofString "fast", .str "found"), (Str.ofString "fast", .str "at")] }
abbrev scq_groups_of_1 : Scope := { kind := .function, names := [(Str.ofString ".0", .local), (Str.ofString "group", .local), (Str.ofString "member", .local), (Str.ofString "who", .free)], isGenerator := false, isCoroutine := false, more := [] }
abbrev nm_groups_of : List Str := ["members", "who", "deep", "found", "at", "group", "member"]
theorem sc_groups_of : FnScope nm_groups_of ["members", "who", "deep"] scp_groups_of := ⟨rfl, rfl, rfl, by decide +kernel, rfl, by decide +kernel, by decide +kernel⟩
abbrev s_is_member : Stmt := topS 24
abbrev scp_is_member : Scope := { kind := .function, names := [(Str.ofString "thing", .local), (Str.ofString "people", .local), (Str.ofString "group", .local), (Str.ofString "who", .local), (Str.ofString "is_row", .globalImplicit), (Str.ofString "is_number", .globalImplicit), (Str.ofString "GROUPS", .globalImplicit), (Str.ofString "is_who", .globalImplicit)], isGenerator := false, isCoroutine := false, more := [] }
abbrev nm_is_member : List Str := ["thing", "people", "group", "who"]
theorem sc_is_member : FnScope nm_is_member ["thing", "people"] scp_is_member := ⟨rfl, rfl, rfl, by decide +kernel, rfl, by decide +kernel, by decide +kernel⟩
abbrev s_is_members : Stmt := topS 25
abbrev scp_is_members : Scope := { kind := .function, names := [(Str.ofString "thing", .cell), (Str.ofString "people", .cell), (Str.ofString "isinstance", .globalImplicit), (Str.ofString "tuple", .globalImplicit), (Str.ofString "all", .globalImplicit), (Str.ofString "ascends", .globalImplicit), (Str.ofString "any", .globalImplicit), (Str.ofString "range", .globalImplicit), (Str.ofString "GROUPS", .globalImplicit)], isGenerator := false, isCoroutine := false, more := [(Str.ofString "fast", .str "thing"), (Str.ofString "fast", .str "people"), (Str.ofString "fast", .str "member"), (Str.ofString "fast", .str "group")] }
abbrev scq_is_members_1 : Scope := { kind := .function, names := [(Str.ofString ".0", .local), (Str.ofString "group", .local), (Str.ofString "groups_of", .globalImplicit), (Str.ofString "thing", .free)], isGenerator := false, isCoroutine := false, more := [] }
abbrev scq_is_members_2 : Scope := { kind := .function, names := [(Str.ofString ".0", .local), (Str.ofString "member", .local), (Str.ofString "is_member", .globalImplicit), (Str.ofString "people", .free)], isGenerator := false, isCoroutine := false, more := [] }
abbrev nm_is_members : List Str := ["thing", "people", "member", "group"]
theorem sc_is_members : FnScope nm_is_members ["thing", "people"] scp_is_members := ⟨rfl, rfl, rfl, by decide +kernel, rfl, by decide +kernel, by decide +kernel⟩
abbrev s_comes_to_top : Stmt := topS 19
abbrev scp_comes_to_top : Scope := { kind := .function, names := [(Str.ofString "parents", .local), (Str.ofString "folder", .local), (Str.ofString "at", .local), (Str.ofString "_", .local)], isGenerator := false, isCoroutine := false, more := [] }
abbrev nm_comes_to_top : List Str := ["parents", "folder", "at", "_"]
theorem sc_comes_to_top : FnScope nm_comes_to_top ["parents", "folder"] scp_comes_to_top := ⟨rfl, rfl, rfl, by decide +kernel, rfl, by decide +kernel, by decide +kernel⟩
abbrev s_is_parents : Stmt := topS 20
abbrev scp_is_parents : Scope := { kind := .function, names := [(Str.ofString "thing", .cell), (Str.ofString "folders", .cell), (Str.ofString "isinstance", .globalImplicit), (Str.ofString "tuple", .globalImplicit), (Str.ofString "len", .globalImplicit), (Str.ofString "MOST_PARENTS", .globalImplicit), (Str.ofString "all", .globalImplicit), (Str.ofString "range", .globalImplicit)], isGenerator := false, isCoroutine := false, more := [(Str.ofString "fast", .str "thing"), (Str.ofString "fast", .str "folders"), (Str.ofString "fast", .str "parent"), (Str.ofString "fast", .str "folder")] }
abbrev scq_is_parents_1 : Scope := { kind := .function, names := [(Str.ofString ".0", .local), (Str.ofString "folder", .local), (Str.ofString "_comes_to_top", .globalImplicit), (Str.ofString "thing", .free)], isGenerator := false, isCoroutine := false, more := [] }
abbrev scq_is_parents_2 : Scope := { kind := .function, names := [(Str.ofString ".0", .local), (Str.ofString "parent", .local), (Str.ofString "is_number", .globalImplicit), (Str.ofString "folders", .free)], isGenerator := false, isCoroutine := false, more := [] }
abbrev nm_is_parents : List Str := ["thing", "folders", "folder", "parent"]
theorem sc_is_parents : FnScope nm_is_parents ["thing"] scp_is_parents := ⟨rfl, rfl, rfl, by decide +kernel, rfl, by decide +kernel, by decide +kernel⟩
abbrev s_is_shut : Stmt := topS 21
abbrev scp_is_shut : Scope := { kind := .function, names := [(Str.ofString "thing", .local), (Str.ofString "folders", .local), (Str.ofString "is_row", .globalImplicit), (Str.ofString "all", .globalImplicit)], isGenerator := false, isCoroutine := false, more := [(Str.ofString "fast", .str "thing"), (Str.ofString "fast", .str "folders"), (Str.ofString "fast", .str "flag")] }
abbrev scq_is_shut_1 : Scope := { kind := .function, names := [(Str.ofString ".0", .local), (Str.ofString "flag", .local), (Str.ofString "isinstance", .globalImplicit), (Str.ofString "bool", .globalImplicit)], isGenerator := false, isCoroutine := false, more := [] }
abbrev nm_is_shut : List Str := ["thing", "folders", "flag"]
theorem sc_is_shut : FnScope nm_is_shut ["thing", "folders"] scp_is_shut := ⟨rfl, rfl, rfl, by decide +kernel, rfl, by decide +kernel, by decide +kernel⟩
abbrev s_fit_together : Stmt := topS 28
abbrev scp_fit_together : Scope := { kind := .function, names := [(Str.ofString "people", .local), (Str.ofString "parents", .local), (Str.ofString "shut", .local), (Str.ofString "entries", .local), (Str.ofString "members", .local), (Str.ofString "folders", .local), (Str.ofString "is_parents", .globalImplicit), (Str.ofString "len", .globalImplicit), (Str.ofString "is_shut", .globalImplicit), (Str.ofString "is_entries", .globalImplicit), (Str.ofString "is_members", .globalImplicit)], isGenerator := false, isCoroutine := false, more := [] }
abbrev nm_fit_together : List Str := ["people", "parents", "shut", "entries", "members", "folders"]
theorem sc_fit_together : FnScope nm_fit_together ["people", "parents", "shut", "entries", "members"] scp_fit_together := ⟨rfl, rfl, rfl, by decide +kernel, rfl, by decide +kernel, by decide +kernel⟩
abbrev s_is_house : Stmt := topS 37
abbrev scp_is_house : Scope := { kind := .function, names := [(Str.ofString "thing", .local), (Str.ofString "people", .local), (Str.ofString "parents", .local), (Str.ofString "shut", .local), (Str.ofString "entries", .local), (Str.ofString "members", .local), (Str.ofString "is_row", .globalImplicit), (Str.ofString "is_integer", .globalImplicit), (Str.ofString "MOST_PEOPLE", .globalImplicit), (Str.ofString "fit_together", .globalImplicit)], isGenerator := false, isCoroutine := false, more := [] }
abbrev nm_is_house : List Str := ["thing", "people", "parents", "shut", "entries", "members"]
theorem sc_is_house : FnScope nm_is_house ["thing"] scp_is_house := ⟨rfl, rfl, rfl, by decide +kernel, rfl, by decide +kernel, by decide +kernel⟩
abbrev s_need_house : Stmt := topS 40
abbrev scp_need_house : Scope := { kind := .function, names := [(Str.ofString "house", .local), (Str.ofString "is_house", .globalImplicit), (Str.ofString "BadHouse", .globalImplicit)], isGenerator := false, isCoroutine := false, more := [] }
abbrev nm_need_house : List Str := ["house"]
theorem sc_need_house : FnScope nm_need_house ["house"] scp_need_house := ⟨rfl, rfl, rfl, by decide +kernel, rfl, by decide +kernel, by decide +kernel⟩
abbrev s_is_rule : Stmt := topS 38
abbrev scp_is_rule : Scope := { kind := .function, names := [(Str.ofString "thing", .local), (Str.ofString "first", .local), (Str.ofString "moving", .local), (Str.ofString "known", .local), (Str.ofString "deep", .local), (Str.ofString "is_row", .globalImplicit), (Str.ofString "is_word", .globalImplicit), (Str.ofString "isinstance", .globalImplicit), (Str.ofString "bool", .globalImplicit)], isGenerator := false, isCoroutine := false, more := [] }
abbrev nm_is_rule : List Str := ["thing", "first", "moving", "known", "deep"]
theorem sc_is_rule : FnScope nm_is_rule ["thing"] scp_is_rule := ⟨rfl, rfl, rfl, by decide +kernel, rfl, by decide +kernel, by decide +kernel⟩
abbrev s_need_rule : Stmt := topS 41
abbrev scp_need_rule : Scope := { kind := .function, names := [(Str.ofString "rule", .local), (Str.ofString "is_rule", .globalImplicit), (Str.ofString "BadRule", .globalImplicit)], isGenerator := false, isCoroutine := false, more := [] }
abbrev nm_need_rule : List Str := ["rule"]
theorem sc_need_rule : FnScope nm_need_rule ["rule"] scp_need_rule := ⟨rfl, rfl, rfl, by decide +kernel, rfl, by decide +kernel, by decide +kernel⟩
abbrev s_is_groups : Stmt := topS 26
abbrev scp_is_groups : Scope := { kind := .function, names := [(Str.ofString "thing", .local), (Str.ofString "isinstance", .globalImplicit), (Str.ofString "tuple", .globalImplicit), (Str.ofString "all", .globalImplicit), (Str.ofString "ascends", .globalImplicit)], isGenerator := false, isCoroutine := false, more := [(Str.ofString "fast", .str "thing"), (Str.ofString "fast", .str "group")] }
abbrev scq_is_groups_1 : Scope := { kind := .function, names := [(Str.ofString ".0", .local), (Str.ofString "group", .local), (Str.ofString "is_number", .globalImplicit), (Str.ofString "GROUPS", .globalImplicit)], isGenerator := false, isCoroutine := false, more := [] }
abbrev nm_is_groups : List Str := ["thing", "group"]
theorem sc_is_groups : FnScope nm_is_groups ["thing"] scp_is_groups := ⟨rfl, rfl, rfl, by decide +kernel, rfl, by decide +kernel, by decide +kernel⟩
abbrev s_is_logins : Stmt := topS 27
abbrev scp_is_logins : Scope := { kind := .function, names := [(Str.ofString "thing", .local), (Str.ofString "people", .local), (Str.ofString "is_row", .globalImplicit), (Str.ofString "all", .globalImplicit)], isGenerator := false, isCoroutine := false, more := [(Str.ofString "fast", .str "thing"), (Str.ofString "fast", .str "people"), (Str.ofString "fast", .str "groups")] }
abbrev scq_is_logins_1 : Scope := { kind := .function, names := [(Str.ofString ".0", .local), (Str.ofString "groups", .local), (Str.ofString "is_groups", .globalImplicit)], isGenerator := false, isCoroutine := false, more := [] }
abbrev nm_is_logins : List Str := ["thing", "people", "groups"]
theorem sc_is_logins : FnScope nm_is_logins ["thing", "people"] scp_is_logins := ⟨rfl, rfl, rfl, by decide +kernel, rfl, by decide +kernel, by decide +kernel⟩
abbrev s_is_state : Stmt := topS 39
abbrev scp_is_state : Scope := { kind := .function, names := [(Str.ofString "house", .local), (Str.ofString "thing", .local), (Str.ofString "parents", .local), (Str.ofString "shut", .local), (Str.ofString "entries", .local), (Str.ofString "members", .local), (Str.ofString "logins", .local), (Str.ofString "is_row", .globalImplicit), (Str.ofString "len", .globalImplicit), (Str.ofString "fit_together", .globalImplicit), (Str.ofString "is_logins", .globalImplicit)], isGenerator := false, isCoroutine := false, more := [] }
abbrev nm_is_state : List Str := ["house", "thing", "parents", "shut", "entries", "members", "logins"]
theorem sc_is_state : FnScope nm_is_state ["house", "thing"] scp_is_state := ⟨rfl, rfl, rfl, by decide +kernel, rfl, by decide +kernel, by decide +kernel⟩
abbrev s_need_state : Stmt := topS 42
abbrev scp_need_state : Scope := { kind := .function, names := [(Str.ofString "house", .local), (Str.ofString "state", .local), (Str.ofString "is_state", .globalImplicit), (Str.ofString "BadState", .globalImplicit)], isGenerator := false, isCoroutine := false, more := [] }
abbrev nm_need_state : List Str := ["house", "state"]
theorem sc_need_state : FnScope nm_need_state ["house", "state"] scp_need_state := ⟨rfl, rfl, rfl, by decide +kernel, rfl, by decide +kernel, by decide +kernel⟩
abbrev s_counted_groups : Stmt := topS 32
abbrev scp_counted_groups : Scope := { kind := .function, names := [(Str.ofString "rule", .local), (Str.ofString "state", .local), (Str.ofString "person", .local), (Str.ofString "_", .local), (Str.ofString "known", .local), (Str.ofString "deep", .local), (Str.ofString "groups_of", .globalImplicit)], isGenerator := false, isCoroutine := false, more := [] }
abbrev nm_counted_groups : List Str := ["rule", "state", "person", "_", "known", "deep"]
theorem sc_counted_groups : FnScope nm_counted_groups ["rule", "state", "person"] scp_counted_groups := ⟨rfl, rfl, rfl, by decide +kernel, rfl, by decide +kernel, by decide +kernel⟩
abbrev s_counts_for : Stmt := topS 33
abbrev scp_counts_for : Scope := { kind := .function, names := [(Str.ofString "who", .local), (Str.ofString "person", .local), (Str.ofString "groups", .local), (Str.ofString "kind", .local), (Str.ofString "number", .local)], isGenerator := false, isCoroutine := false, more := [] }
abbrev nm_counts_for : List Str := ["who", "person", "groups", "kind", "number"]
theorem sc_counts_for : FnScope nm_counts_for ["who", "person", "groups"] scp_counts_for := ⟨rfl, rfl, rfl, by decide +kernel, rfl, by decide +kernel, by decide +kernel⟩
abbrev s_line_up : Stmt := topS 30
abbrev scp_line_up : Scope := { kind := .function, names := [(Str.ofString "parents", .local), (Str.ofString "folder", .local), (Str.ofString "line", .local)], isGenerator := false, isCoroutine := false, more := [] }
abbrev nm_line_up : List Str := ["parents", "folder", "line"]
theorem sc_line_up : FnScope nm_line_up ["parents", "folder"] scp_line_up := ⟨rfl, rfl, rfl, by decide +kernel, rfl, by decide +kernel, by decide +kernel⟩
abbrev s_way_of : Stmt := topS 31
abbrev scp_way_of : Scope := { kind := .function, names := [(Str.ofString "parents", .local), (Str.ofString "shut", .local), (Str.ofString "folder", .local), (Str.ofString "way", .local), (Str.ofString "at", .local), (Str.ofString "line_up", .globalImplicit)], isGenerator := false, isCoroutine := false, more := [] }
abbrev nm_way_of : List Str := ["parents", "shut", "folder", "way", "at"]
theorem sc_way_of : FnScope nm_way_of ["parents", "shut", "folder"] scp_way_of := ⟨rfl, rfl, rfl, by decide +kernel, rfl, by decide +kernel, by decide +kernel⟩
abbrev s_deciding_entries : Stmt := topS 34
abbrev scp_deciding_entries : Scope := { kind := .function, names := [(Str.ofString "rule", .local), (Str.ofString "state", .local), (Str.ofString "person", .local), (Str.ofString "folder", .local), (Str.ofString "parents", .local), (Str.ofString "shut", .local), (Str.ofString "entries", .local), (Str.ofString "_", .local), (Str.ofString "groups", .local), (Str.ofString "deciding", .local), (Str.ofString "at", .local), (Str.ofString "place", .local), (Str.ofString "who", .local), (Str.ofString "kind", .local), (Str.ofString "counted_groups", .globalImplicit), (Str.ofString "way_of", .globalImplicit), (Str.ofString "counts_for", .globalImplicit)], isGenerator := false, isCoroutine := false, more := [] }
abbrev nm_deciding_entries : List Str := ["rule", "state", "person", "folder", "groups", "deciding", "at", "parents", "shut", "entries", "_", "place", "who", "kind"]
theorem sc_deciding_entries : FnScope nm_deciding_entries ["rule", "state", "person", "folder"] scp_deciding_entries := ⟨rfl, rfl, rfl, by decide +kernel, rfl, by decide +kernel, by decide +kernel⟩
abbrev s_person_sees : Stmt := topS 35
abbrev scp_person_sees : Scope := { kind := .function, names := [(Str.ofString "rule", .local), (Str.ofString "state", .local), (Str.ofString "person", .local), (Str.ofString "folder", .local), (Str.ofString "kinds", .local), (Str.ofString "deciding_entries", .globalImplicit)], isGenerator := false, isCoroutine := false, more := [(Str.ofString "fast", .str "rule"), (Str.ofString "fast", .str "state"), (Str.ofString "fast", .str "person"), (Str.ofString "fast", .str "folder"), (Str.ofString "fast", .str "_"), (Str.ofString "fast", .str "kind"), (Str.ofString "fast", .str "kinds")] }
abbrev scq_person_sees_1 : Scope := { kind := .function, names := [(Str.ofString ".0", .local), (Str.ofString "_", .local), (Str.ofString "kind", .local)], isGenerator := false, isCoroutine := false, more := [] }
abbrev nm_person_sees : List Str := ["rule", "state", "person", "folder", "kinds", "_", "kind"]
theorem sc_person_sees : FnScope nm_person_sees ["rule", "state", "person", "folder"] scp_person_sees := ⟨rfl, rfl, rfl, by decide +kernel, rfl, by decide +kernel, by decide +kernel⟩
abbrev s_all_sights : Stmt := topS 43
abbrev scp_all_sights : Scope := { kind := .function, names := [(Str.ofString "house", .cell), (Str.ofString "rule", .cell), (Str.ofString "state", .cell), (Str.ofString "spots", .local), (Str.ofString "need_house", .globalImplicit), (Str.ofString "need_rule", .globalImplicit), (Str.ofString "need_state", .globalImplicit), (Str.ofString "range", .globalImplicit)], isGenerator := false, isCoroutine := false, more := [(Str.ofString "fast", .str "house"), (Str.ofString "fast", .str "rule"), (Str.ofString "fast", .str "state"), (Str.ofString "fast", .str "person"), (Str.ofString "fast", .str "folder"), (Str.ofString "fast", .str "spots")] }
abbrev scq_all_sights_1 : Scope := { kind := .function, names := [(Str.ofString ".0", .local), (Str.ofString "person", .local), (Str.ofString "folder", .local), (Str.ofString "person_sees", .globalImplicit), (Str.ofString "rule", .free), (Str.ofString "state", .free)], isGenerator := false, isCoroutine := false, more := [] }
abbrev scq_all_sights_2 : Scope := { kind := .function, names := [(Str.ofString ".0", .local), (Str.ofString "person", .local), (Str.ofString "folder", .local), (Str.ofString "range", .globalImplicit), (Str.ofString "len", .globalImplicit), (Str.ofString "house", .free)], isGenerator := false, isCoroutine := false, more := [] }
abbrev nm_all_sights : List Str := ["house", "rule", "state", "spots", "person", "folder"]
theorem sc_all_sights : FnScope nm_all_sights ["house", "rule", "state"] scp_all_sights := ⟨rfl, rfl, rfl, by decide +kernel, rfl, by decide +kernel, by decide +kernel⟩
abbrev s_law_ascends : Stmt := topS 56
abbrev scp_law_ascends : Scope := { kind := .function, names := [(Str.ofString "_law_house_here", .cell), (Str.ofString "_law_rule_here", .cell), (Str.ofString "_law_states", .local), (Str.ofString "_law_sights", .local), (Str.ofString "_law_less", .local), (Str.ofString "_law_more", .cell), (Str.ofString "all", .globalImplicit)], isGenerator := false, isCoroutine := false, more := [(Str.ofString "fast", .str "_law_house_here"), (Str.ofString "fast", .str "_law_rule_here"), (Str.ofString "fast", .str "_law_states"), (Str.ofString "fast", .str "_law_state_here"), (Str.ofString "fast", .str "_law_sights"), (Str.ofString "fast", .str "_law_less"), (Str.ofString "fast", .str "_law_more"), (Str.ofString "fast", .str "_law_one")] }
abbrev scq_law_ascends_1 : Scope := { kind := .function, names := [(Str.ofString ".0", .local), (Str.ofString "_law_one", .local), (Str.ofString "_law_more", .free)], isGenerator := false, isCoroutine := false, more := [] }
abbrev scq_law_ascends_2 : Scope := { kind := .function, names := [(Str.ofString ".0", .local), (Str.ofString "_law_state_here", .local), (Str.ofString "all_sights", .globalImplicit), (Str.ofString "_law_house_here", .free), (Str.ofString "_law_rule_here", .free)], isGenerator := false, isCoroutine := false, more := [] }
abbrev nm_law_ascends : List Str := ["_law_house_here", "_law_rule_here", "_law_states", "_law_sights", "_law_less", "_law_more", "_law_state_here", "_law_one"]
theorem sc_law_ascends : FnScope nm_law_ascends ["_law_house_here", "_law_rule_here", "_law_states"] scp_law_ascends := ⟨rfl, rfl, rfl, by decide +kernel, rfl, by decide +kernel, by decide +kernel⟩
abbrev s_law_cell_at : Stmt := topS 45
abbrev scp_law_cell_at : Scope := { kind := .function, names := [(Str.ofString "_law_script", .local), (Str.ofString "_law_k", .local), (Str.ofString "len", .globalImplicit), (Str.ofString "int", .globalImplicit)], isGenerator := false, isCoroutine := false, more := [] }
abbrev nm_law_cell_at : List Str := ["_law_script", "_law_k"]
theorem sc_law_cell_at : FnScope nm_law_cell_at ["_law_script", "_law_k"] scp_law_cell_at := ⟨rfl, rfl, rfl, by decide +kernel, rfl, by decide +kernel, by decide +kernel⟩
abbrev s_law_draws : Stmt := topS 46
abbrev scp_law_draws : Scope := { kind := .function, names := [(Str.ofString "_law_cell", .local), (Str.ofString "_law_many", .local), (Str.ofString "_law_left", .local), (Str.ofString "_law_base", .local), (Str.ofString "_law_draws_here", .local), (Str.ofString "_law_k", .local), (Str.ofString "_law_mixed", .local), (Str.ofString "max", .globalImplicit), (Str.ofString "int", .globalImplicit), (Str.ofString "range", .globalImplicit)], isGenerator := false, isCoroutine := false, more := [] }
abbrev nm_law_draws : List Str := ["_law_cell", "_law_many", "_law_left", "_law_base", "_law_draws_here", "_law_k", "_law_mixed"]
theorem sc_law_draws : FnScope nm_law_draws ["_law_cell", "_law_many"] scp_law_draws := ⟨rfl, rfl, rfl, by decide +kernel, rfl, by decide +kernel, by decide +kernel⟩
abbrev s_law_groups : Stmt := topS 52
abbrev scp_law_groups : Scope := { kind := .function, names := [(Str.ofString "_law_members", .cell), (Str.ofString "_law_who_here", .cell), (Str.ofString "_law_deep", .local), (Str.ofString "_law_found", .cell), (Str.ofString "_law_k", .local), (Str.ofString "_law_inner", .cell), (Str.ofString "range", .globalImplicit)], isGenerator := false, isCoroutine := false, more := [(Str.ofString "fast", .str "_law_members"), (Str.ofString "fast", .str "_law_who_here"), (Str.ofString "fast", .str "_law_deep"), (Str.ofString "fast", .str "_law_group"), (Str.ofString "fast", .str "_law_found"), (Str.ofString "fast", .str "_law_k"), (Str.ofString "fast", .str "_law_inner"), (Str.ofString "fast", .str "_law_one")] }
abbrev scq_law_groups_1 : Scope := { kind := .function, names := [(Str.ofString ".0", .local), (Str.ofString "_law_group", .cell), (Str.ofString "any", .globalImplicit), (Str.ofString "_law_found", .free), (Str.ofString "_law_inner", .free), (Str.ofString "_law_members", .free)], isGenerator := false, isCoroutine := false, more := [] }
abbrev scq_law_groups_2 : Scope := { kind := .function, names := [(Str.ofString ".0", .local), (Str.ofString "_law_one", .local), (Str.ofString "_law_group", .free), (Str.ofString "_law_members", .free)], isGenerator := false, isCoroutine := false, more := [] }
abbrev scq_law_groups_3 : Scope := { kind := .function, names := [(Str.ofString ".0", .local), (Str.ofString "_law_group", .local)], isGenerator := false, isCoroutine := false, more := [] }
abbrev scq_law_groups_4 : Scope := { kind := .function, names := [(Str.ofString ".0", .local), (Str.ofString "_law_group", .local), (Str.ofString "_law_members", .free), (Str.ofString "_law_who_here", .free)], isGenerator := false, isCoroutine := false, more := [] }
abbrev nm_law_groups : List Str := ["_law_members", "_law_who_here", "_law_deep", "_law_found", "_law_k", "_law_inner", "_law_group", "_law_one"]
theorem sc_law_groups : FnScope nm_law_groups ["_law_members", "_law_who_here", "_law_deep"] scp_law_groups := ⟨rfl, rfl, rfl, by decide +kernel, rfl, by decide +kernel, by decide +kernel⟩
abbrev s_law_counts : Stmt := topS 54
abbrev scp_law_counts : Scope := { kind := .function, names := [(Str.ofString "_law_rule_here", .local), (Str.ofString "_law_state_here", .local), (Str.ofString "_law_person", .local), (Str.ofString "_law_who_here", .local), (Str.ofString "_law_groups_here", .local), (Str.ofString "list", .globalImplicit), (Str.ofString "_law_groups", .globalImplicit)], isGenerator := false, isCoroutine := false, more := [] }
abbrev nm_law_counts : List Str := ["_law_rule_here", "_law_state_here", "_law_person", "_law_who_here", "_law_groups_here"]
theorem sc_law_counts : FnScope nm_law_counts ["_law_rule_here", "_law_state_here", "_law_person", "_law_who_here"] scp_law_counts := ⟨rfl, rfl, rfl, by decide +kernel, rfl, by decide +kernel, by decide +kernel⟩
abbrev s_law_way : Stmt := topS 53
abbrev scp_law_way : Scope := { kind := .function, names := [(Str.ofString "_law_state_here", .local), (Str.ofString "_law_folder", .local), (Str.ofString "_law_way_here", .local), (Str.ofString "_law_k", .local), (Str.ofString "range", .globalImplicit), (Str.ofString "len", .globalImplicit)], isGenerator := false, isCoroutine := false, more := [] }
abbrev nm_law_way : List Str := ["_law_state_here", "_law_folder", "_law_way_here", "_law_k"]
theorem sc_law_way : FnScope nm_law_way ["_law_state_here", "_law_folder"] scp_law_way := ⟨rfl, rfl, rfl, by decide +kernel, rfl, by decide +kernel, by decide +kernel⟩
abbrev s_law_elsewhere : Stmt := topS 57
abbrev scp_law_elsewhere : Scope := { kind := .function, names := [(Str.ofString "_law_house_here", .cell), (Str.ofString "_law_rule_here", .cell), (Str.ofString "_law_states", .local), (Str.ofString "_law_folder", .local), (Str.ofString "_law_who_here", .local), (Str.ofString "_law_sights", .local), (Str.ofString "_law_person", .cell), (Str.ofString "_law_place", .cell), (Str.ofString "range", .globalImplicit), (Str.ofString "len", .globalImplicit), (Str.ofString "_law_counts", .globalImplicit), (Str.ofString "_law_way", .globalImplicit), (Str.ofString "set", .globalImplicit)], isGenerator := false, isCoroutine := false, more := [(Str.ofString "fast", .str "_law_house_here"), (Str.ofString "fast", .str "_law_rule_here"), (Str.ofString "fast", .str "_law_states"), (Str.ofString "fast", .str "_law_folder"), (Str.ofString "fast", .str "_law_who_here"), (Str.ofString "fast", .str "_law_state_here"), (Str.ofString "fast", .str "_law_sights"), (Str.ofString "fast", .str "_law_person"), (Str.ofString "fast", .str "_law_place"), (Str.ofString "fast", .str "_law_seen")] }
abbrev scq_law_elsewhere_1 : Scope := { kind := .function, names := [(Str.ofString ".0", .local), (Str.ofString "_law_seen", .local), (Str.ofString "_law_person", .free), (Str.ofString "_law_place", .free)], isGenerator := false, isCoroutine := false, more := [] }
abbrev scq_law_elsewhere_2 : Scope := { kind := .function, names := [(Str.ofString ".0", .local), (Str.ofString "_law_state_here", .local), (Str.ofString "all_sights", .globalImplicit), (Str.ofString "_law_house_here", .free), (Str.ofString "_law_rule_here", .free)], isGenerator := false, isCoroutine := false, more := [] }
abbrev nm_law_elsewhere : List Str := ["_law_house_here", "_law_rule_here", "_law_states", "_law_folder", "_law_who_here", "_law_sights", "_law_person", "_law_place", "_law_state_here", "_law_seen"]
theorem sc_law_elsewhere : FnScope nm_law_elsewhere ["_law_house_here", "_law_rule_here", "_law_states", "_law_folder", "_law_who_here"] scp_law_elsewhere := ⟨rfl, rfl, rfl, by decide +kernel, rfl, by decide +kernel, by decide +kernel⟩
abbrev s_law_who : Stmt := topS 47
abbrev scp_law_who : Scope := { kind := .function, names := [(Str.ofString "_law_draw", .local), (Str.ofString "_law_people", .local), (Str.ofString "_law_number", .local), (Str.ofString "int", .globalImplicit)], isGenerator := false, isCoroutine := false, more := [] }
abbrev nm_law_who : List Str := ["_law_draw", "_law_people", "_law_number"]
theorem sc_law_who : FnScope nm_law_who ["_law_draw", "_law_people"] scp_law_who := ⟨rfl, rfl, rfl, by decide +kernel, rfl, by decide +kernel, by decide +kernel⟩
abbrev s_law_body : Stmt := topS 48
abbrev scp_law_body : Scope := { kind := .function, names := [(Str.ofString "_law_draws_here", .cell), (Str.ofString "_law_people", .local), (Str.ofString "_law_count", .local), (Str.ofString "_law_names", .local), (Str.ofString "_law_parents", .local), (Str.ofString "_law_inside", .local), (Str.ofString "_law_k", .local), (Str.ofString "_law_folder", .local), (Str.ofString "_law_shut", .local), (Str.ofString "_law_kinds", .cell), (Str.ofString "_law_draw", .local), (Str.ofString "_law_entries", .local), (Str.ofString "_law_line", .local), (Str.ofString "_law_links", .cell), (Str.ofString "_law_members", .local), (Str.ofString "_law_person", .cell), (Str.ofString "_law_some", .cell), (Str.ofString "list", .globalImplicit), (Str.ofString "range", .globalImplicit), (Str.ofString "int", .globalImplicit), (Str.ofString "len", .globalImplicit), (Str.ofString "_law_who", .globalImplicit), (Str.ofString "tuple", .globalImplicit), (Str.ofString "sorted", .globalImplicit)], isGenerator := false, isCoroutine := false, more := [(Str.ofString "fast", .str "_law_draws_here"), (Str.ofString "fast", .str "_law_people"), (Str.ofString "fast", .str "_law_count"), (Str.ofString "fast", .str "_law_names"), (Str.ofString "fast", .str "_law_parents"), (Str.ofString "fast", .str "_law_inside"), (Str.ofString "fast", .str "_law_k"), (Str.ofString "fast", .str "_law_folder"), (Str.ofString "fast", .str "_law_shut"), (Str.ofString "fast", .str "_law_kinds"), (Str.ofString "fast", .str "_law_draw"), (Str.ofString "fast", .str "_law_spot"), (Str.ofString "fast", .str "_law_entries"), (Str.ofString "fast", .str "_law_line"), (Str.ofString "fast", .str "_law_links"), (Str.ofString "fast", .str "_law_members"), (Str.ofString "fast", .str "_law_person"), (Str.ofString "fast", .str "_law_some"), (Str.ofString "fast", .str "_law_group")] }
abbrev scq_law_body_1 : Scope := { kind := .function, names := [(Str.ofString ".0", .local), (Str.ofString "_law_group", .local), (Str.ofString "int", .globalImplicit), (Str.ofString "_law_person", .free), (Str.ofString "_law_some", .free)], isGenerator := false, isCoroutine := false, more := [] }
abbrev scq_law_body_2 : Scope := { kind := .function, names := [(Str.ofString ".0", .local), (Str.ofString "_law_k", .local), (Str.ofString "int", .globalImplicit), (Str.ofString "_law_draws_here", .free), (Str.ofString "_law_links", .free)], isGenerator := false, isCoroutine := false, more := [] }
abbrev scq_law_body_3 : Scope := { kind := .function, names := [(Str.ofString ".0", .local), (Str.ofString "_law_spot", .local), (Str.ofString "_law_kinds", .free)], isGenerator := false, isCoroutine := false, more := [] }
abbrev scq_law_body_4 : Scope := { kind := .function, names := [(Str.ofString ".0", .local), (Str.ofString "_law_k", .local), (Str.ofString "int", .globalImplicit), (Str.ofString "_law_draws_here", .free)], isGenerator := false, isCoroutine := false, more := [] }
abbrev nm_law_body : List Str := ["_law_draws_here", "_law_people", "_law_count", "_law_names", "_law_parents", "_law_inside", "_law_k", "_law_shut", "_law_kinds", "_law_entries", "_law_line", "_law_links", "_law_members", "_law_person", "_law_folder", "_law_draw", "_law_some", "_law_spot", "_law_group"]
theorem sc_law_body : FnScope nm_law_body ["_law_draws_here", "_law_people", "_law_count"] scp_law_body := ⟨rfl, rfl, rfl, by decide +kernel, rfl, by decide +kernel, by decide +kernel⟩
abbrev s_law_house : Stmt := topS 50
abbrev scp_law_house : Scope := { kind := .function, names := [(Str.ofString "_law_cell", .local), (Str.ofString "_law_draws_here", .local), (Str.ofString "_law_people", .local), (Str.ofString "_law_draws", .globalImplicit), (Str.ofString "int", .globalImplicit), (Str.ofString "_law_body", .globalImplicit)], isGenerator := false, isCoroutine := false, more := [] }
abbrev nm_law_house : List Str := ["_law_cell", "_law_draws_here", "_law_people"]
theorem sc_law_house : FnScope nm_law_house ["_law_cell"] scp_law_house := ⟨rfl, rfl, rfl, by decide +kernel, rfl, by decide +kernel, by decide +kernel⟩
abbrev s_law_rule : Stmt := topS 49
abbrev scp_law_rule : Scope := { kind := .function, names := [(Str.ofString "_law_draw", .local), (Str.ofString "_law_first", .local), (Str.ofString "int", .globalImplicit)], isGenerator := false, isCoroutine := false, more := [] }
abbrev nm_law_rule : List Str := ["_law_draw", "_law_first"]
theorem sc_law_rule : FnScope nm_law_rule ["_law_draw"] scp_law_rule := ⟨rfl, rfl, rfl, by decide +kernel, rfl, by decide +kernel, by decide +kernel⟩
abbrev s_law_state : Stmt := topS 51
abbrev scp_law_state : Scope := { kind := .function, names := [(Str.ofString "_law_cell", .local), (Str.ofString "_law_people", .local), (Str.ofString "_law_count", .local), (Str.ofString "_law_draws_here", .local), (Str.ofString "_law_logins", .local), (Str.ofString "_law_person", .local), (Str.ofString "_law_some", .cell), (Str.ofString "_law_draws", .globalImplicit), (Str.ofString "range", .globalImplicit), (Str.ofString "tuple", .globalImplicit), (Str.ofString "_law_body", .globalImplicit)], isGenerator := false, isCoroutine := false, more := [(Str.ofString "fast", .str "_law_cell"), (Str.ofString "fast", .str "_law_people"), (Str.ofString "fast", .str "_law_count"), (Str.ofString "fast", .str "_law_draws_here"), (Str.ofString "fast", .str "_law_logins"), (Str.ofString "fast", .str "_law_person"), (Str.ofString "fast", .str "_law_some"), (Str.ofString "fast", .str "_law_group")] }
abbrev scq_law_state_1 : Scope := { kind := .function, names := [(Str.ofString ".0", .local), (Str.ofString "_law_group", .local), (Str.ofString "int", .globalImplicit), (Str.ofString "_law_some", .free)], isGenerator := false, isCoroutine := false, more := [] }
abbrev nm_law_state : List Str := ["_law_cell", "_law_people", "_law_count", "_law_draws_here", "_law_logins", "_law_person", "_law_some", "_law_group"]
theorem sc_law_state : FnScope nm_law_state ["_law_cell", "_law_people", "_law_count"] scp_law_state := ⟨rfl, rfl, rfl, by decide +kernel, rfl, by decide +kernel, by decide +kernel⟩
abbrev s_law_with : Stmt := topS 55
abbrev scp_law_with : Scope := { kind := .function, names := [(Str.ofString "_law_state_here", .local), (Str.ofString "_law_entries", .local), (Str.ofString "tuple", .globalImplicit), (Str.ofString "sorted", .globalImplicit)], isGenerator := false, isCoroutine := false, more := [] }
abbrev nm_law_with : List Str := ["_law_state_here", "_law_entries"]
theorem sc_law_with : FnScope nm_law_with ["_law_state_here", "_law_entries"] scp_law_with := ⟨rfl, rfl, rfl, by decide +kernel, rfl, by decide +kernel, by decide +kernel⟩
abbrev s_law : Stmt := topS 58
abbrev scp_law : Scope := { kind := .function, names := [(Str.ofString "_law_script", .local), (Str.ofString "_law_house_here", .local), (Str.ofString "_law_state_here", .local), (Str.ofString "_law_draws_here", .local), (Str.ofString "_law_rule_here", .local), (Str.ofString "_law_folder", .cell), (Str.ofString "_law_who_here", .cell), (Str.ofString "_law_rest", .local), (Str.ofString "_law_states", .local), (Str.ofString "_law_one", .cell), (Str.ofString "_law_near", .cell), (Str.ofString "_law_spots", .cell), (Str.ofString "_law_house", .globalImplicit), (Str.ofString "_law_cell_at", .globalImplicit), (Str.ofString "_law_state", .globalImplicit), (Str.ofString "len", .globalImplicit), (Str.ofString "_law_draws", .globalImplicit), (Str.ofString "_law_rule", .globalImplicit), (Str.ofString "int", .globalImplicit), (Str.ofString "_law_who", .globalImplicit), (Str.ofString "_law_with", .globalImplicit), (Str.ofString "_law_ascends", .globalImplicit), (Str.ofString "_law_elsewhere", .globalImplicit), (Str.ofString "all_sights", .globalImplicit), (Str.ofString "all", .globalImplicit)], isGenerator := false, isCoroutine := false, more := [(Str.ofString "fast", .str "_law_script"), (Str.ofString "fast", .str "_law_house_here"), (Str.ofString "fast", .str "_law_state_here"), (Str.ofString "fast", .str "_law_draws_here"), (Str.ofString "fast", .str "_law_rule_here"), (Str.ofString "fast", .str "_law_folder"), (Str.ofString "fast", .str "_law_who_here"), (Str.ofString "fast", .str "_law_row"), (Str.ofString "fast", .str "_law_rest"), (Str.ofString "fast", .str "_law_states"), (Str.ofString "fast", .str "_law_one"), (Str.ofString "fast", .str "_law_near"), (Str.ofString "fast", .str "_law_sight"), (Str.ofString "fast", .str "_law_spots"), (Str.ofString "fast", .str "_law_place")] }
abbrev scq_law_1 : Scope := { kind := .function, names := [(Str.ofString ".0", .local), (Str.ofString "_law_sight", .local), (Str.ofString "any", .globalImplicit), (Str.ofString "_law_way", .globalImplicit), (Str.ofString "_law_one", .free), (Str.ofString "_law_spots", .free)], isGenerator := false, isCoroutine := false, more := [] }
abbrev scq_law_2 : Scope := { kind := .function, names := [(Str.ofString ".0", .local), (Str.ofString "_law_place", .local), (Str.ofString "_law_spots", .free)], isGenerator := false, isCoroutine := false, more := [] }
abbrev scq_law_3 : Scope := { kind := .function, names := [(Str.ofString ".0", .local), (Str.ofString "_law_row", .local)], isGenerator := false, isCoroutine := false, more := [] }
abbrev scq_law_4 : Scope := { kind := .function, names := [(Str.ofString ".0", .local), (Str.ofString "_law_sight", .local), (Str.ofString "_law_near", .free)], isGenerator := false, isCoroutine := false, more := [] }
abbrev scq_law_5 : Scope := { kind := .function, names := [(Str.ofString ".0", .local), (Str.ofString "_law_row", .local), (Str.ofString "_law_folder", .free), (Str.ofString "_law_who_here", .free)], isGenerator := false, isCoroutine := false, more := [] }
abbrev nm_law : List Str := ["_law_script", "_law_house_here", "_law_state_here", "_law_draws_here", "_law_rule_here", "_law_folder", "_law_who_here", "_law_rest", "_law_states", "_law_one", "_law_near", "_law_spots", "_law_row", "_law_sight", "_law_place"]
theorem sc_law : FnScope nm_law ["_law_script"] scp_law := ⟨rfl, rfl, rfl, by decide +kernel, rfl, by decide +kernel, by decide +kernel⟩
/-- what the top has left -/
structure Top (K : PySem.W.Frag) (mg : Str → Option Value) (w : World) where
  t_GROUPS : Tok
  a_KINDS : Addr
  t_MOST_ENTRIES : Tok
  t_MOST_PARENTS : Tok
  t_MOST_PEOPLE : Tok
  ascends : FnI K mg "ascends" s_ascends ["things"]
  is_integer : FnI K mg "is_integer" s_is_integer ["thing", "least", "most"]
  is_number : FnI K mg "is_number" s_is_number ["thing", "many"]
  is_row : FnI K mg "is_row" s_is_row ["thing", "length"]
  is_word : FnI K mg "is_word" s_is_word ["thing", "words"]
  is_who : FnI K mg "is_who" s_is_who ["thing", "people"]
  is_entry : FnI K mg "is_entry" s_is_entry ["thing", "people", "folders"]
  is_entries : FnI K mg "is_entries" s_is_entries ["thing", "people", "folders"]
  groups_of : FnI K mg "groups_of" s_groups_of ["members", "who", "deep"]
  is_member : FnI K mg "is_member" s_is_member ["thing", "people"]
  is_members : FnI K mg "is_members" s_is_members ["thing", "people"]
  comes_to_top : FnI K mg "_comes_to_top" s_comes_to_top ["parents", "folder"]
  is_parents : FnI K mg "is_parents" s_is_parents ["thing"]
  is_shut : FnI K mg "is_shut" s_is_shut ["thing", "folders"]
  fit_together : FnI K mg "fit_together" s_fit_together ["people", "parents", "shut", "entries", "members"]
  is_house : FnI K mg "is_house" s_is_house ["thing"]
  need_house : FnI K mg "need_house" s_need_house ["house"]
  is_rule : FnI K mg "is_rule" s_is_rule ["thing"]
  need_rule : FnI K mg "need_rule" s_need_rule ["rule"]
  is_groups : FnI K mg "is_groups" s_is_groups ["thing"]
  is_logins : FnI K mg "is_logins" s_is_logins ["thing", "people"]
  is_state : FnI K mg "is_state" s_is_state ["house", "thing"]
  need_state : FnI K mg "need_state" s_need_state ["house", "state"]
  counted_groups : FnI K mg "counted_groups" s_counted_groups ["rule", "state", "person"]
  counts_for : FnI K mg "counts_for" s_counts_for ["who", "person", "groups"]
  line_up : FnI K mg "line_up" s_line_up ["parents", "folder"]
  way_of : FnI K mg "way_of" s_way_of ["parents", "shut", "folder"]
  deciding_entries : FnI K mg "deciding_entries" s_deciding_entries ["rule", "state", "person", "folder"]
  person_sees : FnI K mg "person_sees" s_person_sees ["rule", "state", "person", "folder"]
  all_sights : FnI K mg "all_sights" s_all_sights ["house", "rule", "state"]
  law_ascends : FnI K mg "_law_ascends" s_law_ascends ["_law_house_here", "_law_rule_here", "_law_states"]
  law_cell_at : FnI K mg "_law_cell_at" s_law_cell_at ["_law_script", "_law_k"]
  law_draws : FnI K mg "_law_draws" s_law_draws ["_law_cell", "_law_many"]
  law_groups : FnI K mg "_law_groups" s_law_groups ["_law_members", "_law_who_here", "_law_deep"]
  law_counts : FnI K mg "_law_counts" s_law_counts ["_law_rule_here", "_law_state_here", "_law_person", "_law_who_here"]
  law_way : FnI K mg "_law_way" s_law_way ["_law_state_here", "_law_folder"]
  law_elsewhere : FnI K mg "_law_elsewhere" s_law_elsewhere ["_law_house_here", "_law_rule_here", "_law_states", "_law_folder", "_law_who_here"]
  law_who : FnI K mg "_law_who" s_law_who ["_law_draw", "_law_people"]
  law_body : FnI K mg "_law_body" s_law_body ["_law_draws_here", "_law_people", "_law_count"]
  law_house : FnI K mg "_law_house" s_law_house ["_law_cell"]
  law_rule : FnI K mg "_law_rule" s_law_rule ["_law_draw"]
  law_state : FnI K mg "_law_state" s_law_state ["_law_cell", "_law_people", "_law_count"]
  law_with : FnI K mg "_law_with" s_law_with ["_law_state_here", "_law_entries"]
  law : FnI K mg "law" s_law ["_law_script"]
  m_GROUPS : mg "GROUPS" = some (.int (3) t_GROUPS)
  m_KINDS : mg "KINDS" = some (.ref a_KINDS)
  r_KINDS : ∀ H, R K H c_KINDS (.ref a_KINDS)
  m_MOST_ENTRIES : mg "MOST_ENTRIES" = some (.int (12) t_MOST_ENTRIES)
  m_MOST_PARENTS : mg "MOST_PARENTS" = some (.int (5) t_MOST_PARENTS)
  m_MOST_PEOPLE : mg "MOST_PEOPLE" = some (.int (4) t_MOST_PEOPLE)
  z_all : mg "all" = none
  z_any : mg "any" = none
  z_bool : mg "bool" = none
  z_int : mg "int" = none
  z_isinstance : mg "isinstance" = none
  z_len : mg "len" = none
  z_list : mg "list" = none
  z_max : mg "max" = none
  z_range : mg "range" = none
  z_set : mg "set" = none
  z_sorted : mg "sorted" = none
  z_str : mg "str" = none
  z_tuple : mg "tuple" = none
section
variable {P : Program} {w : World} {K : PySem.W.Frag} {mg : Str → Option Value} {base : Heap}
theorem ok_ascends (T : Top K mg w) : FnOk P w K mg base CX0 1 T.ascends.a T.ascends.d ["things"] (spP K 1 G_ascends) :=
  fn_rule' (body := b_ascends) (G := G_ascends) (N := nm_ascends) (sc := scp_ascends) (n := 1) (m := 2) (k := 0) T.ascends rfl sc_ascends (by decide) rfl rfl rfl fun cdv A outer s H E F hr hF =>
    (s_cons (s_ret (p_callB (c_all rfl) (by rfl) T.z_all (by decide +kernel) (pa_c (p_new (n_comp (own := [("at", 1)]) (t := (.one 1)) (cond := noIf) (elt := ascends_e1) rfl sc_ascends.nd (i_j (i_range2 (by rfl) T.z_range (pa_c p_int (pa_c (p_callB c_len (by rfl) T.z_len PySem.boot_len (pa_c (p_var 0 (pv 0)) pa_n)) pa_n)))) (blkOk_by (N := nm_ascends) (sc := scp_ascends) (by decide +kernel)) (by decide) (fun F _ _ _ _ _ => (g_one (pg_name (i := 1) sc_ascends.nd rfl (by first | exact Or.inl rfl | exact Or.inr rfl)))) (fun _ _ _ _ _ => pts_no) (fun F _ _ _ _ _ => (p_cmp (o_lt hr.units) (p_ix (p_var 0 (pv 0)) (p_op o_sub (p_var 1 (pv 1)) p_int)) (p_ix (p_var 0 (pv 0)) (p_var 1 (pv 1))) (nomark _))))) pa_n)))
      s_nil)
theorem ok_is_integer (T : Top K mg w) : FnOk P w K mg base CX0 1 T.is_integer.a T.is_integer.d ["thing", "least", "most"] (spP K 3 G_is_integer) :=
  fn_rule' (body := b_is_integer) (G := G_is_integer) (N := nm_is_integer) (sc := scp_is_integer) (n := 3) (m := 3) (k := 0) T.is_integer rfl sc_is_integer (by decide) rfl rfl rfl fun cdv A outer s H E F hr hF =>
    (s_cons (s_ret (p_and (p_isi (T := "int") (p_var 0 (pv 0)) (by decide) (by rfl) T.z_isinstance (by rfl) T.z_int (by decide +kernel)) (p_and (p_not (p_isi (T := "bool") (p_var 0 (pv 0)) (by decide) (by rfl) T.z_isinstance (by rfl) T.z_bool (by decide +kernel))) (p_one (p_chain o_le o_le (p_var 1 (pv 1)) (p_var 0 (pv 0)) (p_var 2 (pv 2)))))))
      s_nil)
theorem ok_is_number (T : Top K mg w) : FnOk P w K mg base CX0 2 T.is_number.a T.is_number.d ["thing", "many"] (spP K 2 G_is_number) :=
  fn_rule' (body := b_is_number) (G := G_is_number) (N := nm_is_number) (sc := scp_is_number) (n := 2) (m := 2) (k := 1) T.is_number rfl sc_is_number (by decide) rfl rfl rfl fun cdv A outer s H E F hr hF =>
    (s_cons (s_ret (e_callI T.is_integer (ok_is_integer T) (hr.mono (by decide)) (pa_c (p_var 0 (pv 0)) (pa_c p_int (pa_c (p_op o_sub (p_var 1 (pv 1)) p_int) pa_n))) (lnS (lnS (lnS ln0)))))
      s_nil)
theorem ok_is_row (T : Top K mg w) : FnOk P w K mg base CX0 1 T.is_row.a T.is_row.d ["thing", "length"] (spP K 2 G_is_row) :=
  fn_rule' (body := b_is_row) (G := G_is_row) (N := nm_is_row) (sc := scp_is_row) (n := 2) (m := 2) (k := 0) T.is_row rfl sc_is_row (by decide) rfl rfl rfl fun cdv A outer s H E F hr hF =>
    (s_cons (s_ret (p_and (p_isi (T := "tuple") (p_var 0 (pv 0)) (by decide) (by rfl) T.z_isinstance (by rfl) T.z_tuple (by decide +kernel)) (p_one (p_cmp (o_eq hr.units) (p_callB c_len (by rfl) T.z_len PySem.boot_len (pa_c (p_var 0 (pv 0)) pa_n)) (p_var 1 (pv 1)) (nomark _)))))
      s_nil)
theorem ok_is_word (T : Top K mg w) : FnOk P w K mg base CX0 1 T.is_word.a T.is_word.d ["thing", "words"] (spP K 2 G_is_word) :=
  fn_rule' (body := b_is_word) (G := G_is_word) (N := nm_is_word) (sc := scp_is_word) (n := 2) (m := 2) (k := 0) T.is_word rfl sc_is_word (by decide) rfl rfl rfl fun cdv A outer s H E F hr hF =>
    (s_cons (s_ret (p_and (p_isi (T := "str") (p_var 0 (pv 0)) (by decide) (by rfl) T.z_isinstance (by rfl) T.z_str (by decide +kernel)) (p_one (p_cmp (o_in hr.units) (p_var 0 (pv 0)) (p_var 1 (pv 1)) (by rfl)))))
      s_nil)
theorem ok_is_who (T : Top K mg w) : FnOk P w K mg base CX0 3 T.is_who.a T.is_who.d ["thing", "people"] (spP K 2 G_is_who) :=
  fn_rule' (body := b_is_who) (G := G_is_who) (N := nm_is_who) (sc := scp_is_who) (n := 2) (m := 4) (k := 2) T.is_who rfl sc_is_who (by decide) rfl rfl rfl fun cdv A outer s H E F hr hF =>
    (s_cons (s_if (t_not (t_tru (e_callI T.is_row (ok_is_row T) (hr.mono (by decide)) (pa_c (p_var 0 (pv 0)) (pa_c p_int pa_n)) (lnS (lnS ln0))))) (s_cons (s_ret p_bool)
      s_nil) s_nil)
      (s_cons (s_asg (p_var 0 (pv 0)) (g_many (n := 2) rfl (gs_cons (pg_name (i := 2) sc_is_who.nd rfl (by first | exact Or.inl rfl | exact Or.inr rfl)) (gs_cons (pg_name (i := 3) sc_is_who.nd rfl (by first | exact Or.inl rfl | exact Or.inr rfl)) gs_nil))))
      (s_cons (s_if (t_tru (e_callI T.is_word (ok_is_word T) (hr.mono (by decide)) (pa_c (p_var 2 (pv 2)) (pa_c (e_tup (pa_c p_str pa_n) (lnS ln0)) pa_n)) (lnS (lnS ln0)))) (s_cons (s_ret (e_callI T.is_number (ok_is_number T) (hr.mono (by decide)) (pa_c (p_var 3 (pv 3)) (pa_c (p_var 1 (pv 1)) pa_n)) (lnS (lnS ln0))))
      s_nil) s_nil)
      (s_cons (s_ret (p_and (e_callI T.is_word (ok_is_word T) (hr.mono (by decide)) (pa_c (p_var 2 (pv 2)) (pa_c (e_tup (pa_c p_str pa_n) (lnS ln0)) pa_n)) (lnS (lnS ln0))) (p_one (e_callI T.is_number (ok_is_number T) (hr.mono (by decide)) (pa_c (p_var 3 (pv 3)) (pa_c (p_gint T.m_GROUPS) pa_n)) (lnS (lnS ln0))))))
      s_nil))))
theorem ok_is_entry (T : Top K mg w) : FnOk P w K mg base CX0 4 T.is_entry.a T.is_entry.d ["thing", "people", "folders"] (spP K 3 G_is_entry) :=
  fn_rule' (body := b_is_entry) (G := G_is_entry) (N := nm_is_entry) (sc := scp_is_entry) (n := 3) (m := 6) (k := 3) T.is_entry rfl sc_is_entry (by decide) rfl rfl rfl fun cdv A outer s H E F hr hF =>
    (s_cons (s_if (t_not (t_tru (e_callI T.is_row (ok_is_row T) (hr.mono (by decide)) (pa_c (p_var 0 (pv 0)) (pa_c p_int pa_n)) (lnS (lnS ln0))))) (s_cons (s_ret p_bool)
      s_nil) s_nil)
      (s_cons (s_asg (p_var 0 (pv 0)) (g_many (n := 3) rfl (gs_cons (pg_name (i := 3) sc_is_entry.nd rfl (by first | exact Or.inl rfl | exact Or.inr rfl)) (gs_cons (pg_name (i := 4) sc_is_entry.nd rfl (by first | exact Or.inl rfl | exact Or.inr rfl)) (gs_cons (pg_name (i := 5) sc_is_entry.nd rfl (by first | exact Or.inl rfl | exact Or.inr rfl)) gs_nil)))))
      (s_cons (s_ret (p_and (e_callI T.is_number (ok_is_number T) (hr.mono (by decide)) (pa_c (p_var 3 (pv 3)) (pa_c (p_var 2 (pv 2)) pa_n)) (lnS (lnS ln0))) (p_and (e_callI T.is_who (ok_is_who T) (hr.mono (by decide)) (pa_c (p_var 4 (pv 4)) (pa_c (p_var 1 (pv 1)) pa_n)) (lnS (lnS ln0))) (p_one (e_callI T.is_word (ok_is_word T) (hr.mono (by decide)) (pa_c (p_var 5 (pv 5)) (pa_c (p_gdat T.m_KINDS T.r_KINDS) pa_n)) (lnS (lnS ln0)))))))
      s_nil)))
theorem ok_is_entries (T : Top K mg w) : FnOk P w K mg base CX0 5 T.is_entries.a T.is_entries.d ["thing", "people", "folders"] (spP K 3 G_is_entries) :=
  fn_rule' (body := b_is_entries) (G := G_is_entries) (N := nm_is_entries) (sc := scp_is_entries) (n := 3) (m := 7) (k := 4) T.is_entries rfl sc_is_entries (by decide) rfl rfl rfl fun cdv A outer s H E F hr hF =>
    (s_cons (s_if (t_w (w_or (t_not (t_tru (p_isi (T := "tuple") (p_var 0 (pv 0)) (by decide) (by rfl) T.z_isinstance (by rfl) T.z_tuple (by decide +kernel)))) (w_or1 (pt_cmp' (o_gt hr.units) (p_callB c_len (by rfl) T.z_len PySem.boot_len (pa_c (p_var 0 (pv 0)) pa_n)) (p_gint T.m_MOST_ENTRIES) (nomark _))))) (s_cons (s_ret p_bool)
      s_nil) s_nil)
      (s_cons (s_if (t_not (t_tru (p_callB (c_all rfl) (by rfl) T.z_all (by decide +kernel) (pa_c (p_new (n_comp (own := [("entry", 3)]) (t := (.one 3)) (cond := noIf) (elt := is_entries_e2) rfl sc_is_entries.nd (i_j (i_seq (p_var 0 (pv 0)))) (blkOk_by (N := nm_is_entries) (sc := scp_is_entries) (by decide +kernel)) (by decide) (fun F _ _ _ _ _ => (g_one (pg_name (i := 3) sc_is_entries.nd rfl (by first | exact Or.inl rfl | exact Or.inr rfl)))) (fun _ _ _ _ _ => pts_no) (fun F _ _ _ _ _ => (e_callI T.is_entry (ok_is_entry T) (hr.mono (by decide)) (pa_c (p_var 3 (pv 3)) (pa_c (p_var 1 (pv 1)) (pa_c (p_var 2 (pv 2)) pa_n))) (lnS (lnS (lnS ln0))))))) pa_n)))) (s_cons (s_ret p_bool)
      s_nil) s_nil)
      (s_cons (s_ret (e_callI T.ascends (ok_ascends T) (hr.mono (by decide)) (pa_c (p_new (n_comp (own := [("folder", 4), ("who", 5), ("kind", 6)]) (t := (.many [4, 5, 6])) (cond := noIf) (elt := is_entries_e1) rfl sc_is_entries.nd (i_j (i_seq (p_var 0 (pv 0)))) (blkOk_by (N := nm_is_entries) (sc := scp_is_entries) (by decide +kernel)) (by decide) (fun F _ _ _ _ _ => (g_many (n := 3) rfl (gs_cons (pg_name (i := 4) sc_is_entries.nd rfl (by first | exact Or.inl rfl | exact Or.inr rfl)) (gs_cons (pg_name (i := 5) sc_is_entries.nd rfl (by first | exact Or.inl rfl | exact Or.inr rfl)) (gs_cons (pg_name (i := 6) sc_is_entries.nd rfl (by first | exact Or.inl rfl | exact Or.inr rfl)) gs_nil))))) (fun _ _ _ _ _ => pts_no) (fun F _ _ _ _ _ => (e_tup (pa_c (p_var 4 (pv 4)) (pa_c (p_var 5 (pv 5)) pa_n)) (lnS (lnS ln0)))))) pa_n) (lnS ln0)))
      s_nil)))
theorem ok_groups_of (T : Top K mg w) : FnOk P w K mg base CX0 1 T.groups_of.a T.groups_of.d ["members", "who", "deep"] (spP K 3 G_groups_of) :=
  fn_rule' (body := b_groups_of) (G := G_groups_of) (N := nm_groups_of) (sc := scp_groups_of) (n := 3) (m := 7) (k := 0) T.groups_of rfl sc_groups_of (by decide) rfl rfl rfl fun cdv A outer s H E F hr hF =>
    (s_cons (s_own (i := 3) (s_comp (by decide) (ps_setLc (i := 3) (own := [("group", 5), ("member", 6)]) rfl sc_groups_of.nd rfl rfl (sw_true rfl rfl rfl (by decide +kernel)) (i_j (i_seq (p_var 0 (pv 0)))) (blkOk_by (N := nm_groups_of) (sc := scp_groups_of) (by decide +kernel)) (fun _ _ _ _ _ => all_g fun F => (g_many (n := 2) rfl (gs_cons (pg_name (i := 5) sc_groups_of.nd rfl (by first | exact Or.inl rfl | exact Or.inr rfl)) (gs_cons (pg_name (i := 6) sc_groups_of.nd rfl (by first | exact Or.inl rfl | exact Or.inr rfl)) gs_nil)))) (fun _ _ _ _ _ => pts_if fun F => (pt_cmp' (o_eq hr.units) (p_var 6 (pv 6)) (p_var 1 (pv 1)) (nomark _))) (fun _ _ _ _ _ => all_p (f := groups_of_e4) fun F => (p_var 5 (pv 5))))))
      (s_cons (s_set (i := 4) (ps_set (i := 4) sc_groups_of.nd rfl (by first | exact Or.inl rfl | exact Or.inr rfl) p_int))
      (s_cons (s_while (g := groups_of_t3) (f := groups_of_w2) 100000 PassesOwn.never (t_w (w_and (t_tru (p_var 2 (pv 2))) (w_and1 (pt_cmp' (o_lt hr.units) (p_var 4 (pv 4)) (w_len (by rfl) T.z_len (w_own 3 (pv 3))) (nomark _))))) (s_cons (s_for (t := (.many [5, 6])) (f := groups_of_f1) PassesOwn.never rfl (i_seq (p_var 0 (pv 0))) (g_many (n := 2) rfl (gs_cons (pg_name (i := 5) sc_groups_of.nd rfl (by first | exact Or.inl rfl | exact Or.inr rfl)) (gs_cons (pg_name (i := 6) sc_groups_of.nd rfl (by first | exact Or.inl rfl | exact Or.inr rfl)) gs_nil))) (s_cons (s_if (t_w (w_and (pt_cmp' (o_eq hr.units) (p_var 6 (pv 6)) (e_tup (pa_c p_str (pa_c (p_ixOwn 3 (pv 3) (p_var 4 (pv 4))) pa_n)) (lnS (lnS ln0))) (nomark _)) (w_and1 (wt_cmp (o_nin hr.units) (w_p (p_var 5 (pv 5))) (w_own 3 (pv 3)) (by rfl))))) (s_cons (s_app (ps_expr (pe_bm PySem.F.plainAttrs_list PySem.F.slot_list_append PySem.F.type_list_append mt_append (pv 3) (pa_cons (p_var 5 (pv 5)) pa_nil))))
      s_nil) s_nil)
      s_nil))
      (s_cons (s_aug (ps_aug (i := 4) sc_groups_of.nd rfl (by first | exact Or.inl rfl | exact Or.inr rfl) p_int ip_add))
      s_nil)))
      (s_cons (s_pub 3 (s_ret (p_callTy c_tuple (by rfl) T.z_tuple (by decide +kernel) (pa_c (p_new (n_callB (c_sortedN hr.units) (by rfl) T.z_sorted (by decide +kernel) (pa_c (p_var 3 (pv 3)) pa_n))) pa_n))))
      s_nil))))
theorem ok_is_member (T : Top K mg w) : FnOk P w K mg base CX0 4 T.is_member.a T.is_member.d ["thing", "people"] (spP K 2 G_is_member) :=
  fn_rule' (body := b_is_member) (G := G_is_member) (N := nm_is_member) (sc := scp_is_member) (n := 2) (m := 4) (k := 3) T.is_member rfl sc_is_member (by decide) rfl rfl rfl fun cdv A outer s H E F hr hF =>
    (s_cons (s_if (t_not (t_tru (e_callI T.is_row (ok_is_row T) (hr.mono (by decide)) (pa_c (p_var 0 (pv 0)) (pa_c p_int pa_n)) (lnS (lnS ln0))))) (s_cons (s_ret p_bool)
      s_nil) s_nil)
      (s_cons (s_asg (p_var 0 (pv 0)) (g_many (n := 2) rfl (gs_cons (pg_name (i := 2) sc_is_member.nd rfl (by first | exact Or.inl rfl | exact Or.inr rfl)) (gs_cons (pg_name (i := 3) sc_is_member.nd rfl (by first | exact Or.inl rfl | exact Or.inr rfl)) gs_nil))))
      (s_cons (s_ret (p_and (e_callI T.is_number (ok_is_number T) (hr.mono (by decide)) (pa_c (p_var 2 (pv 2)) (pa_c (p_gint T.m_GROUPS) pa_n)) (lnS (lnS ln0))) (p_one (e_callI T.is_who (ok_is_who T) (hr.mono (by decide)) (pa_c (p_var 3 (pv 3)) (pa_c (p_var 1 (pv 1)) pa_n)) (lnS (lnS ln0))))))
      s_nil)))
theorem ok_is_members (T : Top K mg w) : FnOk P w K mg base CX0 5 T.is_members.a T.is_members.d ["thing", "people"] (spP K 2 G_is_members) :=
  fn_rule' (body := b_is_members) (G := G_is_members) (N := nm_is_members) (sc := scp_is_members) (n := 2) (m := 4) (k := 4) T.is_members rfl sc_is_members (by decide) rfl rfl rfl fun cdv A outer s H E F hr hF =>
    (s_cons (s_if (t_not (t_tru (p_isi (T := "tuple") (p_var 0 (pv 0)) (by decide) (by rfl) T.z_isinstance (by rfl) T.z_tuple (by decide +kernel)))) (s_cons (s_ret p_bool)
      s_nil) s_nil)
      (s_cons (s_if (t_not (t_tru (p_callB (c_all rfl) (by rfl) T.z_all (by decide +kernel) (pa_c (p_new (n_comp (own := [("member", 2)]) (t := (.one 2)) (cond := noIf) (elt := is_members_e2) rfl sc_is_members.nd (i_j (i_seq (p_var 0 (pv 0)))) (blkOk_by (N := nm_is_members) (sc := scp_is_members) (by decide +kernel)) (by decide) (fun F _ _ _ _ _ => (g_one (pg_name (i := 2) sc_is_members.nd rfl (by first | exact Or.inl rfl | exact Or.inr rfl)))) (fun _ _ _ _ _ => pts_no) (fun F _ _ _ _ _ => (e_callI T.is_member (ok_is_member T) (hr.mono (by decide)) (pa_c (p_var 2 (pv 2)) (pa_c (p_var 1 (pv 1)) pa_n)) (lnS (lnS ln0)))))) pa_n)))) (s_cons (s_ret p_bool)
      s_nil) s_nil)
      (s_cons (s_if (t_not (t_tru (e_callI T.ascends (ok_ascends T) (hr.mono (by decide)) (pa_c (p_var 0 (pv 0)) pa_n) (lnS ln0)))) (s_cons (s_ret p_bool)
      s_nil) s_nil)
      (s_cons (s_ret (p_not (p_callB (c_any rfl) (by rfl) T.z_any (by decide +kernel) (pa_c (p_new (n_comp (own := [("group", 3)]) (t := (.one 3)) (cond := noIf) (elt := is_members_e1) rfl sc_is_members.nd (i_j (i_range1 (by rfl) T.z_range (pa_c (p_gint T.m_GROUPS) pa_n))) (blkOk_by (N := nm_is_members) (sc := scp_is_members) (by decide +kernel)) (by decide) (fun F _ _ _ _ _ => (g_one (pg_name (i := 3) sc_is_members.nd rfl (by first | exact Or.inl rfl | exact Or.inr rfl)))) (fun _ _ _ _ _ => pts_no) (fun F _ _ _ _ _ => (p_cmp (o_in hr.units) (p_var 3 (pv 3)) (e_callI T.groups_of (ok_groups_of T) (hr.mono (by decide)) (pa_c (p_var 0 (pv 0)) (pa_c (e_tup (pa_c p_str (pa_c (p_var 3 (pv 3)) pa_n)) (lnS (lnS ln0))) (pa_c p_bool pa_n))) (lnS (lnS (lnS ln0)))) (by rfl))))) pa_n))))
      s_nil))))
theorem ok_comes_to_top (T : Top K mg w) : FnOk P w K mg base CX0 1 T.comes_to_top.a T.comes_to_top.d ["parents", "folder"] (spP K 2 G_comes_to_top) :=
  fn_rule' (body := b_comes_to_top) (G := G_comes_to_top) (N := nm_comes_to_top) (sc := scp_comes_to_top) (n := 2) (m := 4) (k := 0) T.comes_to_top rfl sc_comes_to_top (by decide) rfl rfl rfl fun cdv A outer s H E F hr hF =>
    (s_cons (s_set (i := 2) (ps_set (i := 2) sc_comes_to_top.nd rfl (by first | exact Or.inl rfl | exact Or.inr rfl) (p_var 1 (pv 1))))
      (s_cons (s_for (t := (.one 3)) (f := comes_to_top_f1) PassesOwn.never rfl (i_seq (p_var 0 (pv 0))) (g_one (pg_name (i := 3) sc_comes_to_top.nd rfl (by first | exact Or.inl rfl | exact Or.inr rfl))) (s_cons (s_if (pt_cmp' (o_ne hr.units) (p_var 2 (pv 2)) p_int (nomark _)) (s_cons (s_set (i := 2) (ps_set (i := 2) sc_comes_to_top.nd rfl (by first | exact Or.inl rfl | exact Or.inr rfl) (p_ix (p_var 0 (pv 0)) (p_op o_sub (p_var 2 (pv 2)) p_int))))
      s_nil) s_nil)
      s_nil))
      (s_cons (s_ret (p_cmp (o_eq hr.units) (p_var 2 (pv 2)) p_int (nomark _)))
      s_nil)))
theorem ok_is_parents (T : Top K mg w) : FnOk P w K mg base CX0 3 T.is_parents.a T.is_parents.d ["thing"] (spP K 1 G_is_parents) :=
  fn_rule' (body := b_is_parents) (G := G_is_parents) (N := nm_is_parents) (sc := scp_is_parents) (n := 1) (m := 4) (k := 2) T.is_parents rfl sc_is_parents (by decide) rfl rfl rfl fun cdv A outer s H E F hr hF =>
    (s_cons (s_if (t_w (w_or (t_not (t_tru (p_isi (T := "tuple") (p_var 0 (pv 0)) (by decide) (by rfl) T.z_isinstance (by rfl) T.z_tuple (by decide +kernel)))) (w_or1 (pt_cmp' (o_gt hr.units) (p_callB c_len (by rfl) T.z_len PySem.boot_len (pa_c (p_var 0 (pv 0)) pa_n)) (p_gint T.m_MOST_PARENTS) (nomark _))))) (s_cons (s_ret p_bool)
      s_nil) s_nil)
      (s_cons (s_set (i := 1) (ps_set (i := 1) sc_is_parents.nd rfl (by first | exact Or.inl rfl | exact Or.inr rfl) (p_op o_add (p_callB c_len (by rfl) T.z_len PySem.boot_len (pa_c (p_var 0 (pv 0)) pa_n)) p_int)))
      (s_cons (s_if (t_not (t_tru (p_callB (c_all rfl) (by rfl) T.z_all (by decide +kernel) (pa_c (p_new (n_comp (own := [("parent", 3)]) (t := (.one 3)) (cond := noIf) (elt := is_parents_e2) rfl sc_is_parents.nd (i_j (i_seq (p_var 0 (pv 0)))) (blkOk_by (N := nm_is_parents) (sc := scp_is_parents) (by decide +kernel)) (by decide) (fun F _ _ _ _ _ => (g_one (pg_name (i := 3) sc_is_parents.nd rfl (by first | exact Or.inl rfl | exact Or.inr rfl)))) (fun _ _ _ _ _ => pts_no) (fun F _ _ _ _ _ => (e_callI T.is_number (ok_is_number T) (hr.mono (by decide)) (pa_c (p_var 3 (pv 3)) (pa_c (p_var 1 (pv 1)) pa_n)) (lnS (lnS ln0)))))) pa_n)))) (s_cons (s_ret p_bool)
      s_nil) s_nil)
      (s_cons (s_ret (p_callB (c_all rfl) (by rfl) T.z_all (by decide +kernel) (pa_c (p_new (n_comp (own := [("folder", 2)]) (t := (.one 2)) (cond := noIf) (elt := is_parents_e1) rfl sc_is_parents.nd (i_j (i_range1 (by rfl) T.z_range (pa_c (p_var 1 (pv 1)) pa_n))) (blkOk_by (N := nm_is_parents) (sc := scp_is_parents) (by decide +kernel)) (by decide) (fun F _ _ _ _ _ => (g_one (pg_name (i := 2) sc_is_parents.nd rfl (by first | exact Or.inl rfl | exact Or.inr rfl)))) (fun _ _ _ _ _ => pts_no) (fun F _ _ _ _ _ => (e_callI T.comes_to_top (ok_comes_to_top T) (hr.mono (by decide)) (pa_c (p_var 0 (pv 0)) (pa_c (p_var 2 (pv 2)) pa_n)) (lnS (lnS ln0)))))) pa_n)))
      s_nil))))
theorem ok_is_shut (T : Top K mg w) : FnOk P w K mg base CX0 2 T.is_shut.a T.is_shut.d ["thing", "folders"] (spP K 2 G_is_shut) :=
  fn_rule' (body := b_is_shut) (G := G_is_shut) (N := nm_is_shut) (sc := scp_is_shut) (n := 2) (m := 3) (k := 1) T.is_shut rfl sc_is_shut (by decide) rfl rfl rfl fun cdv A outer s H E F hr hF =>
    (s_cons (s_ret (p_and (e_callI T.is_row (ok_is_row T) (hr.mono (by decide)) (pa_c (p_var 0 (pv 0)) (pa_c (p_var 1 (pv 1)) pa_n)) (lnS (lnS ln0))) (p_one (p_callB (c_all rfl) (by rfl) T.z_all (by decide +kernel) (pa_c (p_new (n_comp (own := [("flag", 2)]) (t := (.one 2)) (cond := noIf) (elt := is_shut_e1) rfl sc_is_shut.nd (i_j (i_seq (p_var 0 (pv 0)))) (blkOk_by (N := nm_is_shut) (sc := scp_is_shut) (by decide +kernel)) (by decide) (fun F _ _ _ _ _ => (g_one (pg_name (i := 2) sc_is_shut.nd rfl (by first | exact Or.inl rfl | exact Or.inr rfl)))) (fun _ _ _ _ _ => pts_no) (fun F _ _ _ _ _ => (p_isi (T := "bool") (p_var 2 (pv 2)) (by decide) (by rfl) T.z_isinstance (by rfl) T.z_bool (by decide +kernel))))) pa_n)))))
      s_nil)
theorem ok_fit_together (T : Top K mg w) : FnOk P w K mg base CX0 6 T.fit_together.a T.fit_together.d ["people", "parents", "shut", "entries", "members"] (spP K 5 G_fit_together) :=
  fn_rule' (body := b_fit_together) (G := G_fit_together) (N := nm_fit_together) (sc := scp_fit_together) (n := 5) (m := 6) (k := 5) T.fit_together rfl sc_fit_together (by decide) rfl rfl rfl fun cdv A outer s H E F hr hF =>
    (s_cons (s_if (t_not (t_tru (e_callI T.is_parents (ok_is_parents T) (hr.mono (by decide)) (pa_c (p_var 1 (pv 1)) pa_n) (lnS ln0)))) (s_cons (s_ret p_bool)
      s_nil) s_nil)
      (s_cons (s_set (i := 5) (ps_set (i := 5) sc_fit_together.nd rfl (by first | exact Or.inl rfl | exact Or.inr rfl) (p_op o_add (p_callB c_len (by rfl) T.z_len PySem.boot_len (pa_c (p_var 1 (pv 1)) pa_n)) p_int)))
      (s_cons (s_ret (p_and (e_callI T.is_shut (ok_is_shut T) (hr.mono (by decide)) (pa_c (p_var 2 (pv 2)) (pa_c (p_var 5 (pv 5)) pa_n)) (lnS (lnS ln0))) (p_and (e_callI T.is_entries (ok_is_entries T) (hr.mono (by decide)) (pa_c (p_var 3 (pv 3)) (pa_c (p_var 0 (pv 0)) (pa_c (p_var 5 (pv 5)) pa_n))) (lnS (lnS (lnS ln0)))) (p_one (e_callI T.is_members (ok_is_members T) (hr.mono (by decide)) (pa_c (p_var 4 (pv 4)) (pa_c (p_var 0 (pv 0)) pa_n)) (lnS (lnS ln0)))))))
      s_nil)))
theorem ok_is_house (T : Top K mg w) : FnOk P w K mg base CX0 7 T.is_house.a T.is_house.d ["thing"] (spP K 1 G_is_house) :=
  fn_rule' (body := b_is_house) (G := G_is_house) (N := nm_is_house) (sc := scp_is_house) (n := 1) (m := 6) (k := 6) T.is_house rfl sc_is_house (by decide) rfl rfl rfl fun cdv A outer s H E F hr hF =>
    (s_cons (s_if (t_not (t_tru (e_callI T.is_row (ok_is_row T) (hr.mono (by decide)) (pa_c (p_var 0 (pv 0)) (pa_c p_int pa_n)) (lnS (lnS ln0))))) (s_cons (s_ret p_bool)
      s_nil) s_nil)
      (s_cons (s_asg (p_var 0 (pv 0)) (g_many (n := 5) rfl (gs_cons (pg_name (i := 1) sc_is_house.nd rfl (by first | exact Or.inl rfl | exact Or.inr rfl)) (gs_cons (pg_name (i := 2) sc_is_house.nd rfl (by first | exact Or.inl rfl | exact Or.inr rfl)) (gs_cons (pg_name (i := 3) sc_is_house.nd rfl (by first | exact Or.inl rfl | exact Or.inr rfl)) (gs_cons (pg_name (i := 4) sc_is_house.nd rfl (by first | exact Or.inl rfl | exact Or.inr rfl)) (gs_cons (pg_name (i := 5) sc_is_house.nd rfl (by first | exact Or.inl rfl | exact Or.inr rfl)) gs_nil)))))))
      (s_cons (s_ret (p_and (e_callI T.is_integer (ok_is_integer T) (hr.mono (by decide)) (pa_c (p_var 1 (pv 1)) (pa_c p_int (pa_c (p_gint T.m_MOST_PEOPLE) pa_n))) (lnS (lnS (lnS ln0)))) (p_one (e_callI T.fit_together (ok_fit_together T) (hr.mono (by decide)) (pa_c (p_var 1 (pv 1)) (pa_c (p_var 2 (pv 2)) (pa_c (p_var 3 (pv 3)) (pa_c (p_var 4 (pv 4)) (pa_c (p_var 5 (pv 5)) pa_n))))) (lnS (lnS (lnS (lnS (lnS ln0)))))))))
      s_nil)))
theorem ok_need_house (T : Top K mg w) : FnOk P w K mg base CX0 8 T.need_house.a T.need_house.d ["house"] (spP K 1 G_need_house) :=
  fn_rule' (body := b_need_house) (G := G_need_house) (N := nm_need_house) (sc := scp_need_house) (n := 1) (m := 1) (k := 7) T.need_house rfl sc_need_house (by decide) rfl rfl rfl fun cdv A outer s H E F hr hF =>
    (s_cons (s_if (t_not (t_tru (e_callI T.is_house (ok_is_house T) (hr.mono (by decide)) (pa_c (p_var 0 (pv 0)) pa_n) (lnS ln0)))) (s_cons (s_raiseC hF)
      s_nil) s_nil)
      s_nil)
theorem ok_is_rule (T : Top K mg w) : FnOk P w K mg base CX0 2 T.is_rule.a T.is_rule.d ["thing"] (spP K 1 G_is_rule) :=
  fn_rule' (body := b_is_rule) (G := G_is_rule) (N := nm_is_rule) (sc := scp_is_rule) (n := 1) (m := 5) (k := 1) T.is_rule rfl sc_is_rule (by decide) rfl rfl rfl fun cdv A outer s H E F hr hF =>
    (s_cons (s_if (t_not (t_tru (e_callI T.is_row (ok_is_row T) (hr.mono (by decide)) (pa_c (p_var 0 (pv 0)) (pa_c p_int pa_n)) (lnS (lnS ln0))))) (s_cons (s_ret p_bool)
      s_nil) s_nil)
      (s_cons (s_asg (p_var 0 (pv 0)) (g_many (n := 4) rfl (gs_cons (pg_name (i := 1) sc_is_rule.nd rfl (by first | exact Or.inl rfl | exact Or.inr rfl)) (gs_cons (pg_name (i := 2) sc_is_rule.nd rfl (by first | exact Or.inl rfl | exact Or.inr rfl)) (gs_cons (pg_name (i := 3) sc_is_rule.nd rfl (by first | exact Or.inl rfl | exact Or.inr rfl)) (gs_cons (pg_name (i := 4) sc_is_rule.nd rfl (by first | exact Or.inl rfl | exact Or.inr rfl)) gs_nil))))))
      (s_cons (s_if (t_w (w_or (t_not (t_tru (e_callI T.is_word (ok_is_word T) (hr.mono (by decide)) (pa_c (p_var 1 (pv 1)) (pa_c (e_tup (pa_c p_str (pa_c p_str pa_n)) (lnS (lnS ln0))) pa_n)) (lnS (lnS ln0))))) (w_or1 (t_not (t_tru (e_callI T.is_word (ok_is_word T) (hr.mono (by decide)) (pa_c (p_var 2 (pv 2)) (pa_c (e_tup (pa_c p_str (pa_c p_str pa_n)) (lnS (lnS ln0))) pa_n)) (lnS (lnS ln0)))))))) (s_cons (s_ret p_bool)
      s_nil) s_nil)
      (s_cons (s_ret (p_and (e_callI T.is_word (ok_is_word T) (hr.mono (by decide)) (pa_c (p_var 3 (pv 3)) (pa_c (e_tup (pa_c p_str (pa_c p_str pa_n)) (lnS (lnS ln0))) pa_n)) (lnS (lnS ln0))) (p_one (p_isi (T := "bool") (p_var 4 (pv 4)) (by decide) (by rfl) T.z_isinstance (by rfl) T.z_bool (by decide +kernel)))))
      s_nil))))
theorem ok_need_rule (T : Top K mg w) : FnOk P w K mg base CX0 3 T.need_rule.a T.need_rule.d ["rule"] (spP K 1 G_need_rule) :=
  fn_rule' (body := b_need_rule) (G := G_need_rule) (N := nm_need_rule) (sc := scp_need_rule) (n := 1) (m := 1) (k := 2) T.need_rule rfl sc_need_rule (by decide) rfl rfl rfl fun cdv A outer s H E F hr hF =>
    (s_cons (s_if (t_not (t_tru (e_callI T.is_rule (ok_is_rule T) (hr.mono (by decide)) (pa_c (p_var 0 (pv 0)) pa_n) (lnS ln0)))) (s_cons (s_raiseC hF)
      s_nil) s_nil)
      s_nil)
theorem ok_is_groups (T : Top K mg w) : FnOk P w K mg base CX0 3 T.is_groups.a T.is_groups.d ["thing"] (spP K 1 G_is_groups) :=
  fn_rule' (body := b_is_groups) (G := G_is_groups) (N := nm_is_groups) (sc := scp_is_groups) (n := 1) (m := 2) (k := 2) T.is_groups rfl sc_is_groups (by decide) rfl rfl rfl fun cdv A outer s H E F hr hF =>
    (s_cons (s_ret (p_and (p_isi (T := "tuple") (p_var 0 (pv 0)) (by decide) (by rfl) T.z_isinstance (by rfl) T.z_tuple (by decide +kernel)) (p_and (p_callB (c_all rfl) (by rfl) T.z_all (by decide +kernel) (pa_c (p_new (n_comp (own := [("group", 1)]) (t := (.one 1)) (cond := noIf) (elt := is_groups_e1) rfl sc_is_groups.nd (i_j (i_seq (p_var 0 (pv 0)))) (blkOk_by (N := nm_is_groups) (sc := scp_is_groups) (by decide +kernel)) (by decide) (fun F _ _ _ _ _ => (g_one (pg_name (i := 1) sc_is_groups.nd rfl (by first | exact Or.inl rfl | exact Or.inr rfl)))) (fun _ _ _ _ _ => pts_no) (fun F _ _ _ _ _ => (e_callI T.is_number (ok_is_number T) (hr.mono (by decide)) (pa_c (p_var 1 (pv 1)) (pa_c (p_gint T.m_GROUPS) pa_n)) (lnS (lnS ln0)))))) pa_n)) (p_one (e_callI T.ascends (ok_ascends T) (hr.mono (by decide)) (pa_c (p_var 0 (pv 0)) pa_n) (lnS ln0))))))
      s_nil)
theorem ok_is_logins (T : Top K mg w) : FnOk P w K mg base CX0 4 T.is_logins.a T.is_logins.d ["thing", "people"] (spP K 2 G_is_logins) :=
  fn_rule' (body := b_is_logins) (G := G_is_logins) (N := nm_is_logins) (sc := scp_is_logins) (n := 2) (m := 3) (k := 3) T.is_logins rfl sc_is_logins (by decide) rfl rfl rfl fun cdv A outer s H E F hr hF =>
    (s_cons (s_ret (p_and (e_callI T.is_row (ok_is_row T) (hr.mono (by decide)) (pa_c (p_var 0 (pv 0)) (pa_c (p_var 1 (pv 1)) pa_n)) (lnS (lnS ln0))) (p_one (p_callB (c_all rfl) (by rfl) T.z_all (by decide +kernel) (pa_c (p_new (n_comp (own := [("groups", 2)]) (t := (.one 2)) (cond := noIf) (elt := is_logins_e1) rfl sc_is_logins.nd (i_j (i_seq (p_var 0 (pv 0)))) (blkOk_by (N := nm_is_logins) (sc := scp_is_logins) (by decide +kernel)) (by decide) (fun F _ _ _ _ _ => (g_one (pg_name (i := 2) sc_is_logins.nd rfl (by first | exact Or.inl rfl | exact Or.inr rfl)))) (fun _ _ _ _ _ => pts_no) (fun F _ _ _ _ _ => (e_callI T.is_groups (ok_is_groups T) (hr.mono (by decide)) (pa_c (p_var 2 (pv 2)) pa_n) (lnS ln0))))) pa_n)))))
      s_nil)
theorem ok_is_state (T : Top K mg w) : FnOk P w K mg base CX0 7 T.is_state.a T.is_state.d ["house", "thing"] (spP K 2 G_is_state) :=
  fn_rule' (body := b_is_state) (G := G_is_state) (N := nm_is_state) (sc := scp_is_state) (n := 2) (m := 7) (k := 6) T.is_state rfl sc_is_state (by decide) rfl rfl rfl fun cdv A outer s H E F hr hF =>
    (s_cons (s_if (t_not (t_tru (e_callI T.is_row (ok_is_row T) (hr.mono (by decide)) (pa_c (p_var 1 (pv 1)) (pa_c p_int pa_n)) (lnS (lnS ln0))))) (s_cons (s_ret p_bool)
      s_nil) s_nil)
      (s_cons (s_asg (p_var 1 (pv 1)) (g_many (n := 5) rfl (gs_cons (pg_name (i := 2) sc_is_state.nd rfl (by first | exact Or.inl rfl | exact Or.inr rfl)) (gs_cons (pg_name (i := 3) sc_is_state.nd rfl (by first | exact Or.inl rfl | exact Or.inr rfl)) (gs_cons (pg_name (i := 4) sc_is_state.nd rfl (by first | exact Or.inl rfl | exact Or.inr rfl)) (gs_cons (pg_name (i := 5) sc_is_state.nd rfl (by first | exact Or.inl rfl | exact Or.inr rfl)) (gs_cons (pg_name (i := 6) sc_is_state.nd rfl (by first | exact Or.inl rfl | exact Or.inr rfl)) gs_nil)))))))
      (s_cons (s_if (t_not (t_tru (e_callI T.is_row (ok_is_row T) (hr.mono (by decide)) (pa_c (p_var 2 (pv 2)) (pa_c (p_callB c_len (by rfl) T.z_len PySem.boot_len (pa_c (p_ix (p_var 0 (pv 0)) p_int) pa_n)) pa_n)) (lnS (lnS ln0))))) (s_cons (s_ret p_bool)
      s_nil) s_nil)
      (s_cons (s_ret (p_and (e_callI T.fit_together (ok_fit_together T) (hr.mono (by decide)) (pa_c (p_ix (p_var 0 (pv 0)) p_int) (pa_c (p_var 2 (pv 2)) (pa_c (p_var 3 (pv 3)) (pa_c (p_var 4 (pv 4)) (pa_c (p_var 5 (pv 5)) pa_n))))) (lnS (lnS (lnS (lnS (lnS ln0)))))) (p_one (e_callI T.is_logins (ok_is_logins T) (hr.mono (by decide)) (pa_c (p_var 6 (pv 6)) (pa_c (p_ix (p_var 0 (pv 0)) p_int) pa_n)) (lnS (lnS ln0))))))
      s_nil))))
theorem ok_need_state (T : Top K mg w) : FnOk P w K mg base CX0 8 T.need_state.a T.need_state.d ["house", "state"] (spP K 2 G_need_state) :=
  fn_rule' (body := b_need_state) (G := G_need_state) (N := nm_need_state) (sc := scp_need_state) (n := 2) (m := 2) (k := 7) T.need_state rfl sc_need_state (by decide) rfl rfl rfl fun cdv A outer s H E F hr hF =>
    (s_cons (s_if (t_not (t_tru (e_callI T.is_state (ok_is_state T) (hr.mono (by decide)) (pa_c (p_var 0 (pv 0)) (pa_c (p_var 1 (pv 1)) pa_n)) (lnS (lnS ln0))))) (s_cons (s_raiseC hF)
      s_nil) s_nil)
      s_nil)
theorem ok_counted_groups (T : Top K mg w) : FnOk P w K mg base CX0 2 T.counted_groups.a T.counted_groups.d ["rule", "state", "person"] (spP K 3 G_counted_groups) :=
  fn_rule' (body := b_counted_groups) (G := G_counted_groups) (N := nm_counted_groups) (sc := scp_counted_groups) (n := 3) (m := 6) (k := 1) T.counted_groups rfl sc_counted_groups (by decide) rfl rfl rfl fun cdv A outer s H E F hr hF =>
    (s_cons (s_asg (p_var 0 (pv 0)) (g_many (n := 4) rfl (gs_cons (pg_name (i := 3) sc_counted_groups.nd rfl (by first | exact Or.inl rfl | exact Or.inr rfl)) (gs_cons (pg_name (i := 3) sc_counted_groups.nd rfl (by first | exact Or.inl rfl | exact Or.inr rfl)) (gs_cons (pg_name (i := 4) sc_counted_groups.nd rfl (by first | exact Or.inl rfl | exact Or.inr rfl)) (gs_cons (pg_name (i := 5) sc_counted_groups.nd rfl (by first | exact Or.inl rfl | exact Or.inr rfl)) gs_nil))))))
      (s_cons (s_if (pt_cmp' (o_eq hr.units) (p_var 4 (pv 4)) p_str (nomark _)) (s_cons (s_ret (p_ix (p_ix (p_var 1 (pv 1)) p_int) (p_var 2 (pv 2))))
      s_nil) s_nil)
      (s_cons (s_ret (e_callI T.groups_of (ok_groups_of T) (hr.mono (by decide)) (pa_c (p_ix (p_var 1 (pv 1)) p_int) (pa_c (e_tup (pa_c p_str (pa_c (p_var 2 (pv 2)) pa_n)) (lnS (lnS ln0))) (pa_c (p_var 5 (pv 5)) pa_n))) (lnS (lnS (lnS ln0)))))
      s_nil)))
theorem ok_counts_for (T : Top K mg w) : FnOk P w K mg base CX0 1 T.counts_for.a T.counts_for.d ["who", "person", "groups"] (spP K 3 G_counts_for) :=
  fn_rule' (body := b_counts_for) (G := G_counts_for) (N := nm_counts_for) (sc := scp_counts_for) (n := 3) (m := 5) (k := 0) T.counts_for rfl sc_counts_for (by decide) rfl rfl rfl fun cdv A outer s H E F hr hF =>
    (s_cons (s_asg (p_var 0 (pv 0)) (g_many (n := 2) rfl (gs_cons (pg_name (i := 3) sc_counts_for.nd rfl (by first | exact Or.inl rfl | exact Or.inr rfl)) (gs_cons (pg_name (i := 4) sc_counts_for.nd rfl (by first | exact Or.inl rfl | exact Or.inr rfl)) gs_nil))))
      (s_cons (s_if (pt_cmp' (o_eq hr.units) (p_var 3 (pv 3)) p_str (nomark _)) (s_cons (s_ret (p_cmp (o_eq hr.units) (p_var 4 (pv 4)) (p_var 1 (pv 1)) (nomark _)))
      s_nil) s_nil)
      (s_cons (s_ret (p_cmp (o_in hr.units) (p_var 4 (pv 4)) (p_var 2 (pv 2)) (by rfl)))
      s_nil)))
theorem ok_line_up (T : Top K mg w) : FnOk P w K mg base CX0 1 T.line_up.a T.line_up.d ["parents", "folder"] (spP K 2 G_line_up) :=
  fn_rule' (body := b_line_up) (G := G_line_up) (N := nm_line_up) (sc := scp_line_up) (n := 2) (m := 3) (k := 0) T.line_up rfl sc_line_up (by decide) rfl rfl rfl fun cdv A outer s H E F hr hF =>
    (s_cons (s_own (i := 2) (ps_set (i := 2) sc_line_up.nd rfl (by first | exact Or.inl rfl | exact Or.inr rfl) (e_lst (pa_c (p_var 1 (pv 1)) pa_n) (lnS ln0))))
      (s_cons (s_while (g := line_up_t2) (f := line_up_w1) 100000 PassesOwn.never (pt_cmp' (o_ne hr.units) (p_ixOwn 2 (pv 2) (p_un u_neg p_int)) p_int (nomark _)) (s_cons (s_app (ps_expr (pe_bm PySem.F.plainAttrs_list PySem.F.slot_list_append PySem.F.type_list_append mt_append (pv 2) (pa_cons (p_ix (p_var 0 (pv 0)) (p_op o_sub (p_ixOwn 2 (pv 2) (p_un u_neg p_int)) p_int)) pa_nil))))
      s_nil))
      (s_cons (s_pub 2 (s_ret (p_var 2 (pv 2))))
      s_nil)))
theorem ok_way_of (T : Top K mg w) : FnOk P w K mg base CX0 2 T.way_of.a T.way_of.d ["parents", "shut", "folder"] (spP K 3 G_way_of) :=
  fn_rule' (body := b_way_of) (G := G_way_of) (N := nm_way_of) (sc := scp_way_of) (n := 3) (m := 5) (k := 1) T.way_of rfl sc_way_of (by decide) rfl rfl rfl fun cdv A outer s H E F hr hF =>
    (s_cons (s_own (i := 3) (ps_set (i := 3) sc_way_of.nd rfl (by first | exact Or.inl rfl | exact Or.inr rfl) (e_lst pa_n ln0)))
      (s_cons (s_for (t := (.one 4)) (f := way_of_f1) PassesOwn.never rfl (i_seq (e_callI T.line_up (ok_line_up T) (hr.mono (by decide)) (pa_c (p_var 0 (pv 0)) (pa_c (p_var 2 (pv 2)) pa_n)) (lnS (lnS ln0)))) (g_one (pg_name (i := 4) sc_way_of.nd rfl (by first | exact Or.inl rfl | exact Or.inr rfl))) (s_cons (s_app (ps_expr (pe_bm PySem.F.plainAttrs_list PySem.F.slot_list_append PySem.F.type_list_append mt_append (pv 3) (pa_cons (p_var 4 (pv 4)) pa_nil))))
      (s_cons (s_if (t_tru (p_ix (p_var 1 (pv 1)) (p_var 4 (pv 4)))) (s_cons s_break
      s_nil) s_nil)
      s_nil)))
      (s_cons (s_pub 3 (s_ret (p_var 3 (pv 3))))
      s_nil)))
theorem ok_deciding_entries (T : Top K mg w) : FnOk P w K mg base CX0 3 T.deciding_entries.a T.deciding_entries.d ["rule", "state", "person", "folder"] (spP K 4 G_deciding_entries) :=
  fn_rule' (body := b_deciding_entries) (G := G_deciding_entries) (N := nm_deciding_entries) (sc := scp_deciding_entries) (n := 4) (m := 14) (k := 2) T.deciding_entries rfl sc_deciding_entries (by decide) rfl rfl rfl fun cdv A outer s H E F hr hF =>
    (s_cons (s_asg (p_var 1 (pv 1)) (g_many (n := 5) rfl (gs_cons (pg_name (i := 7) sc_deciding_entries.nd rfl (by first | exact Or.inl rfl | exact Or.inr rfl)) (gs_cons (pg_name (i := 8) sc_deciding_entries.nd rfl (by first | exact Or.inl rfl | exact Or.inr rfl)) (gs_cons (pg_name (i := 9) sc_deciding_entries.nd rfl (by first | exact Or.inl rfl | exact Or.inr rfl)) (gs_cons (pg_name (i := 10) sc_deciding_entries.nd rfl (by first | exact Or.inl rfl | exact Or.inr rfl)) (gs_cons (pg_name (i := 10) sc_deciding_entries.nd rfl (by first | exact Or.inl rfl | exact Or.inr rfl)) gs_nil)))))))
      (s_cons (s_set (i := 4) (ps_set (i := 4) sc_deciding_entries.nd rfl (by first | exact Or.inl rfl | exact Or.inr rfl) (e_callI T.counted_groups (ok_counted_groups T) (hr.mono (by decide)) (pa_c (p_var 0 (pv 0)) (pa_c (p_var 1 (pv 1)) (pa_c (p_var 2 (pv 2)) pa_n))) (lnS (lnS (lnS ln0))))))
      (s_cons (s_own (i := 5) (ps_set (i := 5) sc_deciding_entries.nd rfl (by first | exact Or.inl rfl | exact Or.inr rfl) (e_lst pa_n ln0)))
      (s_cons (s_for (t := (.one 6)) (f := deciding_entries_f2) PassesOwn.never rfl (i_seq (e_callI T.way_of (ok_way_of T) (hr.mono (by decide)) (pa_c (p_var 7 (pv 7)) (pa_c (p_var 8 (pv 8)) (pa_c (p_var 3 (pv 3)) pa_n))) (lnS (lnS (lnS ln0))))) (g_one (pg_name (i := 6) sc_deciding_entries.nd rfl (by first | exact Or.inl rfl | exact Or.inr rfl))) (s_cons (s_for (t := (.many [11, 12, 13])) (f := deciding_entries_f1) PassesOwn.never rfl (i_seq (p_var 9 (pv 9))) (g_many (n := 3) rfl (gs_cons (pg_name (i := 11) sc_deciding_entries.nd rfl (by first | exact Or.inl rfl | exact Or.inr rfl)) (gs_cons (pg_name (i := 12) sc_deciding_entries.nd rfl (by first | exact Or.inl rfl | exact Or.inr rfl)) (gs_cons (pg_name (i := 13) sc_deciding_entries.nd rfl (by first | exact Or.inl rfl | exact Or.inr rfl)) gs_nil)))) (s_cons (s_if (t_w (w_and (pt_cmp' (o_eq hr.units) (p_var 11 (pv 11)) (p_var 6 (pv 6)) (nomark _)) (w_and1 (t_tru (e_callI T.counts_for (ok_counts_for T) (hr.mono (by decide)) (pa_c (p_var 12 (pv 12)) (pa_c (p_var 2 (pv 2)) (pa_c (p_var 4 (pv 4)) pa_n))) (lnS (lnS (lnS ln0)))))))) (s_cons (s_app (ps_expr (pe_bm PySem.F.plainAttrs_list PySem.F.slot_list_append PySem.F.type_list_append mt_append (pv 5) (pa_cons (e_tup (pa_c (p_var 11 (pv 11)) (pa_c (p_var 12 (pv 12)) (pa_c (p_var 13 (pv 13)) pa_n))) (lnS (lnS (lnS ln0)))) pa_nil))))
      s_nil) s_nil)
      s_nil))
      (s_cons (s_if (t_w (w_and (wt_tru (w_own 5 (pv 5))) (w_and1 (pt_cmp' (o_eq hr.units) (p_ix (p_var 0 (pv 0)) p_int) p_str (nomark _))))) (s_cons s_break
      s_nil) s_nil)
      s_nil)))
      (s_cons (s_pub 5 (s_ret (p_var 5 (pv 5))))
      s_nil)))))
theorem ok_person_sees (T : Top K mg w) : FnOk P w K mg base CX0 4 T.person_sees.a T.person_sees.d ["rule", "state", "person", "folder"] (spP K 4 G_person_sees) :=
  fn_rule' (body := b_person_sees) (G := G_person_sees) (N := nm_person_sees) (sc := scp_person_sees) (n := 4) (m := 7) (k := 3) T.person_sees rfl sc_person_sees (by decide) rfl rfl rfl fun cdv A outer s H E F hr hF =>
    (s_cons (s_newset (i := 4) (s_comp (by decide) (ps_setLc (i := 4) (own := [("_", 5), ("_", 5), ("kind", 6)]) rfl sc_person_sees.nd rfl rfl (sw_true rfl rfl rfl (by decide +kernel)) (i_j (i_seq (e_callI T.deciding_entries (ok_deciding_entries T) (hr.mono (by decide)) (pa_c (p_var 0 (pv 0)) (pa_c (p_var 1 (pv 1)) (pa_c (p_var 2 (pv 2)) (pa_c (p_var 3 (pv 3)) pa_n)))) (lnS (lnS (lnS (lnS ln0))))))) (blkOk_by (N := nm_person_sees) (sc := scp_person_sees) (by decide +kernel)) (fun _ _ _ _ _ => all_g fun F => (g_many (n := 3) rfl (gs_cons (pg_name (i := 5) sc_person_sees.nd rfl (by first | exact Or.inl rfl | exact Or.inr rfl)) (gs_cons (pg_name (i := 5) sc_person_sees.nd rfl (by first | exact Or.inl rfl | exact Or.inr rfl)) (gs_cons (pg_name (i := 6) sc_person_sees.nd rfl (by first | exact Or.inl rfl | exact Or.inr rfl)) gs_nil))))) (fun _ _ _ _ _ => pts_no) (fun _ _ _ _ _ => all_p (f := person_sees_e1) fun F => (p_var 6 (pv 6))))))
      (s_cons (s_ret (p_and (p_cmp (o_in hr.units) p_str (p_var 4 (pv 4)) (by rfl)) (p_one (p_cmp (o_nin hr.units) p_str (p_var 4 (pv 4)) (by rfl)))))
      s_nil))
theorem ok_all_sights (T : Top K mg w) : FnOk P w K mg base CX0 9 T.all_sights.a T.all_sights.d ["house", "rule", "state"] (spP K 3 G_all_sights) :=
  fn_rule' (body := b_all_sights) (G := G_all_sights) (N := nm_all_sights) (sc := scp_all_sights) (n := 3) (m := 6) (k := 8) T.all_sights rfl sc_all_sights (by decide) rfl rfl rfl fun cdv A outer s H E F hr hF =>
    (s_cons (s_doC hF (p_arg (e_callI T.need_house (ok_need_house T) (hr.mono (by decide)) (pa_c (p_var 0 (pv 0)) pa_n) (lnS ln0))))
      (s_cons (s_doC hF (p_arg (e_callI T.need_rule (ok_need_rule T) (hr.mono (by decide)) (pa_c (p_var 1 (pv 1)) pa_n) (lnS ln0))))
      (s_cons (s_doC hF (p_arg (e_callI T.need_state (ok_need_state T) (hr.mono (by decide)) (pa_c (p_var 0 (pv 0)) (pa_c (p_var 2 (pv 2)) pa_n)) (lnS (lnS ln0)))))
      (s_cons (s_newset (i := 3) (s_comp2 (by decide) (by decide) (by decide) (ps_setLc2 (i := 3) (own := [("person", 4), ("folder", 5)]) (vs1 := [5]) rfl sc_all_sights.nd rfl rfl (sw_true rfl rfl rfl (by decide +kernel)) (i_j (i_range1 (by rfl) T.z_range (pa_c (p_ix (p_var 0 (pv 0)) p_int) pa_n))) (blkOk_by (N := nm_all_sights) (sc := scp_all_sights) (by decide +kernel)) (by decide) (fun _ _ _ _ _ => all_g fun F => (g_one (pg_name (i := 4) sc_all_sights.nd rfl (by first | exact Or.inl rfl | exact Or.inr rfl)))) (fun _ _ _ _ _ => pts_no) (fun _ _ _ _ _ => all_i (g := all_sights_i4) fun F => (i_range1 (by rfl) T.z_range (pa_c (p_callB c_len (by rfl) T.z_len PySem.boot_len (pa_c (p_ix (p_var 0 (pv 0)) p_int) pa_n)) pa_n))) (fun _ _ _ _ _ => all_g fun F => (g_one (pg_name (i := 5) sc_all_sights.nd rfl (by first | exact Or.inl rfl | exact Or.inr rfl)))) (fun _ _ _ _ _ => pts_no) (fun _ _ _ _ _ => all_p (f := all_sights_e3) fun F => (e_tup (pa_c (p_var 4 (pv 4)) (pa_c (p_var 5 (pv 5)) pa_n)) (lnS (lnS ln0)))))))
      (s_cons (s_retL (n_comp (own := [("person", 4), ("folder", 5)]) (t := (.many [4, 5])) (cond := all_sights_c2) (elt := all_sights_e1) rfl sc_all_sights.nd (i_j (i_seq (p_var 3 (pv 3)))) (blkOk_by (N := nm_all_sights) (sc := scp_all_sights) (by decide +kernel)) (by decide) (fun F _ _ _ _ _ => (g_many (n := 2) rfl (gs_cons (pg_name (i := 4) sc_all_sights.nd rfl (by first | exact Or.inl rfl | exact Or.inr rfl)) (gs_cons (pg_name (i := 5) sc_all_sights.nd rfl (by first | exact Or.inl rfl | exact Or.inr rfl)) gs_nil)))) (fun _ _ _ _ _ => pts_if fun F => (t_tru (e_callI T.person_sees (ok_person_sees T) (hr.mono (by decide)) (pa_c (p_var 1 (pv 1)) (pa_c (p_var 2 (pv 2)) (pa_c (p_var 4 (pv 4)) (pa_c (p_var 5 (pv 5)) pa_n)))) (lnS (lnS (lnS (lnS ln0))))))) (fun F _ _ _ _ _ => (e_tup (pa_c (p_var 4 (pv 4)) (pa_c (p_var 5 (pv 5)) pa_n)) (lnS (lnS ln0))))))
      s_nil)))))
theorem ok_law_ascends (T : Top K mg w) : FnOk P w K mg base CX0 10 T.law_ascends.a T.law_ascends.d ["_law_house_here", "_law_rule_here", "_law_states"] (spP K 3 G_law_ascends) :=
  fn_rule' (body := b_law_ascends) (G := G_law_ascends) (N := nm_law_ascends) (sc := scp_law_ascends) (n := 3) (m := 8) (k := 9) T.law_ascends rfl sc_law_ascends (by decide) rfl rfl rfl fun cdv A outer s H E F hr hF =>
    (s_cons (s_newset (i := 3) (s_comp (by decide) (ps_setLc (i := 3) (own := [("_law_state_here", 6)]) rfl sc_law_ascends.nd rfl rfl (sw_true rfl rfl rfl (by decide +kernel)) (i_j (i_seq (p_var 2 (pv 2)))) (blkOk_by (N := nm_law_ascends) (sc := scp_law_ascends) (by decide +kernel)) (fun _ _ _ _ _ => all_g fun F => (g_one (pg_name (i := 6) sc_law_ascends.nd rfl (by first | exact Or.inl rfl | exact Or.inr rfl)))) (fun _ _ _ _ _ => pts_no) (fun _ _ _ _ _ => all_p (f := law_ascends_e3) fun F => (e_callI T.all_sights (ok_all_sights T) (hr.mono (by decide)) (pa_c (p_var 0 (pv 0)) (pa_c (p_var 1 (pv 1)) (pa_c (p_var 6 (pv 6)) pa_n))) (lnS (lnS (lnS ln0))))))))
      (s_cons (s_for (t := (.many [4, 5])) (f := law_ascends_f2) PassesOwn.never rfl (i_seq (p_new (e_lst (pa_c (e_tup (pa_c (p_ix (p_var 3 (pv 3)) p_int) (pa_c (p_ix (p_var 3 (pv 3)) p_int) pa_n)) (lnS (lnS ln0))) (pa_c (e_tup (pa_c (p_ix (p_var 3 (pv 3)) p_int) (pa_c (p_ix (p_var 3 (pv 3)) p_int) pa_n)) (lnS (lnS ln0))) pa_n)) (lnS (lnS ln0))))) (g_many (n := 2) rfl (gs_cons (pg_name (i := 4) sc_law_ascends.nd rfl (by first | exact Or.inl rfl | exact Or.inr rfl)) (gs_cons (pg_name (i := 5) sc_law_ascends.nd rfl (by first | exact Or.inl rfl | exact Or.inr rfl)) gs_nil))) (s_cons (s_if (t_not (t_tru (p_callB (c_all rfl) (by rfl) T.z_all (by decide +kernel) (pa_c (p_new (n_comp (own := [("_law_one", 7)]) (t := (.one 7)) (cond := noIf) (elt := law_ascends_e1) rfl sc_law_ascends.nd (i_j (i_seq (p_var 4 (pv 4)))) (blkOk_by (N := nm_law_ascends) (sc := scp_law_ascends) (by decide +kernel)) (by decide) (fun F _ _ _ _ _ => (g_one (pg_name (i := 7) sc_law_ascends.nd rfl (by first | exact Or.inl rfl | exact Or.inr rfl)))) (fun _ _ _ _ _ => pts_no) (fun F _ _ _ _ _ => (p_cmp (o_in hr.units) (p_var 7 (pv 7)) (p_var 5 (pv 5)) (by rfl))))) pa_n)))) (s_cons (s_ret p_bool)
      s_nil) s_nil)
      s_nil))
      (s_cons (s_ret p_bool)
      s_nil)))
theorem ok_law_cell_at (T : Top K mg w) : FnOk P w K mg base CX0 1 T.law_cell_at.a T.law_cell_at.d ["_law_script", "_law_k"] (spP K 2 G_law_cell_at) :=
  fn_rule' (body := b_law_cell_at) (G := G_law_cell_at) (N := nm_law_cell_at) (sc := scp_law_cell_at) (n := 2) (m := 2) (k := 0) T.law_cell_at rfl sc_law_cell_at (by decide) rfl rfl rfl fun cdv A outer s H E F hr hF =>
    (s_cons (s_if (pt_cmp' (o_lt hr.units) (p_var 1 (pv 1)) (p_callB c_len (by rfl) T.z_len PySem.boot_len (pa_c (p_var 0 (pv 0)) pa_n)) (nomark _)) (s_cons (s_ret (p_callTy c_int (by rfl) T.z_int (by decide +kernel) (pa_c (p_ix (p_var 0 (pv 0)) (p_var 1 (pv 1))) pa_n)))
      s_nil) s_nil)
      (s_cons (s_if (pt_cmp' (o_gt hr.units) (p_callB c_len (by rfl) T.z_len PySem.boot_len (pa_c (p_var 0 (pv 0)) pa_n)) p_int (nomark _)) (s_cons (s_ret (p_op o_add (p_op o_add (p_op o_mulN (p_op o_mod (p_callTy c_int (by rfl) T.z_int (by decide +kernel) (pa_c (p_ix (p_var 0 (pv 0)) p_int) pa_n)) p_int) p_int) (p_op o_mulN p_int (p_var 1 (pv 1)))) p_int))
      s_nil) s_nil)
      (s_cons (s_ret (p_op o_add (p_op o_mulN p_int (p_var 1 (pv 1))) p_int))
      s_nil)))
theorem ok_law_draws (T : Top K mg w) : FnOk P w K mg base CX0 1 T.law_draws.a T.law_draws.d ["_law_cell", "_law_many"] (spP K 2 G_law_draws) :=
  fn_rule' (body := b_law_draws) (G := G_law_draws) (N := nm_law_draws) (sc := scp_law_draws) (n := 2) (m := 7) (k := 0) T.law_draws rfl sc_law_draws (by decide) rfl rfl rfl fun cdv A outer s H E F hr hF =>
    (s_cons (s_set (i := 2) (ps_set (i := 2) sc_law_draws.nd rfl (by first | exact Or.inl rfl | exact Or.inr rfl) (p_callB (c_max rfl) (by rfl) T.z_max (by decide +kernel) (pa_c p_int (pa_c (p_op o_sub (p_var 0 (pv 0)) (p_op o_pow p_int p_int)) pa_n)))))
      (s_cons (s_set (i := 3) (ps_set (i := 3) sc_law_draws.nd rfl (by first | exact Or.inl rfl | exact Or.inr rfl) (p_op o_mod (p_callTy c_int (by rfl) T.z_int (by decide +kernel) (pa_c (p_var 0 (pv 0)) pa_n)) p_int)))
      (s_cons (s_own (i := 4) (ps_set (i := 4) sc_law_draws.nd rfl (by first | exact Or.inl rfl | exact Or.inr rfl) (e_lst pa_n ln0)))
      (s_cons (s_for (t := (.one 5)) (f := law_draws_f1) PassesOwn.never rfl (i_range1 (by rfl) T.z_range (pa_c (p_var 1 (pv 1)) pa_n)) (g_one (pg_name (i := 5) sc_law_draws.nd rfl (by first | exact Or.inl rfl | exact Or.inr rfl))) (s_cons (s_if (pt_cmp' (o_gt hr.units) (p_var 2 (pv 2)) p_int (nomark _)) (s_cons (s_app (ps_expr (pe_bm PySem.F.plainAttrs_list PySem.F.slot_list_append PySem.F.type_list_append mt_append (pv 4) (pa_cons (p_op o_mod (p_callTy c_int (by rfl) T.z_int (by decide +kernel) (pa_c (p_var 2 (pv 2)) pa_n)) p_int) pa_nil))))
      (s_cons (s_set (i := 2) (ps_set (i := 2) sc_law_draws.nd rfl (by first | exact Or.inl rfl | exact Or.inr rfl) (p_op o_div (p_var 2 (pv 2)) p_int)))
      s_nil)) (s_cons (s_set (i := 6) (ps_set (i := 6) sc_law_draws.nd rfl (by first | exact Or.inl rfl | exact Or.inr rfl) (p_op o_mod (p_callTy c_int (by rfl) T.z_int (by decide +kernel) (pa_c (p_op o_pow (p_op o_add (p_op o_add (p_var 3 (pv 3)) (p_op o_mulN p_int (p_var 5 (pv 5)))) p_int) p_int) pa_n)) p_int)))
      (s_cons (s_app (ps_expr (pe_bm PySem.F.plainAttrs_list PySem.F.slot_list_append PySem.F.type_list_append mt_append (pv 4) (pa_cons (p_op o_mod (p_op o_div (p_op o_mod (p_callTy c_int (by rfl) T.z_int (by decide +kernel) (pa_c (p_op o_mulN (p_var 6 (pv 6)) p_int) pa_n)) p_int) p_int) p_int) pa_nil))))
      s_nil)))
      s_nil))
      (s_cons (s_pub 4 (s_ret (p_var 4 (pv 4))))
      s_nil)))))
theorem ok_law_groups (T : Top K mg w) : FnOk P w K mg base CX0 1 T.law_groups.a T.law_groups.d ["_law_members", "_law_who_here", "_law_deep"] (spP K 3 G_law_groups) :=
  fn_rule' (body := b_law_groups) (G := G_law_groups) (N := nm_law_groups) (sc := scp_law_groups) (n := 3) (m := 8) (k := 0) T.law_groups rfl sc_law_groups (by decide) rfl rfl rfl fun cdv A outer s H E F hr hF =>
    (s_cons (s_set (i := 3) (ps_set (i := 3) sc_law_groups.nd rfl (by first | exact Or.inl rfl | exact Or.inr rfl) (p_new (n_comp (own := [("_law_group", 6)]) (t := (.one 6)) (cond := law_groups_c7) (elt := law_groups_e6) rfl sc_law_groups.nd (i_j (i_range1 (by rfl) T.z_range (pa_c p_int pa_n))) (blkOk_by (N := nm_law_groups) (sc := scp_law_groups) (by decide +kernel)) (by decide) (fun F _ _ _ _ _ => (g_one (pg_name (i := 6) sc_law_groups.nd rfl (by first | exact Or.inl rfl | exact Or.inr rfl)))) (fun _ _ _ _ _ => pts_if fun F => (pt_cmp' (o_in hr.units) (e_tup (pa_c (p_var 6 (pv 6)) (pa_c (p_var 1 (pv 1)) pa_n)) (lnS (lnS ln0))) (p_var 0 (pv 0)) (by rfl))) (fun F _ _ _ _ _ => (p_var 6 (pv 6)))))))
      (s_cons (s_for (t := (.one 4)) (f := law_groups_f5) PassesOwn.never rfl (i_range1 (by rfl) T.z_range (pa_c (p_if (t_tru (p_var 2 (pv 2))) p_int p_int) pa_n)) (g_one (pg_name (i := 4) sc_law_groups.nd rfl (by first | exact Or.inl rfl | exact Or.inr rfl))) (s_cons (s_set (i := 5) (ps_set (i := 5) sc_law_groups.nd rfl (by first | exact Or.inl rfl | exact Or.inr rfl) (p_new (n_comp (own := [("_law_group", 6)]) (t := (.one 6)) (cond := noIf) (elt := law_groups_e4) rfl sc_law_groups.nd (i_j (i_seq (p_var 3 (pv 3)))) (blkOk_by (N := nm_law_groups) (sc := scp_law_groups) (by decide +kernel)) (by decide) (fun F _ _ _ _ _ => (g_one (pg_name (i := 6) sc_law_groups.nd rfl (by first | exact Or.inl rfl | exact Or.inr rfl)))) (fun _ _ _ _ _ => pts_no) (fun F _ _ _ _ _ => (e_tup (pa_c p_str (pa_c (p_var 6 (pv 6)) pa_n)) (lnS (lnS ln0))))))))
      (s_cons (s_set (i := 3) (ps_set (i := 3) sc_law_groups.nd rfl (by first | exact Or.inl rfl | exact Or.inr rfl) (p_new (n_comp (own := [("_law_group", 6)]) (t := (.one 6)) (cond := law_groups_c3) (elt := law_groups_e2) rfl sc_law_groups.nd (i_j (i_range1 (by rfl) T.z_range (pa_c p_int pa_n))) (blkOk_by (N := nm_law_groups) (sc := scp_law_groups) (by decide +kernel)) (by decide) (fun F _ _ _ _ _ => (g_one (pg_name (i := 6) sc_law_groups.nd rfl (by first | exact Or.inl rfl | exact Or.inr rfl)))) (fun _ _ _ _ _ => pts_if fun F => (t_w (w_or (pt_cmp' (o_in hr.units) (p_var 6 (pv 6)) (p_var 3 (pv 3)) (by rfl)) (w_or1 (t_tru (p_callB (c_any rfl) (by rfl) T.z_any (by decide +kernel) (pa_c (p_new (n_comp (own := [("_law_one", 7)]) (t := (.one 7)) (cond := noIf) (elt := law_groups_e1) rfl sc_law_groups.nd (i_j (i_seq (p_var 5 (pv 5)))) (blkOk_in (N := nm_law_groups) (sc0 := scp_law_groups) rfl (by decide +kernel)) (by decide) (fun F _ _ _ _ _ => (g_one (pg_name (i := 7) sc_law_groups.nd rfl (by first | exact Or.inl rfl | exact Or.inr rfl)))) (fun _ _ _ _ _ => pts_no) (fun F _ _ _ _ _ => (p_cmp (o_in hr.units) (e_tup (pa_c (p_var 6 (pv 6)) (pa_c (p_var 7 (pv 7)) pa_n)) (lnS (lnS ln0))) (p_var 0 (pv 0)) (by rfl))))) pa_n))))))) (fun F _ _ _ _ _ => (p_var 6 (pv 6)))))))
      s_nil)))
      (s_cons (s_ret (p_var 3 (pv 3)))
      s_nil)))
theorem ok_law_counts (T : Top K mg w) : FnOk P w K mg base CX0 2 T.law_counts.a T.law_counts.d ["_law_rule_here", "_law_state_here", "_law_person", "_law_who_here"] (spP K 4 G_law_counts) :=
  fn_rule' (body := b_law_counts) (G := G_law_counts) (N := nm_law_counts) (sc := scp_law_counts) (n := 4) (m := 5) (k := 1) T.law_counts rfl sc_law_counts (by decide) rfl rfl rfl fun cdv A outer s H E F hr hF =>
    (s_cons (s_set (i := 4) (ps_set (i := 4) sc_law_counts.nd rfl (by first | exact Or.inl rfl | exact Or.inr rfl) (p_new (n_callTy c_listN (by rfl) T.z_list (by decide +kernel) (pa_c (p_ix (p_ix (p_var 1 (pv 1)) p_int) (p_var 2 (pv 2))) pa_n)))))
      (s_cons (s_if (pt_cmp' (o_eq hr.units) (p_ix (p_var 0 (pv 0)) p_int) p_str (nomark _)) (s_cons (s_set (i := 4) (ps_set (i := 4) sc_law_counts.nd rfl (by first | exact Or.inl rfl | exact Or.inr rfl) (e_callI T.law_groups (ok_law_groups T) (hr.mono (by decide)) (pa_c (p_ix (p_var 1 (pv 1)) p_int) (pa_c (e_tup (pa_c p_str (pa_c (p_var 2 (pv 2)) pa_n)) (lnS (lnS ln0))) (pa_c (p_ix (p_var 0 (pv 0)) p_int) pa_n))) (lnS (lnS (lnS ln0))))))
      s_nil) s_nil)
      (s_cons (s_ret (p_or (p_cmp (o_eq hr.units) (p_var 3 (pv 3)) (e_tup (pa_c p_str (pa_c (p_var 2 (pv 2)) pa_n)) (lnS (lnS ln0))) (nomark _)) (p_one (p_and (p_cmp (o_eq hr.units) (p_ix (p_var 3 (pv 3)) p_int) p_str (nomark _)) (p_one (p_cmp (o_in hr.units) (p_ix (p_var 3 (pv 3)) p_int) (p_var 4 (pv 4)) (by rfl)))))))
      s_nil)))
theorem ok_law_way (T : Top K mg w) : FnOk P w K mg base CX0 1 T.law_way.a T.law_way.d ["_law_state_here", "_law_folder"] (spP K 2 G_law_way) :=
  fn_rule' (body := b_law_way) (G := G_law_way) (N := nm_law_way) (sc := scp_law_way) (n := 2) (m := 4) (k := 0) T.law_way rfl sc_law_way (by decide) rfl rfl rfl fun cdv A outer s H E F hr hF =>
    (s_cons (s_own (i := 2) (ps_set (i := 2) sc_law_way.nd rfl (by first | exact Or.inl rfl | exact Or.inr rfl) (e_lst (pa_c (p_var 1 (pv 1)) pa_n) (lnS ln0))))
      (s_cons (s_for (t := (.one 3)) (f := law_way_f1) PassesOwn.never rfl (i_range1 (by rfl) T.z_range (pa_c (p_callB c_len (by rfl) T.z_len PySem.boot_len (pa_c (p_ix (p_var 0 (pv 0)) p_int) pa_n)) pa_n)) (g_one (pg_name (i := 3) sc_law_way.nd rfl (by first | exact Or.inl rfl | exact Or.inr rfl))) (s_cons (s_if (t_w (w_and (pt_cmp' (o_gt hr.units) (p_ixOwn 2 (pv 2) (p_un u_neg p_int)) p_int (nomark _)) (w_and1 (t_not (t_tru (p_ix (p_ix (p_var 0 (pv 0)) p_int) (p_ixOwn 2 (pv 2) (p_un u_neg p_int)))))))) (s_cons (s_app (ps_expr (pe_bm PySem.F.plainAttrs_list PySem.F.slot_list_append PySem.F.type_list_append mt_append (pv 2) (pa_cons (p_ix (p_ix (p_var 0 (pv 0)) p_int) (p_op o_sub (p_ixOwn 2 (pv 2) (p_un u_neg p_int)) p_int)) pa_nil))))
      s_nil) s_nil)
      s_nil))
      (s_cons (s_pub 2 (s_ret (p_var 2 (pv 2))))
      s_nil)))
theorem ok_law_elsewhere (T : Top K mg w) : FnOk P w K mg base CX0 10 T.law_elsewhere.a T.law_elsewhere.d ["_law_house_here", "_law_rule_here", "_law_states", "_law_folder", "_law_who_here"] (spP K 5 G_law_elsewhere) :=
  fn_rule' (body := b_law_elsewhere) (G := G_law_elsewhere) (N := nm_law_elsewhere) (sc := scp_law_elsewhere) (n := 5) (m := 10) (k := 9) T.law_elsewhere rfl sc_law_elsewhere (by decide) rfl rfl rfl fun cdv A outer s H E F hr hF =>
    (s_cons (s_newset (i := 5) (s_comp (by decide) (ps_setLc (i := 5) (own := [("_law_state_here", 8)]) rfl sc_law_elsewhere.nd rfl rfl (sw_true rfl rfl rfl (by decide +kernel)) (i_j (i_seq (p_var 2 (pv 2)))) (blkOk_by (N := nm_law_elsewhere) (sc := scp_law_elsewhere) (by decide +kernel)) (fun _ _ _ _ _ => all_g fun F => (g_one (pg_name (i := 8) sc_law_elsewhere.nd rfl (by first | exact Or.inl rfl | exact Or.inr rfl)))) (fun _ _ _ _ _ => pts_no) (fun _ _ _ _ _ => all_p (f := law_elsewhere_e4) fun F => (e_callI T.all_sights (ok_all_sights T) (hr.mono (by decide)) (pa_c (p_var 0 (pv 0)) (pa_c (p_var 1 (pv 1)) (pa_c (p_var 8 (pv 8)) pa_n))) (lnS (lnS (lnS ln0))))))))
      (s_cons (s_for (t := (.one 6)) (f := law_elsewhere_f3) PassesOwn.never rfl (i_range1 (by rfl) T.z_range (pa_c (p_ix (p_var 0 (pv 0)) p_int) pa_n)) (g_one (pg_name (i := 6) sc_law_elsewhere.nd rfl (by first | exact Or.inl rfl | exact Or.inr rfl))) (s_cons (s_for (t := (.one 7)) (f := law_elsewhere_f2) PassesOwn.never rfl (i_range1 (by rfl) T.z_range (pa_c (p_op o_add (p_callB c_len (by rfl) T.z_len PySem.boot_len (pa_c (p_ix (p_var 0 (pv 0)) p_int) pa_n)) p_int) pa_n)) (g_one (pg_name (i := 7) sc_law_elsewhere.nd rfl (by first | exact Or.inl rfl | exact Or.inr rfl))) (s_cons (s_if (t_w (w_or (t_not (t_tru (e_callI T.law_counts (ok_law_counts T) (hr.mono (by decide)) (pa_c (p_var 1 (pv 1)) (pa_c (p_ix (p_var 2 (pv 2)) p_int) (pa_c (p_var 6 (pv 6)) (pa_c (p_var 4 (pv 4)) pa_n)))) (lnS (lnS (lnS (lnS ln0))))))) (w_or1 (pt_cmp' (o_nin hr.units) (p_var 3 (pv 3)) (e_callI T.law_way (ok_law_way T) (hr.mono (by decide)) (pa_c (p_ix (p_var 2 (pv 2)) p_int) (pa_c (p_var 7 (pv 7)) pa_n)) (lnS (lnS ln0))) (by rfl))))) (s_cons (s_if (pt_cmp' (o_ne hr.units) (p_lenSetB rfl (by rfl) T.z_len (by rfl) T.z_set (pa_c (p_new (n_comp (own := [("_law_seen", 9)]) (t := (.one 9)) (cond := noIf) (elt := law_elsewhere_e1) rfl sc_law_elsewhere.nd (i_j (i_seq (p_var 5 (pv 5)))) (blkOk_by (N := nm_law_elsewhere) (sc := scp_law_elsewhere) (by decide +kernel)) (by decide) (fun F _ _ _ _ _ => (g_one (pg_name (i := 9) sc_law_elsewhere.nd rfl (by first | exact Or.inl rfl | exact Or.inr rfl)))) (fun _ _ _ _ _ => pts_no) (fun F _ _ _ _ _ => (p_cmp (o_in hr.units) (e_tup (pa_c (p_var 6 (pv 6)) (pa_c (p_var 7 (pv 7)) pa_n)) (lnS (lnS ln0))) (p_var 9 (pv 9)) (by rfl))))) pa_n)) p_int (nomark _)) (s_cons (s_ret p_bool)
      s_nil) s_nil)
      s_nil) s_nil)
      s_nil))
      s_nil))
      (s_cons (s_ret p_bool)
      s_nil)))
theorem ok_law_who (T : Top K mg w) : FnOk P w K mg base CX0 1 T.law_who.a T.law_who.d ["_law_draw", "_law_people"] (spP K 2 G_law_who) :=
  fn_rule' (body := b_law_who) (G := G_law_who) (N := nm_law_who) (sc := scp_law_who) (n := 2) (m := 3) (k := 0) T.law_who rfl sc_law_who (by decide) rfl rfl rfl fun cdv A outer s H E F hr hF =>
    (s_cons (s_set (i := 2) (ps_set (i := 2) sc_law_who.nd rfl (by first | exact Or.inl rfl | exact Or.inr rfl) (p_op o_mod (p_callTy c_int (by rfl) T.z_int (by decide +kernel) (pa_c (p_var 0 (pv 0)) pa_n)) (p_op o_add (p_var 1 (pv 1)) p_int))))
      (s_cons (s_if (pt_cmp' (o_lt hr.units) (p_var 2 (pv 2)) (p_var 1 (pv 1)) (nomark _)) (s_cons (s_ret (e_tup (pa_c p_str (pa_c (p_var 2 (pv 2)) pa_n)) (lnS (lnS ln0))))
      s_nil) s_nil)
      (s_cons (s_ret (e_tup (pa_c p_str (pa_c (p_op o_sub (p_var 2 (pv 2)) (p_var 1 (pv 1))) pa_n)) (lnS (lnS ln0))))
      s_nil)))
theorem ok_law_body (T : Top K mg w) : FnOk P w K mg base CX0 2 T.law_body.a T.law_body.d ["_law_draws_here", "_law_people", "_law_count"] (spP K 3 G_law_body) :=
  fn_rule' (body := b_law_body) (G := G_law_body) (N := nm_law_body) (sc := scp_law_body) (n := 3) (m := 19) (k := 1) T.law_body rfl sc_law_body (by decide) rfl rfl rfl fun cdv A outer s H E F hr hF =>
    (s_cons (s_own (i := 3) (ps_set (i := 3) sc_law_body.nd rfl (by first | exact Or.inl rfl | exact Or.inr rfl) (n_listRange2 rfl (by rfl) T.z_list (by rfl) T.z_range p_int (p_op o_add (p_var 2 (pv 2)) p_int))))
      (s_cons (s_own (i := 4) (ps_set (i := 4) sc_law_body.nd rfl (by first | exact Or.inl rfl | exact Or.inr rfl) (n_mul (e_lst (pa_c p_int pa_n) (lnS ln0)) (p_var 2 (pv 2)))))
      (s_cons (s_own (i := 5) (ps_set (i := 5) sc_law_body.nd rfl (by first | exact Or.inl rfl | exact Or.inr rfl) (e_lst (pa_c p_int pa_n) (lnS ln0))))
      (s_cons (s_for (t := (.one 6)) (f := law_body_f9) PassesOwn.never rfl (i_range1 (by rfl) T.z_range (pa_c (p_var 2 (pv 2)) pa_n)) (g_one (pg_name (i := 6) sc_law_body.nd rfl (by first | exact Or.inl rfl | exact Or.inr rfl))) (s_cons (s_popAt (ps_set (i := 14) sc_law_body.nd rfl (by first | exact Or.inl rfl | exact Or.inr rfl) (pe_bm PySem.F.plainAttrs_list PySem.F.slot_list_pop PySem.F.type_list_pop mt_popAt (pv 3) (pa_cons (p_op o_mod (p_callTy c_int (by rfl) T.z_int (by decide +kernel) (pa_c (p_ix (p_var 0 (pv 0)) (p_var 6 (pv 6))) pa_n)) (w_len (by rfl) T.z_len (w_own 3 (pv 3)))) pa_nil))))
      (s_cons (s_setIx (ps_asg (p_ixOwn 5 (pv 5) (p_op o_mod (p_callTy c_int (by rfl) T.z_int (by decide +kernel) (pa_c (p_ix (p_var 0 (pv 0)) (p_op o_add p_int (p_var 6 (pv 6)))) pa_n)) (w_len (by rfl) T.z_len (w_own 5 (pv 5))))) (pg_sub (pv 4) (p_op o_sub (p_var 14 (pv 14)) p_int) set_list)))
      (s_cons (s_app (ps_expr (pe_bm PySem.F.plainAttrs_list PySem.F.slot_list_append PySem.F.type_list_append mt_append (pv 5) (pa_cons (p_var 14 (pv 14)) pa_nil))))
      s_nil))))
      (s_cons (s_newset (i := 7) (s_comp (by decide) (ps_setLc (i := 7) (own := [("_law_k", 6)]) rfl sc_law_body.nd rfl rfl (sw_true rfl rfl rfl (by decide +kernel)) (i_j (i_range1 (by rfl) T.z_range (pa_c (p_op o_add (p_var 2 (pv 2)) p_int) pa_n))) (blkOk_by (N := nm_law_body) (sc := scp_law_body) (by decide +kernel)) (fun _ _ _ _ _ => all_g fun F => (g_one (pg_name (i := 6) sc_law_body.nd rfl (by first | exact Or.inl rfl | exact Or.inr rfl)))) (fun _ _ _ _ _ => pts_no) (fun _ _ _ _ _ => all_p (f := law_body_e8) fun F => (p_cmp (o_eq hr.units) (p_op o_mod (p_callTy c_int (by rfl) T.z_int (by decide +kernel) (pa_c (p_ix (p_var 0 (pv 0)) (p_op o_add p_int (p_var 6 (pv 6)))) pa_n)) p_int) p_int (nomark _))))))
      (s_cons (s_dic (i := 8) (ps_set (i := 8) sc_law_body.nd rfl (by first | exact Or.inl rfl | exact Or.inr rfl) e_dic))
      (s_cons (s_for (t := (.one 6)) (f := law_body_f7) PassesOwn.never rfl (i_range1 (by rfl) T.z_range (pa_c (p_op o_mod (p_callTy c_int (by rfl) T.z_int (by decide +kernel) (pa_c (p_ix (p_var 0 (pv 0)) p_int) pa_n)) p_int) pa_n)) (g_one (pg_name (i := 6) sc_law_body.nd rfl (by first | exact Or.inl rfl | exact Or.inr rfl))) (s_cons (s_set (i := 15) (ps_set (i := 15) sc_law_body.nd rfl (by first | exact Or.inl rfl | exact Or.inr rfl) (p_callTy c_int (by rfl) T.z_int (by decide +kernel) (pa_c (p_ix (p_var 0 (pv 0)) (p_op o_add p_int (p_var 6 (pv 6)))) pa_n))))
      (s_cons (s_dput hr.units 8 (pv 8) (e_tup (pa_c (p_op o_mod (p_var 15 (pv 15)) (p_op o_add (p_var 2 (pv 2)) p_int)) (pa_c (e_callI T.law_who (ok_law_who T) (hr.mono (by decide)) (pa_c (p_op o_div (p_var 15 (pv 15)) p_int) (pa_c (p_var 1 (pv 1)) pa_n)) (lnS (lnS ln0))) pa_n)) (lnS (lnS ln0))) (p_ix (p_new (e_lst (pa_c p_str (pa_c p_str pa_n)) (lnS (lnS ln0)))) (p_op o_mod (p_op o_div (p_var 15 (pv 15)) p_int) p_int)))
      s_nil)))
      (s_cons (s_newset (i := 9) (s_comp (by decide) (ps_setLc (i := 9) (own := [("_law_spot", 17)]) rfl sc_law_body.nd rfl rfl (sw_true rfl rfl rfl (by decide +kernel)) (j_dict 8 (pv 8)) (blkOk_by (N := nm_law_body) (sc := scp_law_body) (by decide +kernel)) (fun _ _ _ _ _ => all_g fun F => (g_one (pg_name (i := 17) sc_law_body.nd rfl (by first | exact Or.inl rfl | exact Or.inr rfl)))) (fun _ _ _ _ _ => pts_no) (fun _ _ _ _ _ => all_p (f := law_body_e6) fun F => (e_tup (pa_c (p_ix (p_var 17 (pv 17)) p_int) (pa_c (p_ix (p_var 17 (pv 17)) p_int) (pa_c (p_dget hr.units 8 (pv 8) (p_var 17 (pv 17)) (fun _ _ => rfl)) pa_n))) (lnS (lnS (lnS ln0))))))))
      (s_cons (s_set (i := 10) (ps_set (i := 10) sc_law_body.nd rfl (by first | exact Or.inl rfl | exact Or.inr rfl) (p_ix (p_new (e_lst (pa_c (p_new (e_lst (pa_c p_int (pa_c p_int (pa_c p_int pa_n))) (lnS (lnS (lnS ln0))))) (pa_c (p_new (e_lst (pa_c p_int (pa_c p_int (pa_c p_int pa_n))) (lnS (lnS (lnS ln0))))) (pa_c (p_new (e_lst (pa_c p_int (pa_c p_int (pa_c p_int pa_n))) (lnS (lnS (lnS ln0))))) (pa_c (p_new (e_lst (pa_c p_int (pa_c p_int (pa_c p_int pa_n))) (lnS (lnS (lnS ln0))))) (pa_c (p_new (e_lst (pa_c p_int (pa_c p_int (pa_c p_int pa_n))) (lnS (lnS (lnS ln0))))) (pa_c (p_new (e_lst (pa_c p_int (pa_c p_int (pa_c p_int pa_n))) (lnS (lnS (lnS ln0))))) pa_n)))))) (lnS (lnS (lnS (lnS (lnS (lnS ln0)))))))) (p_op o_mod (p_callTy c_int (by rfl) T.z_int (by decide +kernel) (pa_c (p_ix (p_var 0 (pv 0)) p_int) pa_n)) p_int))))
      (s_cons (s_set (i := 11) (ps_set (i := 11) sc_law_body.nd rfl (by first | exact Or.inl rfl | exact Or.inr rfl) (p_new (e_lst (pa_c (e_tup (pa_c (p_ix (p_var 10 (pv 10)) p_int) (pa_c (p_ix (p_var 10 (pv 10)) p_int) pa_n)) (lnS (lnS ln0))) (pa_c (e_tup (pa_c (p_ix (p_var 10 (pv 10)) p_int) (pa_c (p_ix (p_var 10 (pv 10)) p_int) pa_n)) (lnS (lnS ln0))) (pa_c (e_tup (pa_c (p_ix (p_var 10 (pv 10)) p_int) (pa_c (p_ix (p_var 10 (pv 10)) p_int) pa_n)) (lnS (lnS ln0))) pa_n))) (lnS (lnS (lnS ln0)))))))
      (s_cons (s_newset (i := 12) (s_comp (by decide) (ps_setLc (i := 12) (own := [("_law_k", 6)]) rfl sc_law_body.nd rfl rfl (sw_true rfl rfl rfl (by decide +kernel)) (i_j (i_range1 (by rfl) T.z_range (pa_c p_int pa_n))) (blkOk_by (N := nm_law_body) (sc := scp_law_body) (by decide +kernel)) (fun _ _ _ _ _ => all_g fun F => (g_one (pg_name (i := 6) sc_law_body.nd rfl (by first | exact Or.inl rfl | exact Or.inr rfl)))) (fun _ _ _ _ _ => pts_if fun F => (pt_cmp' (o_eq hr.units) (p_op o_mod (p_callTy c_int (by rfl) T.z_int (by decide +kernel) (pa_c (p_ix (p_var 0 (pv 0)) (p_op o_add p_int (p_var 6 (pv 6)))) pa_n)) p_int) p_int (nomark _))) (fun _ _ _ _ _ => all_p (f := law_body_e4) fun F => (e_tup (pa_c (p_ix (p_ix (p_var 11 (pv 11)) (p_var 6 (pv 6))) p_int) (pa_c (e_tup (pa_c p_str (pa_c (p_ix (p_ix (p_var 11 (pv 11)) (p_var 6 (pv 6))) p_int) pa_n)) (lnS (lnS ln0))) pa_n)) (lnS (lnS ln0)))))))
      (s_cons (s_for (t := (.one 13)) (f := law_body_f3) PassesOwn.never rfl (i_range1 (by rfl) T.z_range (pa_c (p_var 1 (pv 1)) pa_n)) (g_one (pg_name (i := 13) sc_law_body.nd rfl (by first | exact Or.inl rfl | exact Or.inr rfl))) (s_cons (s_set (i := 16) (ps_set (i := 16) sc_law_body.nd rfl (by first | exact Or.inl rfl | exact Or.inr rfl) (p_sl (p_var 0 (pv 0)) (p_oS (p_op o_add p_int (p_op o_mulN p_int (p_var 13 (pv 13))))) (p_oS (p_op o_add p_int (p_op o_mulN p_int (p_var 13 (pv 13))))))))
      (s_cons (s_set (i := 12) (ps_set (i := 12) sc_law_body.nd rfl (by first | exact Or.inl rfl | exact Or.inr rfl) (p_op o_add (p_var 12 (pv 12)) (p_new (n_comp (own := [("_law_group", 18)]) (t := (.one 18)) (cond := law_body_c2) (elt := law_body_e1) rfl sc_law_body.nd (i_j (i_range1 (by rfl) T.z_range (pa_c p_int pa_n))) (blkOk_by (N := nm_law_body) (sc := scp_law_body) (by decide +kernel)) (by decide) (fun F _ _ _ _ _ => (g_one (pg_name (i := 18) sc_law_body.nd rfl (by first | exact Or.inl rfl | exact Or.inr rfl)))) (fun _ _ _ _ _ => pts_if fun F => (pt_cmp' (o_eq hr.units) (p_op o_mod (p_callTy c_int (by rfl) T.z_int (by decide +kernel) (pa_c (p_ix (p_var 16 (pv 16)) (p_var 18 (pv 18))) pa_n)) p_int) p_int (nomark _))) (fun F _ _ _ _ _ => (e_tup (pa_c (p_var 18 (pv 18)) (pa_c (e_tup (pa_c p_str (pa_c (p_var 13 (pv 13)) pa_n)) (lnS (lnS ln0))) pa_n)) (lnS (lnS ln0)))))))))
      s_nil)))
      (s_cons (s_ret (e_tup (pa_c (p_tupOwn (y := "") 4 (pv 4) (by rfl) T.z_tuple) (pa_c (p_callTy c_tuple (by rfl) T.z_tuple (by decide +kernel) (pa_c (p_var 7 (pv 7)) pa_n)) (pa_c (p_callTy c_tuple (by rfl) T.z_tuple (by decide +kernel) (pa_c (p_new (n_callB (c_sortedN hr.units) (by rfl) T.z_sorted (by decide +kernel) (pa_c (p_var 9 (pv 9)) pa_n))) pa_n)) (pa_c (p_callTy c_tuple (by rfl) T.z_tuple (by decide +kernel) (pa_c (p_new (n_callB (c_sortedN hr.units) (by rfl) T.z_sorted (by decide +kernel) (pa_c (p_var 12 (pv 12)) pa_n))) pa_n)) pa_n)))) (lnS (lnS (lnS (lnS ln0))))))
      s_nil)))))))))))))
theorem ok_law_house (T : Top K mg w) : FnOk P w K mg base CX0 3 T.law_house.a T.law_house.d ["_law_cell"] (spP K 1 G_law_house) :=
  fn_rule' (body := b_law_house) (G := G_law_house) (N := nm_law_house) (sc := scp_law_house) (n := 1) (m := 3) (k := 2) T.law_house rfl sc_law_house (by decide) rfl rfl rfl fun cdv A outer s H E F hr hF =>
    (s_cons (s_set (i := 1) (ps_set (i := 1) sc_law_house.nd rfl (by first | exact Or.inl rfl | exact Or.inr rfl) (e_callI T.law_draws (ok_law_draws T) (hr.mono (by decide)) (pa_c (p_var 0 (pv 0)) (pa_c p_int pa_n)) (lnS (lnS ln0)))))
      (s_cons (s_set (i := 2) (ps_set (i := 2) sc_law_house.nd rfl (by first | exact Or.inl rfl | exact Or.inr rfl) (p_op o_add p_int (p_op o_mod (p_callTy c_int (by rfl) T.z_int (by decide +kernel) (pa_c (p_ix (p_var 1 (pv 1)) p_int) pa_n)) p_int))))
      (s_cons (s_ret (p_op o_add (e_tup (pa_c (p_var 2 (pv 2)) pa_n) (lnS ln0)) (e_callI T.law_body (ok_law_body T) (hr.mono (by decide)) (pa_c (p_sl (p_var 1 (pv 1)) (p_oS p_int) p_oN) (pa_c (p_var 2 (pv 2)) (pa_c (p_op o_mod (p_callTy c_int (by rfl) T.z_int (by decide +kernel) (pa_c (p_ix (p_var 1 (pv 1)) p_int) pa_n)) p_int) pa_n))) (lnS (lnS (lnS ln0))))))
      s_nil)))
theorem ok_law_rule (T : Top K mg w) : FnOk P w K mg base CX0 1 T.law_rule.a T.law_rule.d ["_law_draw"] (spP K 1 G_law_rule) :=
  fn_rule' (body := b_law_rule) (G := G_law_rule) (N := nm_law_rule) (sc := scp_law_rule) (n := 1) (m := 2) (k := 0) T.law_rule rfl sc_law_rule (by decide) rfl rfl rfl fun cdv A outer s H E F hr hF =>
    (s_cons (s_set (i := 0) (ps_set (i := 0) sc_law_rule.nd rfl (by first | exact Or.inl rfl | exact Or.inr rfl) (p_callTy c_int (by rfl) T.z_int (by decide +kernel) (pa_c (p_var 0 (pv 0)) pa_n))))
      (s_cons (s_set (i := 1) (ps_set (i := 1) sc_law_rule.nd rfl (by first | exact Or.inl rfl | exact Or.inr rfl) (p_ix (p_new (e_lst (pa_c p_str (pa_c p_str pa_n)) (lnS (lnS ln0)))) (p_op o_mod (p_var 0 (pv 0)) p_int))))
      (s_cons (s_ret (e_tup (pa_c (p_var 1 (pv 1)) (pa_c (p_ix (p_new (e_lst (pa_c p_str (pa_c p_str pa_n)) (lnS (lnS ln0)))) (p_op o_mod (p_op o_div (p_var 0 (pv 0)) p_int) p_int)) (pa_c (p_ix (p_new (e_lst (pa_c p_str (pa_c p_str pa_n)) (lnS (lnS ln0)))) (p_op o_mod (p_op o_div (p_var 0 (pv 0)) p_int) p_int)) (pa_c (p_cmp (o_eq hr.units) (p_op o_mod (p_op o_div (p_var 0 (pv 0)) p_int) p_int) p_int (nomark _)) pa_n)))) (lnS (lnS (lnS (lnS ln0))))))
      s_nil)))
theorem ok_law_state (T : Top K mg w) : FnOk P w K mg base CX0 3 T.law_state.a T.law_state.d ["_law_cell", "_law_people", "_law_count"] (spP K 3 G_law_state) :=
  fn_rule' (body := b_law_state) (G := G_law_state) (N := nm_law_state) (sc := scp_law_state) (n := 3) (m := 8) (k := 2) T.law_state rfl sc_law_state (by decide) rfl rfl rfl fun cdv A outer s H E F hr hF =>
    (s_cons (s_set (i := 3) (ps_set (i := 3) sc_law_state.nd rfl (by first | exact Or.inl rfl | exact Or.inr rfl) (e_callI T.law_draws (ok_law_draws T) (hr.mono (by decide)) (pa_c (p_var 0 (pv 0)) (pa_c p_int pa_n)) (lnS (lnS ln0)))))
      (s_cons (s_own (i := 4) (ps_set (i := 4) sc_law_state.nd rfl (by first | exact Or.inl rfl | exact Or.inr rfl) (e_lst pa_n ln0)))
      (s_cons (s_for (t := (.one 5)) (f := law_state_f3) PassesOwn.never rfl (i_range1 (by rfl) T.z_range (pa_c (p_var 1 (pv 1)) pa_n)) (g_one (pg_name (i := 5) sc_law_state.nd rfl (by first | exact Or.inl rfl | exact Or.inr rfl))) (s_cons (s_set (i := 6) (ps_set (i := 6) sc_law_state.nd rfl (by first | exact Or.inl rfl | exact Or.inr rfl) (p_sl (p_var 3 (pv 3)) (p_oS (p_op o_add p_int (p_op o_mulN p_int (p_var 5 (pv 5))))) (p_oS (p_op o_add p_int (p_op o_mulN p_int (p_var 5 (pv 5))))))))
      (s_cons (s_app (ps_expr (pe_bm PySem.F.plainAttrs_list PySem.F.slot_list_append PySem.F.type_list_append mt_append (pv 4) (pa_cons (p_callTy c_tuple (by rfl) T.z_tuple (by decide +kernel) (pa_c (p_new (n_comp (own := [("_law_group", 7)]) (t := (.one 7)) (cond := law_state_c2) (elt := law_state_e1) rfl sc_law_state.nd (i_j (i_range1 (by rfl) T.z_range (pa_c p_int pa_n))) (blkOk_by (N := nm_law_state) (sc := scp_law_state) (by decide +kernel)) (by decide) (fun F _ _ _ _ _ => (g_one (pg_name (i := 7) sc_law_state.nd rfl (by first | exact Or.inl rfl | exact Or.inr rfl)))) (fun _ _ _ _ _ => pts_if fun F => (pt_cmp' (o_eq hr.units) (p_op o_mod (p_callTy c_int (by rfl) T.z_int (by decide +kernel) (pa_c (p_ix (p_var 6 (pv 6)) (p_var 7 (pv 7))) pa_n)) p_int) p_int (nomark _))) (fun F _ _ _ _ _ => (p_var 7 (pv 7))))) pa_n)) pa_nil))))
      s_nil)))
      (s_cons (s_ret (p_op o_add (e_callI T.law_body (ok_law_body T) (hr.mono (by decide)) (pa_c (p_var 3 (pv 3)) (pa_c (p_var 1 (pv 1)) (pa_c (p_var 2 (pv 2)) pa_n))) (lnS (lnS (lnS ln0)))) (e_tup (pa_c (p_tupOwn (y := "") 4 (pv 4) (by rfl) T.z_tuple) pa_n) (lnS ln0))))
      s_nil))))
theorem ok_law_with (T : Top K mg w) : FnOk P w K mg base CX0 1 T.law_with.a T.law_with.d ["_law_state_here", "_law_entries"] (spP K 2 G_law_with) :=
  fn_rule' (body := b_law_with) (G := G_law_with) (N := nm_law_with) (sc := scp_law_with) (n := 2) (m := 2) (k := 0) T.law_with rfl sc_law_with (by decide) rfl rfl rfl fun cdv A outer s H E F hr hF =>
    (s_cons (s_ret (p_op o_add (p_op o_add (p_sl (p_var 0 (pv 0)) p_oN (p_oS p_int)) (e_tup (pa_c (p_callTy c_tuple (by rfl) T.z_tuple (by decide +kernel) (pa_c (p_new (n_callB (c_sortedN hr.units) (by rfl) T.z_sorted (by decide +kernel) (pa_c (p_var 1 (pv 1)) pa_n))) pa_n)) pa_n) (lnS ln0))) (p_sl (p_var 0 (pv 0)) (p_oS p_int) p_oN)))
      s_nil)
theorem ok_law (T : Top K mg w) : FnOk P w K mg base CX0 11 T.law.a T.law.d ["_law_script"] (spP K 1 G_law) :=
  fn_rule' (body := b_law) (G := G_law) (N := nm_law) (sc := scp_law) (n := 1) (m := 15) (k := 10) T.law rfl sc_law (by decide) rfl rfl rfl fun cdv A outer s H E F hr hF =>
    (s_cons (s_set (i := 1) (ps_set (i := 1) sc_law.nd rfl (by first | exact Or.inl rfl | exact Or.inr rfl) (e_callI T.law_house (ok_law_house T) (hr.mono (by decide)) (pa_c (e_callI T.law_cell_at (ok_law_cell_at T) (hr.mono (by decide)) (pa_c (p_var 0 (pv 0)) (pa_c p_int pa_n)) (lnS (lnS ln0))) pa_n) (lnS ln0))))
      (s_cons (s_set (i := 2) (ps_set (i := 2) sc_law.nd rfl (by first | exact Or.inl rfl | exact Or.inr rfl) (e_callI T.law_state (ok_law_state T) (hr.mono (by decide)) (pa_c (e_callI T.law_cell_at (ok_law_cell_at T) (hr.mono (by decide)) (pa_c (p_var 0 (pv 0)) (pa_c p_int pa_n)) (lnS (lnS ln0))) (pa_c (p_ix (p_var 1 (pv 1)) p_int) (pa_c (p_callB c_len (by rfl) T.z_len PySem.boot_len (pa_c (p_ix (p_var 1 (pv 1)) p_int) pa_n)) pa_n))) (lnS (lnS (lnS ln0))))))
      (s_cons (s_set (i := 3) (ps_set (i := 3) sc_law.nd rfl (by first | exact Or.inl rfl | exact Or.inr rfl) (e_callI T.law_draws (ok_law_draws T) (hr.mono (by decide)) (pa_c (e_callI T.law_cell_at (ok_law_cell_at T) (hr.mono (by decide)) (pa_c (p_var 0 (pv 0)) (pa_c p_int pa_n)) (lnS (lnS ln0))) (pa_c p_int pa_n)) (lnS (lnS ln0)))))
      (s_cons (s_set (i := 4) (ps_set (i := 4) sc_law.nd rfl (by first | exact Or.inl rfl | exact Or.inr rfl) (e_callI T.law_rule (ok_law_rule T) (hr.mono (by decide)) (pa_c (p_ix (p_var 3 (pv 3)) p_int) pa_n) (lnS ln0))))
      (s_cons (s_set (i := 5) (ps_set (i := 5) sc_law.nd rfl (by first | exact Or.inl rfl | exact Or.inr rfl) (p_op o_mod (p_callTy c_int (by rfl) T.z_int (by decide +kernel) (pa_c (p_ix (p_var 3 (pv 3)) p_int) pa_n)) (p_op o_add (p_callB c_len (by rfl) T.z_len PySem.boot_len (pa_c (p_ix (p_var 1 (pv 1)) p_int) pa_n)) p_int))))
      (s_cons (s_set (i := 6) (ps_set (i := 6) sc_law.nd rfl (by first | exact Or.inl rfl | exact Or.inr rfl) (e_callI T.law_who (ok_law_who T) (hr.mono (by decide)) (pa_c (p_ix (p_var 3 (pv 3)) p_int) (pa_c (p_ix (p_var 1 (pv 1)) p_int) pa_n)) (lnS (lnS ln0)))))
      (s_cons (s_own (i := 7) (s_comp (by decide) (ps_setLc (i := 7) (own := [("_law_row", 12)]) rfl sc_law.nd rfl rfl (sw_true rfl rfl rfl (by decide +kernel)) (i_j (i_seq (p_ix (p_var 2 (pv 2)) p_int))) (blkOk_by (N := nm_law) (sc := scp_law) (by decide +kernel)) (fun _ _ _ _ _ => all_g fun F => (g_one (pg_name (i := 12) sc_law.nd rfl (by first | exact Or.inl rfl | exact Or.inr rfl)))) (fun _ _ _ _ _ => pts_if fun F => (pt_cmp' (o_ne hr.units) (p_sl (p_var 12 (pv 12)) p_oN (p_oS p_int)) (e_tup (pa_c (p_var 5 (pv 5)) (pa_c (p_var 6 (pv 6)) pa_n)) (lnS (lnS ln0))) (nomark _))) (fun _ _ _ _ _ => all_p (f := law_e7) fun F => (p_var 12 (pv 12))))))
      (s_cons (s_if (pt_cmp' (o_eq hr.units) (w_len (by rfl) T.z_len (w_own 7 (pv 7))) p_int (nomark _)) (s_cons (s_pop (ps_expr (pe_bm0 PySem.F.plainAttrs_list PySem.F.slot_list_pop PySem.F.type_list_pop mt_pop (pv 7))))
      s_nil) s_nil)
      (s_cons (s_pub 7 (s_own (i := 8) (ps_set (i := 8) sc_law.nd rfl (by first | exact Or.inl rfl | exact Or.inr rfl) (e_lst (pa_c (e_callI T.law_with (ok_law_with T) (hr.mono (by decide)) (pa_c (p_var 2 (pv 2)) (pa_c (p_op o_add (p_var 7 (pv 7)) (p_new (e_lst (pa_c (e_tup (pa_c (p_var 5 (pv 5)) (pa_c (p_var 6 (pv 6)) (pa_c p_str pa_n))) (lnS (lnS (lnS ln0)))) pa_n) (lnS ln0)))) pa_n)) (lnS (lnS ln0))) (pa_c (e_callI T.law_with (ok_law_with T) (hr.mono (by decide)) (pa_c (p_var 2 (pv 2)) (pa_c (p_var 7 (pv 7)) pa_n)) (lnS (lnS ln0))) pa_n)) (lnS (lnS ln0))))))
      (s_cons (s_pub 7 (s_app (ps_expr (pe_bm PySem.F.plainAttrs_list PySem.F.slot_list_append PySem.F.type_list_append mt_append (pv 8) (pa_cons (e_callI T.law_with (ok_law_with T) (hr.mono (by decide)) (pa_c (p_var 2 (pv 2)) (pa_c (p_op o_add (p_var 7 (pv 7)) (p_new (e_lst (pa_c (e_tup (pa_c (p_var 5 (pv 5)) (pa_c (p_var 6 (pv 6)) (pa_c p_str pa_n))) (lnS (lnS (lnS ln0)))) pa_n) (lnS ln0)))) pa_n)) (lnS (lnS ln0))) pa_nil)))))
      (s_cons (s_pub 8 (s_if (t_w (w_or (t_not (t_tru (e_callI T.law_ascends (ok_law_ascends T) (hr.mono (by decide)) (pa_c (p_var 1 (pv 1)) (pa_c (p_var 4 (pv 4)) (pa_c (p_var 8 (pv 8)) pa_n))) (lnS (lnS (lnS ln0)))))) (w_or1 (t_not (t_tru (e_callI T.law_elsewhere (ok_law_elsewhere T) (hr.mono (by decide)) (pa_c (p_var 1 (pv 1)) (pa_c (p_var 4 (pv 4)) (pa_c (p_var 8 (pv 8)) (pa_c (p_var 5 (pv 5)) (pa_c (p_var 6 (pv 6)) pa_n))))) (lnS (lnS (lnS (lnS (lnS ln0))))))))))) (s_cons (s_ret p_bool)
      s_nil) s_nil))
      (s_cons (s_pub 8 (s_for (t := (.one 9)) (f := law_f6) PassesOwn.never rfl (i_seq (p_var 8 (pv 8))) (g_one (pg_name (i := 9) sc_law.nd rfl (by first | exact Or.inl rfl | exact Or.inr rfl))) (s_cons (s_set (i := 10) (ps_set (i := 10) sc_law.nd rfl (by first | exact Or.inl rfl | exact Or.inr rfl) (e_callI T.all_sights (ok_all_sights T) (hr.mono (by decide)) (pa_c (p_var 1 (pv 1)) (pa_c (p_op o_add (e_tup (pa_c p_str pa_n) (lnS ln0)) (p_sl (p_var 4 (pv 4)) (p_oS p_int) p_oN)) (pa_c (p_var 9 (pv 9)) pa_n))) (lnS (lnS (lnS ln0))))))
      (s_cons (s_if (t_not (t_tru (p_callB (c_all rfl) (by rfl) T.z_all (by decide +kernel) (pa_c (p_new (n_comp (own := [("_law_sight", 13)]) (t := (.one 13)) (cond := noIf) (elt := law_e5) rfl sc_law.nd (i_j (i_seq (e_callI T.all_sights (ok_all_sights T) (hr.mono (by decide)) (pa_c (p_var 1 (pv 1)) (pa_c (p_op o_add (e_tup (pa_c p_str pa_n) (lnS ln0)) (p_sl (p_var 4 (pv 4)) (p_oS p_int) p_oN)) (pa_c (p_var 9 (pv 9)) pa_n))) (lnS (lnS (lnS ln0)))))) (blkOk_by (N := nm_law) (sc := scp_law) (by decide +kernel)) (by decide) (fun F _ _ _ _ _ => (g_one (pg_name (i := 13) sc_law.nd rfl (by first | exact Or.inl rfl | exact Or.inr rfl)))) (fun _ _ _ _ _ => pts_no) (fun F _ _ _ _ _ => (p_cmp (o_in hr.units) (p_var 13 (pv 13)) (p_var 10 (pv 10)) (by rfl))))) pa_n)))) (s_cons (s_ret p_bool)
      s_nil) s_nil)
      (s_cons (s_set (i := 11) (ps_set (i := 11) sc_law.nd rfl (by first | exact Or.inl rfl | exact Or.inr rfl) (p_new (n_comp (own := [("_law_row", 12)]) (t := (.one 12)) (cond := law_c4) (elt := law_e3) rfl sc_law.nd (i_j (i_seq (p_ix (p_var 9 (pv 9)) p_int))) (blkOk_by (N := nm_law) (sc := scp_law) (by decide +kernel)) (by decide) (fun F _ _ _ _ _ => (g_one (pg_name (i := 12) sc_law.nd rfl (by first | exact Or.inl rfl | exact Or.inr rfl)))) (fun _ _ _ _ _ => pts_if fun F => (pt_cmp' (o_eq hr.units) (p_ix (p_var 12 (pv 12)) p_int) p_str (nomark _))) (fun F _ _ _ _ _ => (p_ix (p_var 12 (pv 12)) p_int))))))
      (s_cons (s_if (t_not (t_tru (p_callB (c_all rfl) (by rfl) T.z_all (by decide +kernel) (pa_c (p_new (n_comp (own := [("_law_sight", 13)]) (t := (.one 13)) (cond := noIf) (elt := law_e2) rfl sc_law.nd (i_j (i_seq (p_var 10 (pv 10)))) (blkOk_by (N := nm_law) (sc := scp_law) (by decide +kernel)) (by decide) (fun F _ _ _ _ _ => (g_one (pg_name (i := 13) sc_law.nd rfl (by first | exact Or.inl rfl | exact Or.inr rfl)))) (fun _ _ _ _ _ => pts_no) (fun F _ _ _ _ _ => (p_callB (c_any rfl) (by rfl) T.z_any (by decide +kernel) (pa_c (p_new (n_comp (own := [("_law_place", 14)]) (t := (.one 14)) (cond := noIf) (elt := law_e1) rfl sc_law.nd (i_j (i_seq (e_callI T.law_way (ok_law_way T) (hr.mono (by decide)) (pa_c (p_var 9 (pv 9)) (pa_c (p_ix (p_var 13 (pv 13)) p_int) pa_n)) (lnS (lnS ln0))))) (blkOk_in (N := nm_law) (sc0 := scp_law) rfl (by decide +kernel)) (by decide) (fun F _ _ _ _ _ => (g_one (pg_name (i := 14) sc_law.nd rfl (by first | exact Or.inl rfl | exact Or.inr rfl)))) (fun _ _ _ _ _ => pts_no) (fun F _ _ _ _ _ => (p_cmp (o_in hr.units) (p_var 14 (pv 14)) (p_var 11 (pv 11)) (by rfl))))) pa_n))))) pa_n)))) (s_cons (s_ret p_bool)
      s_nil) s_nil)
      s_nil))))))
      (s_cons (s_ret p_bool)
      s_nil)))))))))))))
end

/-! what the top has written -/
theorem all_mk {l : PySem.W.OpenLaw} {w : World} {K : PySem.W.Frag} {h : Heap} {mg : Str → Option Value} {fa : Addr} (X : K.In h) (G : h.Ns mainGlobals mg) (hfa : mg "law" = some (.ref fa))
    {f_ascends f_is_integer f_is_number f_is_row f_is_word f_is_who f_is_entry f_is_entries f_groups_of f_is_member f_is_members f_comes_to_top f_is_parents f_is_shut f_fit_together f_is_house f_need_house f_is_rule f_need_rule f_is_groups f_is_logins f_is_state f_need_state f_counted_groups f_counts_for f_line_up f_way_of f_deciding_entries f_person_sees f_all_sights f_law_ascends f_law_cell_at f_law_draws f_law_groups f_law_counts f_law_way f_law_elsewhere f_law_who f_law_body f_law_house f_law_rule f_law_state f_law_with f_law : Addr} {od_ascends an_ascends od_is_integer an_is_integer od_is_number an_is_number od_is_row an_is_row od_is_word an_is_word od_is_who an_is_who od_is_entry an_is_entry od_is_entries an_is_entries od_groups_of an_groups_of od_is_member an_is_member od_is_members an_is_members od_comes_to_top an_comes_to_top od_is_parents an_is_parents od_is_shut an_is_shut od_fit_together an_fit_together od_is_house an_is_house od_need_house an_need_house od_is_rule an_is_rule od_need_rule an_need_rule od_is_groups an_is_groups od_is_logins an_is_logins od_is_state an_is_state od_need_state an_need_state od_counted_groups an_counted_groups od_counts_for an_counts_for od_line_up an_line_up od_way_of an_way_of od_deciding_entries an_deciding_entries od_person_sees an_person_sees od_all_sights an_all_sights od_law_ascends an_law_ascends od_law_cell_at an_law_cell_at od_law_draws an_law_draws od_law_groups an_law_groups od_law_counts an_law_counts od_law_way an_law_way od_law_elsewhere an_law_elsewhere od_law_who an_law_who od_law_body an_law_body od_law_house an_law_house od_law_rule an_law_rule od_law_state an_law_state od_law_with an_law_with od_law an_law : Option Addr} {sl_ascends sl_is_integer sl_is_number sl_is_row sl_is_word sl_is_who sl_is_entry sl_is_entries sl_groups_of sl_is_member sl_is_members sl_comes_to_top sl_is_parents sl_is_shut sl_fit_together sl_is_house sl_need_house sl_is_rule sl_need_rule sl_is_groups sl_is_logins sl_is_state sl_need_state sl_counted_groups sl_counts_for sl_line_up sl_way_of sl_deciding_entries sl_person_sees sl_all_sights sl_law_ascends sl_law_cell_at sl_law_draws sl_law_groups sl_law_counts sl_law_way sl_law_elsewhere sl_law_who sl_law_body sl_law_house sl_law_rule sl_law_state sl_law_with sl_law : Array (Option Value)} {oc_ascends kV_ascends dc_ascends pm_ascends cd_ascends ct_ascends oc_is_integer kV_is_integer dc_is_integer pm_is_integer cd_is_integer ct_is_integer oc_is_number kV_is_number dc_is_number pm_is_number cd_is_number ct_is_number oc_is_row kV_is_row dc_is_row pm_is_row cd_is_row ct_is_row oc_is_word kV_is_word dc_is_word pm_is_word cd_is_word ct_is_word oc_is_who kV_is_who dc_is_who pm_is_who cd_is_who ct_is_who oc_is_entry kV_is_entry dc_is_entry pm_is_entry cd_is_entry ct_is_entry oc_is_entries kV_is_entries dc_is_entries pm_is_entries cd_is_entries ct_is_entries oc_groups_of kV_groups_of dc_groups_of pm_groups_of cd_groups_of ct_groups_of oc_is_member kV_is_member dc_is_member pm_is_member cd_is_member ct_is_member oc_is_members kV_is_members dc_is_members pm_is_members cd_is_members ct_is_members oc_comes_to_top kV_comes_to_top dc_comes_to_top pm_comes_to_top cd_comes_to_top ct_comes_to_top oc_is_parents kV_is_parents dc_is_parents pm_is_parents cd_is_parents ct_is_parents oc_is_shut kV_is_shut dc_is_shut pm_is_shut cd_is_shut ct_is_shut oc_fit_together kV_fit_together dc_fit_together pm_fit_together cd_fit_together ct_fit_together oc_is_house kV_is_house dc_is_house pm_is_house cd_is_house ct_is_house oc_need_house kV_need_house dc_need_house pm_need_house cd_need_house ct_need_house oc_is_rule kV_is_rule dc_is_rule pm_is_rule cd_is_rule ct_is_rule oc_need_rule kV_need_rule dc_need_rule pm_need_rule cd_need_rule ct_need_rule oc_is_groups kV_is_groups dc_is_groups pm_is_groups cd_is_groups ct_is_groups oc_is_logins kV_is_logins dc_is_logins pm_is_logins cd_is_logins ct_is_logins oc_is_state kV_is_state dc_is_state pm_is_state cd_is_state ct_is_state oc_need_state kV_need_state dc_need_state pm_need_state cd_need_state ct_need_state oc_counted_groups kV_counted_groups dc_counted_groups pm_counted_groups cd_counted_groups ct_counted_groups oc_counts_for kV_counts_for dc_counts_for pm_counts_for cd_counts_for ct_counts_for oc_line_up kV_line_up dc_line_up pm_line_up cd_line_up ct_line_up oc_way_of kV_way_of dc_way_of pm_way_of cd_way_of ct_way_of oc_deciding_entries kV_deciding_entries dc_deciding_entries pm_deciding_entries cd_deciding_entries ct_deciding_entries oc_person_sees kV_person_sees dc_person_sees pm_person_sees cd_person_sees ct_person_sees oc_all_sights kV_all_sights dc_all_sights pm_all_sights cd_all_sights ct_all_sights oc_law_ascends kV_law_ascends dc_law_ascends pm_law_ascends cd_law_ascends ct_law_ascends oc_law_cell_at kV_law_cell_at dc_law_cell_at pm_law_cell_at cd_law_cell_at ct_law_cell_at oc_law_draws kV_law_draws dc_law_draws pm_law_draws cd_law_draws ct_law_draws oc_law_groups kV_law_groups dc_law_groups pm_law_groups cd_law_groups ct_law_groups oc_law_counts kV_law_counts dc_law_counts pm_law_counts cd_law_counts ct_law_counts oc_law_way kV_law_way dc_law_way pm_law_way cd_law_way ct_law_way oc_law_elsewhere kV_law_elsewhere dc_law_elsewhere pm_law_elsewhere cd_law_elsewhere ct_law_elsewhere oc_law_who kV_law_who dc_law_who pm_law_who cd_law_who ct_law_who oc_law_body kV_law_body dc_law_body pm_law_body cd_law_body ct_law_body oc_law_house kV_law_house dc_law_house pm_law_house cd_law_house ct_law_house oc_law_rule kV_law_rule dc_law_rule pm_law_rule cd_law_rule ct_law_rule oc_law_state kV_law_state dc_law_state pm_law_state cd_law_state ct_law_state oc_law_with kV_law_with dc_law_with pm_law_with cd_law_with ct_law_with oc_law kV_law dc_law pm_law cd_law ct_law : Value}
    (a_ascends : PySem.W.nsIn K mainGlobals "ascends" = some (some (.ref f_ascends))) (l_ascends : K.lookup f_ascends = some ⟨oc_ascends, od_ascends, .func (PySem.W.fnOf "ascends" "ascends" (defArgs s_ascends) (defBody s_ascends) (defScope s_ascends) .none kV_ascends dc_ascends pm_ascends an_ascends cd_ascends ct_ascends), sl_ascends⟩) (c_ascends : PySem.W.codeIn K cd_ascends "ascends" = true) (k_ascends : PySem.W.keepIn K (.ref f_ascends) = true)
    (a_is_integer : PySem.W.nsIn K mainGlobals "is_integer" = some (some (.ref f_is_integer))) (l_is_integer : K.lookup f_is_integer = some ⟨oc_is_integer, od_is_integer, .func (PySem.W.fnOf "is_integer" "is_integer" (defArgs s_is_integer) (defBody s_is_integer) (defScope s_is_integer) .none kV_is_integer dc_is_integer pm_is_integer an_is_integer cd_is_integer ct_is_integer), sl_is_integer⟩) (c_is_integer : PySem.W.codeIn K cd_is_integer "is_integer" = true) (k_is_integer : PySem.W.keepIn K (.ref f_is_integer) = true)
    (a_is_number : PySem.W.nsIn K mainGlobals "is_number" = some (some (.ref f_is_number))) (l_is_number : K.lookup f_is_number = some ⟨oc_is_number, od_is_number, .func (PySem.W.fnOf "is_number" "is_number" (defArgs s_is_number) (defBody s_is_number) (defScope s_is_number) .none kV_is_number dc_is_number pm_is_number an_is_number cd_is_number ct_is_number), sl_is_number⟩) (c_is_number : PySem.W.codeIn K cd_is_number "is_number" = true) (k_is_number : PySem.W.keepIn K (.ref f_is_number) = true)
    (a_is_row : PySem.W.nsIn K mainGlobals "is_row" = some (some (.ref f_is_row))) (l_is_row : K.lookup f_is_row = some ⟨oc_is_row, od_is_row, .func (PySem.W.fnOf "is_row" "is_row" (defArgs s_is_row) (defBody s_is_row) (defScope s_is_row) .none kV_is_row dc_is_row pm_is_row an_is_row cd_is_row ct_is_row), sl_is_row⟩) (c_is_row : PySem.W.codeIn K cd_is_row "is_row" = true) (k_is_row : PySem.W.keepIn K (.ref f_is_row) = true)
    (a_is_word : PySem.W.nsIn K mainGlobals "is_word" = some (some (.ref f_is_word))) (l_is_word : K.lookup f_is_word = some ⟨oc_is_word, od_is_word, .func (PySem.W.fnOf "is_word" "is_word" (defArgs s_is_word) (defBody s_is_word) (defScope s_is_word) .none kV_is_word dc_is_word pm_is_word an_is_word cd_is_word ct_is_word), sl_is_word⟩) (c_is_word : PySem.W.codeIn K cd_is_word "is_word" = true) (k_is_word : PySem.W.keepIn K (.ref f_is_word) = true)
    (a_is_who : PySem.W.nsIn K mainGlobals "is_who" = some (some (.ref f_is_who))) (l_is_who : K.lookup f_is_who = some ⟨oc_is_who, od_is_who, .func (PySem.W.fnOf "is_who" "is_who" (defArgs s_is_who) (defBody s_is_who) (defScope s_is_who) .none kV_is_who dc_is_who pm_is_who an_is_who cd_is_who ct_is_who), sl_is_who⟩) (c_is_who : PySem.W.codeIn K cd_is_who "is_who" = true) (k_is_who : PySem.W.keepIn K (.ref f_is_who) = true)
    (a_is_entry : PySem.W.nsIn K mainGlobals "is_entry" = some (some (.ref f_is_entry))) (l_is_entry : K.lookup f_is_entry = some ⟨oc_is_entry, od_is_entry, .func (PySem.W.fnOf "is_entry" "is_entry" (defArgs s_is_entry) (defBody s_is_entry) (defScope s_is_entry) .none kV_is_entry dc_is_entry pm_is_entry an_is_entry cd_is_entry ct_is_entry), sl_is_entry⟩) (c_is_entry : PySem.W.codeIn K cd_is_entry "is_entry" = true) (k_is_entry : PySem.W.keepIn K (.ref f_is_entry) = true)
    (a_is_entries : PySem.W.nsIn K mainGlobals "is_entries" = some (some (.ref f_is_entries))) (l_is_entries : K.lookup f_is_entries = some ⟨oc_is_entries, od_is_entries, .func (PySem.W.fnOf "is_entries" "is_entries" (defArgs s_is_entries) (defBody s_is_entries) (defScope s_is_entries) .none kV_is_entries dc_is_entries pm_is_entries an_is_entries cd_is_entries ct_is_entries), sl_is_entries⟩) (c_is_entries : PySem.W.codeIn K cd_is_entries "is_entries" = true) (k_is_entries : PySem.W.keepIn K (.ref f_is_entries) = true)
    (a_groups_of : PySem.W.nsIn K mainGlobals "groups_of" = some (some (.ref f_groups_of))) (l_groups_of : K.lookup f_groups_of = some ⟨oc_groups_of, od_groups_of, .func (PySem.W.fnOf "groups_of" "groups_of" (defArgs s_groups_of) (defBody s_groups_of) (defScope s_groups_of) .none kV_groups_of dc_groups_of pm_groups_of an_groups_of cd_groups_of ct_groups_of), sl_groups_of⟩) (c_groups_of : PySem.W.codeIn K cd_groups_of "groups_of" = true) (k_groups_of : PySem.W.keepIn K (.ref f_groups_of) = true)
    (a_is_member : PySem.W.nsIn K mainGlobals "is_member" = some (some (.ref f_is_member))) (l_is_member : K.lookup f_is_member = some ⟨oc_is_member, od_is_member, .func (PySem.W.fnOf "is_member" "is_member" (defArgs s_is_member) (defBody s_is_member) (defScope s_is_member) .none kV_is_member dc_is_member pm_is_member an_is_member cd_is_member ct_is_member), sl_is_member⟩) (c_is_member : PySem.W.codeIn K cd_is_member "is_member" = true) (k_is_member : PySem.W.keepIn K (.ref f_is_member) = true)
    (a_is_members : PySem.W.nsIn K mainGlobals "is_members" = some (some (.ref f_is_members))) (l_is_members : K.lookup f_is_members = some ⟨oc_is_members, od_is_members, .func (PySem.W.fnOf "is_members" "is_members" (defArgs s_is_members) (defBody s_is_members) (defScope s_is_members) .none kV_is_members dc_is_members pm_is_members an_is_members cd_is_members ct_is_members), sl_is_members⟩) (c_is_members : PySem.W.codeIn K cd_is_members "is_members" = true) (k_is_members : PySem.W.keepIn K (.ref f_is_members) = true)
    (a_comes_to_top : PySem.W.nsIn K mainGlobals "_comes_to_top" = some (some (.ref f_comes_to_top))) (l_comes_to_top : K.lookup f_comes_to_top = some ⟨oc_comes_to_top, od_comes_to_top, .func (PySem.W.fnOf "_comes_to_top" "_comes_to_top" (defArgs s_comes_to_top) (defBody s_comes_to_top) (defScope s_comes_to_top) .none kV_comes_to_top dc_comes_to_top pm_comes_to_top an_comes_to_top cd_comes_to_top ct_comes_to_top), sl_comes_to_top⟩) (c_comes_to_top : PySem.W.codeIn K cd_comes_to_top "_comes_to_top" = true) (k_comes_to_top : PySem.W.keepIn K (.ref f_comes_to_top) = true)
    (a_is_parents : PySem.W.nsIn K mainGlobals "is_parents" = some (some (.ref f_is_parents))) (l_is_parents : K.lookup f_is_parents = some ⟨oc_is_parents, od_is_parents, .func (PySem.W.fnOf "is_parents" "is_parents" (defArgs s_is_parents) (defBody s_is_parents) (defScope s_is_parents) .none kV_is_parents dc_is_parents pm_is_parents an_is_parents cd_is_parents ct_is_parents), sl_is_parents⟩) (c_is_parents : PySem.W.codeIn K cd_is_parents "is_parents" = true) (k_is_parents : PySem.W.keepIn K (.ref f_is_parents) = true)
    (a_is_shut : PySem.W.nsIn K mainGlobals "is_shut" = some (some (.ref f_is_shut))) (l_is_shut : K.lookup f_is_shut = some ⟨oc_is_shut, od_is_shut, .func (PySem.W.fnOf "is_shut" "is_shut" (defArgs s_is_shut) (defBody s_is_shut) (defScope s_is_shut) .none kV_is_shut dc_is_shut pm_is_shut an_is_shut cd_is_shut ct_is_shut), sl_is_shut⟩) (c_is_shut : PySem.W.codeIn K cd_is_shut "is_shut" = true) (k_is_shut : PySem.W.keepIn K (.ref f_is_shut) = true)
    (a_fit_together : PySem.W.nsIn K mainGlobals "fit_together" = some (some (.ref f_fit_together))) (l_fit_together : K.lookup f_fit_together = some ⟨oc_fit_together, od_fit_together, .func (PySem.W.fnOf "fit_together" "fit_together" (defArgs s_fit_together) (defBody s_fit_together) (defScope s_fit_together) .none kV_fit_together dc_fit_together pm_fit_together an_fit_together cd_fit_together ct_fit_together), sl_fit_together⟩) (c_fit_together : PySem.W.codeIn K cd_fit_together "fit_together" = true) (k_fit_together : PySem.W.keepIn K (.ref f_fit_together) = true)
    (a_is_house : PySem.W.nsIn K mainGlobals "is_house" = some (some (.ref f_is_house))) (l_is_house : K.lookup f_is_house = some ⟨oc_is_house, od_is_house, .func (PySem.W.fnOf "is_house" "is_house" (defArgs s_is_house) (defBody s_is_house) (defScope s_is_house) .none kV_is_house dc_is_house pm_is_house an_is_house cd_is_house ct_is_house), sl_is_house⟩) (c_is_house : PySem.W.codeIn K cd_is_house "is_house" = true) (k_is_house : PySem.W.keepIn K (.ref f_is_house) = true)
    (a_need_house : PySem.W.nsIn K mainGlobals "need_house" = some (some (.ref f_need_house))) (l_need_house : K.lookup f_need_house = some ⟨oc_need_house, od_need_house, .func (PySem.W.fnOf "need_house" "need_house" (defArgs s_need_house) (defBody s_need_house) (defScope s_need_house) .none kV_need_house dc_need_house pm_need_house an_need_house cd_need_house ct_need_house), sl_need_house⟩) (c_need_house : PySem.W.codeIn K cd_need_house "need_house" = true) (k_need_house : PySem.W.keepIn K (.ref f_need_house) = true)
    (a_is_rule : PySem.W.nsIn K mainGlobals "is_rule" = some (some (.ref f_is_rule))) (l_is_rule : K.lookup f_is_rule = some ⟨oc_is_rule, od_is_rule, .func (PySem.W.fnOf "is_rule" "is_rule" (defArgs s_is_rule) (defBody s_is_rule) (defScope s_is_rule) .none kV_is_rule dc_is_rule pm_is_rule an_is_rule cd_is_rule ct_is_rule), sl_is_rule⟩) (c_is_rule : PySem.W.codeIn K cd_is_rule "is_rule" = true) (k_is_rule : PySem.W.keepIn K (.ref f_is_rule) = true)
    (a_need_rule : PySem.W.nsIn K mainGlobals "need_rule" = some (some (.ref f_need_rule))) (l_need_rule : K.lookup f_need_rule = some ⟨oc_need_rule, od_need_rule, .func (PySem.W.fnOf "need_rule" "need_rule" (defArgs s_need_rule) (defBody s_need_rule) (defScope s_need_rule) .none kV_need_rule dc_need_rule pm_need_rule an_need_rule cd_need_rule ct_need_rule), sl_need_rule⟩) (c_need_rule : PySem.W.codeIn K cd_need_rule "need_rule" = true) (k_need_rule : PySem.W.keepIn K (.ref f_need_rule) = true)
    (a_is_groups : PySem.W.nsIn K mainGlobals "is_groups" = some (some (.ref f_is_groups))) (l_is_groups : K.lookup f_is_groups = some ⟨oc_is_groups, od_is_groups, .func (PySem.W.fnOf "is_groups" "is_groups" (defArgs s_is_groups) (defBody s_is_groups) (defScope s_is_groups) .none kV_is_groups dc_is_groups pm_is_groups an_is_groups cd_is_groups ct_is_groups), sl_is_groups⟩) (c_is_groups : PySem.W.codeIn K cd_is_groups "is_groups" = true) (k_is_groups : PySem.W.keepIn K (.ref f_is_groups) = true)
    (a_is_logins : PySem.W.nsIn K mainGlobals "is_logins" = some (some (.ref f_is_logins))) (l_is_logins : K.lookup f_is_logins = some ⟨oc_is_logins, od_is_logins, .func (PySem.W.fnOf "is_logins" "is_logins" (defArgs s_is_logins) (defBody s_is_logins) (defScope s_is_logins) .none kV_is_logins dc_is_logins pm_is_logins an_is_logins cd_is_logins ct_is_logins), sl_is_logins⟩) (c_is_logins : PySem.W.codeIn K cd_is_logins "is_logins" = true) (k_is_logins : PySem.W.keepIn K (.ref f_is_logins) = true)
    (a_is_state : PySem.W.nsIn K mainGlobals "is_state" = some (some (.ref f_is_state))) (l_is_state : K.lookup f_is_state = some ⟨oc_is_state, od_is_state, .func (PySem.W.fnOf "is_state" "is_state" (defArgs s_is_state) (defBody s_is_state) (defScope s_is_state) .none kV_is_state dc_is_state pm_is_state an_is_state cd_is_state ct_is_state), sl_is_state⟩) (c_is_state : PySem.W.codeIn K cd_is_state "is_state" = true) (k_is_state : PySem.W.keepIn K (.ref f_is_state) = true)
    (a_need_state : PySem.W.nsIn K mainGlobals "need_state" = some (some (.ref f_need_state))) (l_need_state : K.lookup f_need_state = some ⟨oc_need_state, od_need_state, .func (PySem.W.fnOf "need_state" "need_state" (defArgs s_need_state) (defBody s_need_state) (defScope s_need_state) .none kV_need_state dc_need_state pm_need_state an_need_state cd_need_state ct_need_state), sl_need_state⟩) (c_need_state : PySem.W.codeIn K cd_need_state "need_state" = true) (k_need_state : PySem.W.keepIn K (.ref f_need_state) = true)
    (a_counted_groups : PySem.W.nsIn K mainGlobals "counted_groups" = some (some (.ref f_counted_groups))) (l_counted_groups : K.lookup f_counted_groups = some ⟨oc_counted_groups, od_counted_groups, .func (PySem.W.fnOf "counted_groups" "counted_groups" (defArgs s_counted_groups) (defBody s_counted_groups) (defScope s_counted_groups) .none kV_counted_groups dc_counted_groups pm_counted_groups an_counted_groups cd_counted_groups ct_counted_groups), sl_counted_groups⟩) (c_counted_groups : PySem.W.codeIn K cd_counted_groups "counted_groups" = true) (k_counted_groups : PySem.W.keepIn K (.ref f_counted_groups) = true)
    (a_counts_for : PySem.W.nsIn K mainGlobals "counts_for" = some (some (.ref f_counts_for))) (l_counts_for : K.lookup f_counts_for = some ⟨oc_counts_for, od_counts_for, .func (PySem.W.fnOf "counts_for" "counts_for" (defArgs s_counts_for) (defBody s_counts_for) (defScope s_counts_for) .none kV_counts_for dc_counts_for pm_counts_for an_counts_for cd_counts_for ct_counts_for), sl_counts_for⟩) (c_counts_for : PySem.W.codeIn K cd_counts_for "counts_for" = true) (k_counts_for : PySem.W.keepIn K (.ref f_counts_for) = true)
    (a_line_up : PySem.W.nsIn K mainGlobals "line_up" = some (some (.ref f_line_up))) (l_line_up : K.lookup f_line_up = some ⟨oc_line_up, od_line_up, .func (PySem.W.fnOf "line_up" "line_up" (defArgs s_line_up) (defBody s_line_up) (defScope s_line_up) .none kV_line_up dc_line_up pm_line_up an_line_up cd_line_up ct_line_up), sl_line_up⟩) (c_line_up : PySem.W.codeIn K cd_line_up "line_up" = true) (k_line_up : PySem.W.keepIn K (.ref f_line_up) = true)
    (a_way_of : PySem.W.nsIn K mainGlobals "way_of" = some (some (.ref f_way_of))) (l_way_of : K.lookup f_way_of = some ⟨oc_way_of, od_way_of, .func (PySem.W.fnOf "way_of" "way_of" (defArgs s_way_of) (defBody s_way_of) (defScope s_way_of) .none kV_way_of dc_way_of pm_way_of an_way_of cd_way_of ct_way_of), sl_way_of⟩) (c_way_of : PySem.W.codeIn K cd_way_of "way_of" = true) (k_way_of : PySem.W.keepIn K (.ref f_way_of) = true)
    (a_deciding_entries : PySem.W.nsIn K mainGlobals "deciding_entries" = some (some (.ref f_deciding_entries))) (l_deciding_entries : K.lookup f_deciding_entries = some ⟨oc_deciding_entries, od_deciding_entries, .func (PySem.W.fnOf "deciding_entries" "deciding_entries" (defArgs s_deciding_entries) (defBody s_deciding_entries) (defScope s_deciding_entries) .none kV_deciding_entries dc_deciding_entries pm_deciding_entries an_deciding_entries cd_deciding_entries ct_deciding_entries), sl_deciding_entries⟩) (c_deciding_entries : PySem.W.codeIn K cd_deciding_entries "deciding_entries" = true) (k_deciding_entries : PySem.W.keepIn K (.ref f_deciding_entries) = true)
    (a_person_sees : PySem.W.nsIn K mainGlobals "person_sees" = some (some (.ref f_person_sees))) (l_person_sees : K.lookup f_person_sees = some ⟨oc_person_sees, od_person_sees, .func (PySem.W.fnOf "person_sees" "person_sees" (defArgs s_person_sees) (defBody s_person_sees) (defScope s_person_sees) .none kV_person_sees dc_person_sees pm_person_sees an_person_sees cd_person_sees ct_person_sees), sl_person_sees⟩) (c_person_sees : PySem.W.codeIn K cd_person_sees "person_sees" = true) (k_person_sees : PySem.W.keepIn K (.ref f_person_sees) = true)
    (a_all_sights : PySem.W.nsIn K mainGlobals "all_sights" = some (some (.ref f_all_sights))) (l_all_sights : K.lookup f_all_sights = some ⟨oc_all_sights, od_all_sights, .func (PySem.W.fnOf "all_sights" "all_sights" (defArgs s_all_sights) (defBody s_all_sights) (defScope s_all_sights) .none kV_all_sights dc_all_sights pm_all_sights an_all_sights cd_all_sights ct_all_sights), sl_all_sights⟩) (c_all_sights : PySem.W.codeIn K cd_all_sights "all_sights" = true) (k_all_sights : PySem.W.keepIn K (.ref f_all_sights) = true)
    (a_law_ascends : PySem.W.nsIn K mainGlobals "_law_ascends" = some (some (.ref f_law_ascends))) (l_law_ascends : K.lookup f_law_ascends = some ⟨oc_law_ascends, od_law_ascends, .func (PySem.W.fnOf "_law_ascends" "_law_ascends" (defArgs s_law_ascends) (defBody s_law_ascends) (defScope s_law_ascends) .none kV_law_ascends dc_law_ascends pm_law_ascends an_law_ascends cd_law_ascends ct_law_ascends), sl_law_ascends⟩) (c_law_ascends : PySem.W.codeIn K cd_law_ascends "_law_ascends" = true) (k_law_ascends : PySem.W.keepIn K (.ref f_law_ascends) = true)
    (a_law_cell_at : PySem.W.nsIn K mainGlobals "_law_cell_at" = some (some (.ref f_law_cell_at))) (l_law_cell_at : K.lookup f_law_cell_at = some ⟨oc_law_cell_at, od_law_cell_at, .func (PySem.W.fnOf "_law_cell_at" "_law_cell_at" (defArgs s_law_cell_at) (defBody s_law_cell_at) (defScope s_law_cell_at) .none kV_law_cell_at dc_law_cell_at pm_law_cell_at an_law_cell_at cd_law_cell_at ct_law_cell_at), sl_law_cell_at⟩) (c_law_cell_at : PySem.W.codeIn K cd_law_cell_at "_law_cell_at" = true) (k_law_cell_at : PySem.W.keepIn K (.ref f_law_cell_at) = true)
    (a_law_draws : PySem.W.nsIn K mainGlobals "_law_draws" = some (some (.ref f_law_draws))) (l_law_draws : K.lookup f_law_draws = some ⟨oc_law_draws, od_law_draws, .func (PySem.W.fnOf "_law_draws" "_law_draws" (defArgs s_law_draws) (defBody s_law_draws) (defScope s_law_draws) .none kV_law_draws dc_law_draws pm_law_draws an_law_draws cd_law_draws ct_law_draws), sl_law_draws⟩) (c_law_draws : PySem.W.codeIn K cd_law_draws "_law_draws" = true) (k_law_draws : PySem.W.keepIn K (.ref f_law_draws) = true)
    (a_law_groups : PySem.W.nsIn K mainGlobals "_law_groups" = some (some (.ref f_law_groups))) (l_law_groups : K.lookup f_law_groups = some ⟨oc_law_groups, od_law_groups, .func (PySem.W.fnOf "_law_groups" "_law_groups" (defArgs s_law_groups) (defBody s_law_groups) (defScope s_law_groups) .none kV_law_groups dc_law_groups pm_law_groups an_law_groups cd_law_groups ct_law_groups), sl_law_groups⟩) (c_law_groups : PySem.W.codeIn K cd_law_groups "_law_groups" = true) (k_law_groups : PySem.W.keepIn K (.ref f_law_groups) = true)
    (a_law_counts : PySem.W.nsIn K mainGlobals "_law_counts" = some (some (.ref f_law_counts))) (l_law_counts : K.lookup f_law_counts = some ⟨oc_law_counts, od_law_counts, .func (PySem.W.fnOf "_law_counts" "_law_counts" (defArgs s_law_counts) (defBody s_law_counts) (defScope s_law_counts) .none kV_law_counts dc_law_counts pm_law_counts an_law_counts cd_law_counts ct_law_counts), sl_law_counts⟩) (c_law_counts : PySem.W.codeIn K cd_law_counts "_law_counts" = true) (k_law_counts : PySem.W.keepIn K (.ref f_law_counts) = true)
    (a_law_way : PySem.W.nsIn K mainGlobals "_law_way" = some (some (.ref f_law_way))) (l_law_way : K.lookup f_law_way = some ⟨oc_law_way, od_law_way, .func (PySem.W.fnOf "_law_way" "_law_way" (defArgs s_law_way) (defBody s_law_way) (defScope s_law_way) .none kV_law_way dc_law_way pm_law_way an_law_way cd_law_way ct_law_way), sl_law_way⟩) (c_law_way : PySem.W.codeIn K cd_law_way "_law_way" = true) (k_law_way : PySem.W.keepIn K (.ref f_law_way) = true)
    (a_law_elsewhere : PySem.W.nsIn K mainGlobals "_law_elsewhere" = some (some (.ref f_law_elsewhere))) (l_law_elsewhere : K.lookup f_law_elsewhere = some ⟨oc_law_elsewhere, od_law_elsewhere, .func (PySem.W.fnOf "_law_elsewhere" "_law_elsewhere" (defArgs s_law_elsewhere) (defBody s_law_elsewhere) (defScope s_law_elsewhere) .none kV_law_elsewhere dc_law_elsewhere pm_law_elsewhere an_law_elsewhere cd_law_elsewhere ct_law_elsewhere), sl_law_elsewhere⟩) (c_law_elsewhere : PySem.W.codeIn K cd_law_elsewhere "_law_elsewhere" = true) (k_law_elsewhere : PySem.W.keepIn K (.ref f_law_elsewhere) = true)
    (a_law_who : PySem.W.nsIn K mainGlobals "_law_who" = some (some (.ref f_law_who))) (l_law_who : K.lookup f_law_who = some ⟨oc_law_who, od_law_who, .func (PySem.W.fnOf "_law_who" "_law_who" (defArgs s_law_who) (defBody s_law_who) (defScope s_law_who) .none kV_law_who dc_law_who pm_law_who an_law_who cd_law_who ct_law_who), sl_law_who⟩) (c_law_who : PySem.W.codeIn K cd_law_who "_law_who" = true) (k_law_who : PySem.W.keepIn K (.ref f_law_who) = true)
    (a_law_body : PySem.W.nsIn K mainGlobals "_law_body" = some (some (.ref f_law_body))) (l_law_body : K.lookup f_law_body = some ⟨oc_law_body, od_law_body, .func (PySem.W.fnOf "_law_body" "_law_body" (defArgs s_law_body) (defBody s_law_body) (defScope s_law_body) .none kV_law_body dc_law_body pm_law_body an_law_body cd_law_body ct_law_body), sl_law_body⟩) (c_law_body : PySem.W.codeIn K cd_law_body "_law_body" = true) (k_law_body : PySem.W.keepIn K (.ref f_law_body) = true)
    (a_law_house : PySem.W.nsIn K mainGlobals "_law_house" = some (some (.ref f_law_house))) (l_law_house : K.lookup f_law_house = some ⟨oc_law_house, od_law_house, .func (PySem.W.fnOf "_law_house" "_law_house" (defArgs s_law_house) (defBody s_law_house) (defScope s_law_house) .none kV_law_house dc_law_house pm_law_house an_law_house cd_law_house ct_law_house), sl_law_house⟩) (c_law_house : PySem.W.codeIn K cd_law_house "_law_house" = true) (k_law_house : PySem.W.keepIn K (.ref f_law_house) = true)
    (a_law_rule : PySem.W.nsIn K mainGlobals "_law_rule" = some (some (.ref f_law_rule))) (l_law_rule : K.lookup f_law_rule = some ⟨oc_law_rule, od_law_rule, .func (PySem.W.fnOf "_law_rule" "_law_rule" (defArgs s_law_rule) (defBody s_law_rule) (defScope s_law_rule) .none kV_law_rule dc_law_rule pm_law_rule an_law_rule cd_law_rule ct_law_rule), sl_law_rule⟩) (c_law_rule : PySem.W.codeIn K cd_law_rule "_law_rule" = true) (k_law_rule : PySem.W.keepIn K (.ref f_law_rule) = true)
    (a_law_state : PySem.W.nsIn K mainGlobals "_law_state" = some (some (.ref f_law_state))) (l_law_state : K.lookup f_law_state = some ⟨oc_law_state, od_law_state, .func (PySem.W.fnOf "_law_state" "_law_state" (defArgs s_law_state) (defBody s_law_state) (defScope s_law_state) .none kV_law_state dc_law_state pm_law_state an_law_state cd_law_state ct_law_state), sl_law_state⟩) (c_law_state : PySem.W.codeIn K cd_law_state "_law_state" = true) (k_law_state : PySem.W.keepIn K (.ref f_law_state) = true)
    (a_law_with : PySem.W.nsIn K mainGlobals "_law_with" = some (some (.ref f_law_with))) (l_law_with : K.lookup f_law_with = some ⟨oc_law_with, od_law_with, .func (PySem.W.fnOf "_law_with" "_law_with" (defArgs s_law_with) (defBody s_law_with) (defScope s_law_with) .none kV_law_with dc_law_with pm_law_with an_law_with cd_law_with ct_law_with), sl_law_with⟩) (c_law_with : PySem.W.codeIn K cd_law_with "_law_with" = true) (k_law_with : PySem.W.keepIn K (.ref f_law_with) = true)
    (a_law : PySem.W.nsIn K mainGlobals "law" = some (some (.ref f_law))) (l_law : K.lookup f_law = some ⟨oc_law, od_law, .func (PySem.W.fnOf "law" "law" (defArgs s_law) (defBody s_law) (defScope s_law) .none kV_law dc_law pm_law an_law cd_law ct_law), sl_law⟩) (c_law : PySem.W.codeIn K cd_law "law" = true) (k_law : PySem.W.keepIn K (.ref f_law) = true)
    {tt_GROUPS : Tok} (n_GROUPS : PySem.W.nsIn K mainGlobals "GROUPS" = some (some (.int (3) tt_GROUPS)))
    {f_KINDS : Addr} {oc_KINDS : Option Addr} {sl_KINDS : Array (Option Value)} {n1_KINDS : Nat} {u0_KINDS u1_KINDS : Tok} (n_KINDS : PySem.W.nsIn K mainGlobals "KINDS" = some (some (.ref f_KINDS))) (l_KINDS : K.lookup f_KINDS = some ⟨.type "tuple", oc_KINDS, .seq [Value.str "allow" u0_KINDS, Value.str "bar" u1_KINDS].toArray n1_KINDS, sl_KINDS⟩)
    {tt_MOST_ENTRIES : Tok} (n_MOST_ENTRIES : PySem.W.nsIn K mainGlobals "MOST_ENTRIES" = some (some (.int (12) tt_MOST_ENTRIES)))
    {tt_MOST_PARENTS : Tok} (n_MOST_PARENTS : PySem.W.nsIn K mainGlobals "MOST_PARENTS" = some (some (.int (5) tt_MOST_PARENTS)))
    {tt_MOST_PEOPLE : Tok} (n_MOST_PEOPLE : PySem.W.nsIn K mainGlobals "MOST_PEOPLE" = some (some (.int (4) tt_MOST_PEOPLE)))
    (z_all : PySem.W.nsIn K mainGlobals "all" = some none) (z_any : PySem.W.nsIn K mainGlobals "any" = some none) (z_bool : PySem.W.nsIn K mainGlobals "bool" = some none) (z_int : PySem.W.nsIn K mainGlobals "int" = some none) (z_isinstance : PySem.W.nsIn K mainGlobals "isinstance" = some none) (z_len : PySem.W.nsIn K mainGlobals "len" = some none) (z_list : PySem.W.nsIn K mainGlobals "list" = some none) (z_max : PySem.W.nsIn K mainGlobals "max" = some none) (z_range : PySem.W.nsIn K mainGlobals "range" = some none) (z_set : PySem.W.nsIn K mainGlobals "set" = some none) (z_sorted : PySem.W.nsIn K mainGlobals "sorted" = some none) (z_str : PySem.W.nsIn K mainGlobals "str" = some none) (z_tuple : PySem.W.nsIn K mainGlobals "tuple" = some none) :
    ∃ fd : FuncData, (∀ (s : Shared) (v : Value), BindsTo s fd ⟨[v], []⟩ [("_law_script", v)]) ∧ ∀ base : Heap, K.In base → base.Ns mainGlobals mg → FnOk l.prog w K mg base CX0 11 fa fd ["_law_script"] (spP K 1 G_law) := by
  have e := hfa.symm.trans (PySem.W.mg_of X G a_law)
  cases e
  have F_ascends := fun_mk (st := s_ascends) l_ascends c_ascends k_ascends
  have b_ascends := F_ascends.binds (ps := ["things"]) fun _ _ _ _ _ _ us hl => match us, hl with | [_], _ => rfl
  have F_is_integer := fun_mk (st := s_is_integer) l_is_integer c_is_integer k_is_integer
  have b_is_integer := F_is_integer.binds (ps := ["thing", "least", "most"]) fun _ _ _ _ _ _ us hl => match us, hl with | [_, _, _], _ => rfl
  have F_is_number := fun_mk (st := s_is_number) l_is_number c_is_number k_is_number
  have b_is_number := F_is_number.binds (ps := ["thing", "many"]) fun _ _ _ _ _ _ us hl => match us, hl with | [_, _], _ => rfl
  have F_is_row := fun_mk (st := s_is_row) l_is_row c_is_row k_is_row
  have b_is_row := F_is_row.binds (ps := ["thing", "length"]) fun _ _ _ _ _ _ us hl => match us, hl with | [_, _], _ => rfl
  have F_is_word := fun_mk (st := s_is_word) l_is_word c_is_word k_is_word
  have b_is_word := F_is_word.binds (ps := ["thing", "words"]) fun _ _ _ _ _ _ us hl => match us, hl with | [_, _], _ => rfl
  have F_is_who := fun_mk (st := s_is_who) l_is_who c_is_who k_is_who
  have b_is_who := F_is_who.binds (ps := ["thing", "people"]) fun _ _ _ _ _ _ us hl => match us, hl with | [_, _], _ => rfl
  have F_is_entry := fun_mk (st := s_is_entry) l_is_entry c_is_entry k_is_entry
  have b_is_entry := F_is_entry.binds (ps := ["thing", "people", "folders"]) fun _ _ _ _ _ _ us hl => match us, hl with | [_, _, _], _ => rfl
  have F_is_entries := fun_mk (st := s_is_entries) l_is_entries c_is_entries k_is_entries
  have b_is_entries := F_is_entries.binds (ps := ["thing", "people", "folders"]) fun _ _ _ _ _ _ us hl => match us, hl with | [_, _, _], _ => rfl
  have F_groups_of := fun_mk (st := s_groups_of) l_groups_of c_groups_of k_groups_of
  have b_groups_of := F_groups_of.binds (ps := ["members", "who", "deep"]) fun _ _ _ _ _ _ us hl => match us, hl with | [_, _, _], _ => rfl
  have F_is_member := fun_mk (st := s_is_member) l_is_member c_is_member k_is_member
  have b_is_member := F_is_member.binds (ps := ["thing", "people"]) fun _ _ _ _ _ _ us hl => match us, hl with | [_, _], _ => rfl
  have F_is_members := fun_mk (st := s_is_members) l_is_members c_is_members k_is_members
  have b_is_members := F_is_members.binds (ps := ["thing", "people"]) fun _ _ _ _ _ _ us hl => match us, hl with | [_, _], _ => rfl
  have F_comes_to_top := fun_mk (st := s_comes_to_top) l_comes_to_top c_comes_to_top k_comes_to_top
  have b_comes_to_top := F_comes_to_top.binds (ps := ["parents", "folder"]) fun _ _ _ _ _ _ us hl => match us, hl with | [_, _], _ => rfl
  have F_is_parents := fun_mk (st := s_is_parents) l_is_parents c_is_parents k_is_parents
  have b_is_parents := F_is_parents.binds (ps := ["thing"]) fun _ _ _ _ _ _ us hl => match us, hl with | [_], _ => rfl
  have F_is_shut := fun_mk (st := s_is_shut) l_is_shut c_is_shut k_is_shut
  have b_is_shut := F_is_shut.binds (ps := ["thing", "folders"]) fun _ _ _ _ _ _ us hl => match us, hl with | [_, _], _ => rfl
  have F_fit_together := fun_mk (st := s_fit_together) l_fit_together c_fit_together k_fit_together
  have b_fit_together := F_fit_together.binds (ps := ["people", "parents", "shut", "entries", "members"]) fun _ _ _ _ _ _ us hl => match us, hl with | [_, _, _, _, _], _ => rfl
  have F_is_house := fun_mk (st := s_is_house) l_is_house c_is_house k_is_house
  have b_is_house := F_is_house.binds (ps := ["thing"]) fun _ _ _ _ _ _ us hl => match us, hl with | [_], _ => rfl
  have F_need_house := fun_mk (st := s_need_house) l_need_house c_need_house k_need_house
  have b_need_house := F_need_house.binds (ps := ["house"]) fun _ _ _ _ _ _ us hl => match us, hl with | [_], _ => rfl
  have F_is_rule := fun_mk (st := s_is_rule) l_is_rule c_is_rule k_is_rule
  have b_is_rule := F_is_rule.binds (ps := ["thing"]) fun _ _ _ _ _ _ us hl => match us, hl with | [_], _ => rfl
  have F_need_rule := fun_mk (st := s_need_rule) l_need_rule c_need_rule k_need_rule
  have b_need_rule := F_need_rule.binds (ps := ["rule"]) fun _ _ _ _ _ _ us hl => match us, hl with | [_], _ => rfl
  have F_is_groups := fun_mk (st := s_is_groups) l_is_groups c_is_groups k_is_groups
  have b_is_groups := F_is_groups.binds (ps := ["thing"]) fun _ _ _ _ _ _ us hl => match us, hl with | [_], _ => rfl
  have F_is_logins := fun_mk (st := s_is_logins) l_is_logins c_is_logins k_is_logins
  have b_is_logins := F_is_logins.binds (ps := ["thing", "people"]) fun _ _ _ _ _ _ us hl => match us, hl with | [_, _], _ => rfl
  have F_is_state := fun_mk (st := s_is_state) l_is_state c_is_state k_is_state
  have b_is_state := F_is_state.binds (ps := ["house", "thing"]) fun _ _ _ _ _ _ us hl => match us, hl with | [_, _], _ => rfl
  have F_need_state := fun_mk (st := s_need_state) l_need_state c_need_state k_need_state
  have b_need_state := F_need_state.binds (ps := ["house", "state"]) fun _ _ _ _ _ _ us hl => match us, hl with | [_, _], _ => rfl
  have F_counted_groups := fun_mk (st := s_counted_groups) l_counted_groups c_counted_groups k_counted_groups
  have b_counted_groups := F_counted_groups.binds (ps := ["rule", "state", "person"]) fun _ _ _ _ _ _ us hl => match us, hl with | [_, _, _], _ => rfl
  have F_counts_for := fun_mk (st := s_counts_for) l_counts_for c_counts_for k_counts_for
  have b_counts_for := F_counts_for.binds (ps := ["who", "person", "groups"]) fun _ _ _ _ _ _ us hl => match us, hl with | [_, _, _], _ => rfl
  have F_line_up := fun_mk (st := s_line_up) l_line_up c_line_up k_line_up
  have b_line_up := F_line_up.binds (ps := ["parents", "folder"]) fun _ _ _ _ _ _ us hl => match us, hl with | [_, _], _ => rfl
  have F_way_of := fun_mk (st := s_way_of) l_way_of c_way_of k_way_of
  have b_way_of := F_way_of.binds (ps := ["parents", "shut", "folder"]) fun _ _ _ _ _ _ us hl => match us, hl with | [_, _, _], _ => rfl
  have F_deciding_entries := fun_mk (st := s_deciding_entries) l_deciding_entries c_deciding_entries k_deciding_entries
  have b_deciding_entries := F_deciding_entries.binds (ps := ["rule", "state", "person", "folder"]) fun _ _ _ _ _ _ us hl => match us, hl with | [_, _, _, _], _ => rfl
  have F_person_sees := fun_mk (st := s_person_sees) l_person_sees c_person_sees k_person_sees
  have b_person_sees := F_person_sees.binds (ps := ["rule", "state", "person", "folder"]) fun _ _ _ _ _ _ us hl => match us, hl with | [_, _, _, _], _ => rfl
  have F_all_sights := fun_mk (st := s_all_sights) l_all_sights c_all_sights k_all_sights
  have b_all_sights := F_all_sights.binds (ps := ["house", "rule", "state"]) fun _ _ _ _ _ _ us hl => match us, hl with | [_, _, _], _ => rfl
  have F_law_ascends := fun_mk (st := s_law_ascends) l_law_ascends c_law_ascends k_law_ascends
  have b_law_ascends := F_law_ascends.binds (ps := ["_law_house_here", "_law_rule_here", "_law_states"]) fun _ _ _ _ _ _ us hl => match us, hl with | [_, _, _], _ => rfl
  have F_law_cell_at := fun_mk (st := s_law_cell_at) l_law_cell_at c_law_cell_at k_law_cell_at
  have b_law_cell_at := F_law_cell_at.binds (ps := ["_law_script", "_law_k"]) fun _ _ _ _ _ _ us hl => match us, hl with | [_, _], _ => rfl
  have F_law_draws := fun_mk (st := s_law_draws) l_law_draws c_law_draws k_law_draws
  have b_law_draws := F_law_draws.binds (ps := ["_law_cell", "_law_many"]) fun _ _ _ _ _ _ us hl => match us, hl with | [_, _], _ => rfl
  have F_law_groups := fun_mk (st := s_law_groups) l_law_groups c_law_groups k_law_groups
  have b_law_groups := F_law_groups.binds (ps := ["_law_members", "_law_who_here", "_law_deep"]) fun _ _ _ _ _ _ us hl => match us, hl with | [_, _, _], _ => rfl
  have F_law_counts := fun_mk (st := s_law_counts) l_law_counts c_law_counts k_law_counts
  have b_law_counts := F_law_counts.binds (ps := ["_law_rule_here", "_law_state_here", "_law_person", "_law_who_here"]) fun _ _ _ _ _ _ us hl => match us, hl with | [_, _, _, _], _ => rfl
  have F_law_way := fun_mk (st := s_law_way) l_law_way c_law_way k_law_way
  have b_law_way := F_law_way.binds (ps := ["_law_state_here", "_law_folder"]) fun _ _ _ _ _ _ us hl => match us, hl with | [_, _], _ => rfl
  have F_law_elsewhere := fun_mk (st := s_law_elsewhere) l_law_elsewhere c_law_elsewhere k_law_elsewhere
  have b_law_elsewhere := F_law_elsewhere.binds (ps := ["_law_house_here", "_law_rule_here", "_law_states", "_law_folder", "_law_who_here"]) fun _ _ _ _ _ _ us hl => match us, hl with | [_, _, _, _, _], _ => rfl
  have F_law_who := fun_mk (st := s_law_who) l_law_who c_law_who k_law_who
  have b_law_who := F_law_who.binds (ps := ["_law_draw", "_law_people"]) fun _ _ _ _ _ _ us hl => match us, hl with | [_, _], _ => rfl
  have F_law_body := fun_mk (st := s_law_body) l_law_body c_law_body k_law_body
  have b_law_body := F_law_body.binds (ps := ["_law_draws_here", "_law_people", "_law_count"]) fun _ _ _ _ _ _ us hl => match us, hl with | [_, _, _], _ => rfl
  have F_law_house := fun_mk (st := s_law_house) l_law_house c_law_house k_law_house
  have b_law_house := F_law_house.binds (ps := ["_law_cell"]) fun _ _ _ _ _ _ us hl => match us, hl with | [_], _ => rfl
  have F_law_rule := fun_mk (st := s_law_rule) l_law_rule c_law_rule k_law_rule
  have b_law_rule := F_law_rule.binds (ps := ["_law_draw"]) fun _ _ _ _ _ _ us hl => match us, hl with | [_], _ => rfl
  have F_law_state := fun_mk (st := s_law_state) l_law_state c_law_state k_law_state
  have b_law_state := F_law_state.binds (ps := ["_law_cell", "_law_people", "_law_count"]) fun _ _ _ _ _ _ us hl => match us, hl with | [_, _, _], _ => rfl
  have F_law_with := fun_mk (st := s_law_with) l_law_with c_law_with k_law_with
  have b_law_with := F_law_with.binds (ps := ["_law_state_here", "_law_entries"]) fun _ _ _ _ _ _ us hl => match us, hl with | [_, _], _ => rfl
  have F_law := fun_mk (st := s_law) l_law c_law k_law
  have b_law := F_law.binds (ps := ["_law_script"]) fun _ _ _ _ _ _ us hl => match us, hl with | [_], _ => rfl
  let T : Top K mg w := { t_GROUPS := _, a_KINDS := _, t_MOST_ENTRIES := _, t_MOST_PARENTS := _, t_MOST_PEOPLE := _, ascends := ⟨_, _, F_ascends, PySem.W.mg_of X G a_ascends, b_ascends⟩, is_integer := ⟨_, _, F_is_integer, PySem.W.mg_of X G a_is_integer, b_is_integer⟩, is_number := ⟨_, _, F_is_number, PySem.W.mg_of X G a_is_number, b_is_number⟩, is_row := ⟨_, _, F_is_row, PySem.W.mg_of X G a_is_row, b_is_row⟩, is_word := ⟨_, _, F_is_word, PySem.W.mg_of X G a_is_word, b_is_word⟩, is_who := ⟨_, _, F_is_who, PySem.W.mg_of X G a_is_who, b_is_who⟩, is_entry := ⟨_, _, F_is_entry, PySem.W.mg_of X G a_is_entry, b_is_entry⟩, is_entries := ⟨_, _, F_is_entries, PySem.W.mg_of X G a_is_entries, b_is_entries⟩, groups_of := ⟨_, _, F_groups_of, PySem.W.mg_of X G a_groups_of, b_groups_of⟩, is_member := ⟨_, _, F_is_member, PySem.W.mg_of X G a_is_member, b_is_member⟩, is_members := ⟨_, _, F_is_members, PySem.W.mg_of X G a_is_members, b_is_members⟩, comes_to_top := ⟨_, _, F_comes_to_top, PySem.W.mg_of X G a_comes_to_top, b_comes_to_top⟩, is_parents := ⟨_, _, F_is_parents, PySem.W.mg_of X G a_is_parents, b_is_parents⟩, is_shut := ⟨_, _, F_is_shut, PySem.W.mg_of X G a_is_shut, b_is_shut⟩, fit_together := ⟨_, _, F_fit_together, PySem.W.mg_of X G a_fit_together, b_fit_together⟩, is_house := ⟨_, _, F_is_house, PySem.W.mg_of X G a_is_house, b_is_house⟩, need_house := ⟨_, _, F_need_house, PySem.W.mg_of X G a_need_house, b_need_house⟩, is_rule := ⟨_, _, F_is_rule, PySem.W.mg_of X G a_is_rule, b_is_rule⟩, need_rule := ⟨_, _, F_need_rule, PySem.W.mg_of X G a_need_rule, b_need_rule⟩, is_groups := ⟨_, _, F_is_groups, PySem.W.mg_of X G a_is_groups, b_is_groups⟩, is_logins := ⟨_, _, F_is_logins, PySem.W.mg_of X G a_is_logins, b_is_logins⟩, is_state := ⟨_, _, F_is_state, PySem.W.mg_of X G a_is_state, b_is_state⟩, need_state := ⟨_, _, F_need_state, PySem.W.mg_of X G a_need_state, b_need_state⟩, counted_groups := ⟨_, _, F_counted_groups, PySem.W.mg_of X G a_counted_groups, b_counted_groups⟩, counts_for := ⟨_, _, F_counts_for, PySem.W.mg_of X G a_counts_for, b_counts_for⟩, line_up := ⟨_, _, F_line_up, PySem.W.mg_of X G a_line_up, b_line_up⟩, way_of := ⟨_, _, F_way_of, PySem.W.mg_of X G a_way_of, b_way_of⟩, deciding_entries := ⟨_, _, F_deciding_entries, PySem.W.mg_of X G a_deciding_entries, b_deciding_entries⟩, person_sees := ⟨_, _, F_person_sees, PySem.W.mg_of X G a_person_sees, b_person_sees⟩, all_sights := ⟨_, _, F_all_sights, PySem.W.mg_of X G a_all_sights, b_all_sights⟩, law_ascends := ⟨_, _, F_law_ascends, PySem.W.mg_of X G a_law_ascends, b_law_ascends⟩, law_cell_at := ⟨_, _, F_law_cell_at, PySem.W.mg_of X G a_law_cell_at, b_law_cell_at⟩, law_draws := ⟨_, _, F_law_draws, PySem.W.mg_of X G a_law_draws, b_law_draws⟩, law_groups := ⟨_, _, F_law_groups, PySem.W.mg_of X G a_law_groups, b_law_groups⟩, law_counts := ⟨_, _, F_law_counts, PySem.W.mg_of X G a_law_counts, b_law_counts⟩, law_way := ⟨_, _, F_law_way, PySem.W.mg_of X G a_law_way, b_law_way⟩, law_elsewhere := ⟨_, _, F_law_elsewhere, PySem.W.mg_of X G a_law_elsewhere, b_law_elsewhere⟩, law_who := ⟨_, _, F_law_who, PySem.W.mg_of X G a_law_who, b_law_who⟩, law_body := ⟨_, _, F_law_body, PySem.W.mg_of X G a_law_body, b_law_body⟩, law_house := ⟨_, _, F_law_house, PySem.W.mg_of X G a_law_house, b_law_house⟩, law_rule := ⟨_, _, F_law_rule, PySem.W.mg_of X G a_law_rule, b_law_rule⟩, law_state := ⟨_, _, F_law_state, PySem.W.mg_of X G a_law_state, b_law_state⟩, law_with := ⟨_, _, F_law_with, PySem.W.mg_of X G a_law_with, b_law_with⟩, law := ⟨_, _, F_law, PySem.W.mg_of X G a_law, b_law⟩, m_GROUPS := PySem.W.mg_of X G n_GROUPS, m_KINDS := PySem.W.mg_of X G n_KINDS, r_KINDS := fun H => k_strs (xs := ["allow", "bar"]) l_KINDS rfl rfl (by decide) (.cons ⟨_, rfl⟩ (.cons ⟨_, rfl⟩ .nil)) (by decide +kernel), m_MOST_ENTRIES := PySem.W.mg_of X G n_MOST_ENTRIES, m_MOST_PARENTS := PySem.W.mg_of X G n_MOST_PARENTS, m_MOST_PEOPLE := PySem.W.mg_of X G n_MOST_PEOPLE, z_all := PySem.W.mg_none_of X G z_all, z_any := PySem.W.mg_none_of X G z_any, z_bool := PySem.W.mg_none_of X G z_bool, z_int := PySem.W.mg_none_of X G z_int, z_isinstance := PySem.W.mg_none_of X G z_isinstance, z_len := PySem.W.mg_none_of X G z_len, z_list := PySem.W.mg_none_of X G z_list, z_max := PySem.W.mg_none_of X G z_max, z_range := PySem.W.mg_none_of X G z_range, z_set := PySem.W.mg_none_of X G z_set, z_sorted := PySem.W.mg_none_of X G z_sorted, z_str := PySem.W.mg_none_of X G z_str, z_tuple := PySem.W.mg_none_of X G z_tuple }
  exact ⟨_, fun s v => .of_eq rfl, fun base _ _ => ok_law T⟩
end A
open PySem PySem.W PyProof.Rows
set_option maxHeartbeats 0 in
theorem A.done : PySem.Challenge.rw_sawwhen_k07_whole_one_entry_more.Holds := by
  w_on; o_law; k_head; (case hw => w_witness2)
  k_fill
  refine L2.walk_of (l := PySem.Challenge.rw_sawwhen_k07_whole_one_entry_more) (n := 63) (k := 11) (x := "_law_script") (CX := fun _ => L2.CX0) (sp := fun w => PL.spP _ 1 M.G_law) rfl (by decide) rfl ⟨rfl, by decide, by decide⟩ (fun w h Y => PySem.W.kIn_of Y) ?F (fun _ _ a ns hl _ hS => PL.law_sp hl hS (Q.math ns hl)) (fun _ _ _ _ _ h => h)
  case F =>
    intro w mg fa h KX G hmg
    refine' A.all_mk KX G hmg ?a_ascends ?l_ascends ?c_ascends ?k_ascends ?a_is_integer ?l_is_integer ?c_is_integer ?k_is_integer ?a_is_number ?l_is_number ?c_is_number ?k_is_number ?a_is_row ?l_is_row ?c_is_row ?k_is_row ?a_is_word ?l_is_word ?c_is_word ?k_is_word ?a_is_who ?l_is_who ?c_is_who ?k_is_who ?a_is_entry ?l_is_entry ?c_is_entry ?k_is_entry ?a_is_entries ?l_is_entries ?c_is_entries ?k_is_entries ?a_groups_of ?l_groups_of ?c_groups_of ?k_groups_of ?a_is_member ?l_is_member ?c_is_member ?k_is_member ?a_is_members ?l_is_members ?c_is_members ?k_is_members ?a_comes_to_top ?l_comes_to_top ?c_comes_to_top ?k_comes_to_top ?a_is_parents ?l_is_parents ?c_is_parents ?k_is_parents ?a_is_shut ?l_is_shut ?c_is_shut ?k_is_shut ?a_fit_together ?l_fit_together ?c_fit_together ?k_fit_together ?a_is_house ?l_is_house ?c_is_house ?k_is_house ?a_need_house ?l_need_house ?c_need_house ?k_need_house ?a_is_rule ?l_is_rule ?c_is_rule ?k_is_rule ?a_need_rule ?l_need_rule ?c_need_rule ?k_need_rule ?a_is_groups ?l_is_groups ?c_is_groups ?k_is_groups ?a_is_logins ?l_is_logins ?c_is_logins ?k_is_logins ?a_is_state ?l_is_state ?c_is_state ?k_is_state ?a_need_state ?l_need_state ?c_need_state ?k_need_state ?a_counted_groups ?l_counted_groups ?c_counted_groups ?k_counted_groups ?a_counts_for ?l_counts_for ?c_counts_for ?k_counts_for ?a_line_up ?l_line_up ?c_line_up ?k_line_up ?a_way_of ?l_way_of ?c_way_of ?k_way_of ?a_deciding_entries ?l_deciding_entries ?c_deciding_entries ?k_deciding_entries ?a_person_sees ?l_person_sees ?c_person_sees ?k_person_sees ?a_all_sights ?l_all_sights ?c_all_sights ?k_all_sights ?a_law_ascends ?l_law_ascends ?c_law_ascends ?k_law_ascends ?a_law_cell_at ?l_law_cell_at ?c_law_cell_at ?k_law_cell_at ?a_law_draws ?l_law_draws ?c_law_draws ?k_law_draws ?a_law_groups ?l_law_groups ?c_law_groups ?k_law_groups ?a_law_counts ?l_law_counts ?c_law_counts ?k_law_counts ?a_law_way ?l_law_way ?c_law_way ?k_law_way ?a_law_elsewhere ?l_law_elsewhere ?c_law_elsewhere ?k_law_elsewhere ?a_law_who ?l_law_who ?c_law_who ?k_law_who ?a_law_body ?l_law_body ?c_law_body ?k_law_body ?a_law_house ?l_law_house ?c_law_house ?k_law_house ?a_law_rule ?l_law_rule ?c_law_rule ?k_law_rule ?a_law_state ?l_law_state ?c_law_state ?k_law_state ?a_law_with ?l_law_with ?c_law_with ?k_law_with ?a_law ?l_law ?c_law ?k_law ?n_GROUPS ?n_KINDS ?l_KINDS ?n_MOST_ENTRIES ?n_MOST_PARENTS ?n_MOST_PEOPLE ?z_all ?z_any ?z_bool ?z_int ?z_isinstance ?z_len ?z_list ?z_max ?z_range ?z_set ?z_sorted ?z_str ?z_tuple
    (case a_ascends => k_is); (case l_ascends => k_is); (case c_ascends => k_is); (case k_ascends => k_is); (case a_is_integer => k_is); (case l_is_integer => k_is); (case c_is_integer => k_is); (case k_is_integer => k_is); (case a_is_number => k_is); (case l_is_number => k_is); (case c_is_number => k_is); (case k_is_number => k_is); (case a_is_row => k_is); (case l_is_row => k_is); (case c_is_row => k_is); (case k_is_row => k_is); (case a_is_word => k_is); (case l_is_word => k_is); (case c_is_word => k_is); (case k_is_word => k_is); (case a_is_who => k_is); (case l_is_who => k_is); (case c_is_who => k_is); (case k_is_who => k_is); (case a_is_entry => k_is); (case l_is_entry => k_is); (case c_is_entry => k_is); (case k_is_entry => k_is); (case a_is_entries => k_is); (case l_is_entries => k_is); (case c_is_entries => k_is); (case k_is_entries => k_is); (case a_groups_of => k_is); (case l_groups_of => k_is); (case c_groups_of => k_is); (case k_groups_of => k_is); (case a_is_member => k_is); (case l_is_member => k_is); (case c_is_member => k_is); (case k_is_member => k_is); (case a_is_members => k_is); (case l_is_members => k_is); (case c_is_members => k_is); (case k_is_members => k_is); (case a_comes_to_top => k_is); (case l_comes_to_top => k_is); (case c_comes_to_top => k_is); (case k_comes_to_top => k_is); (case a_is_parents => k_is); (case l_is_parents => k_is); (case c_is_parents => k_is); (case k_is_parents => k_is); (case a_is_shut => k_is); (case l_is_shut => k_is); (case c_is_shut => k_is); (case k_is_shut => k_is); (case a_fit_together => k_is); (case l_fit_together => k_is); (case c_fit_together => k_is); (case k_fit_together => k_is); (case a_is_house => k_is); (case l_is_house => k_is); (case c_is_house => k_is); (case k_is_house => k_is); (case a_need_house => k_is); (case l_need_house => k_is); (case c_need_house => k_is); (case k_need_house => k_is); (case a_is_rule => k_is); (case l_is_rule => k_is); (case c_is_rule => k_is); (case k_is_rule => k_is); (case a_need_rule => k_is); (case l_need_rule => k_is); (case c_need_rule => k_is); (case k_need_rule => k_is); (case a_is_groups => k_is); (case l_is_groups => k_is); (case c_is_groups => k_is); (case k_is_groups => k_is); (case a_is_logins => k_is); (case l_is_logins => k_is); (case c_is_logins => k_is); (case k_is_logins => k_is); (case a_is_state => k_is); (case l_is_state => k_is); (case c_is_state => k_is); (case k_is_state => k_is); (case a_need_state => k_is); (case l_need_state => k_is); (case c_need_state => k_is); (case k_need_state => k_is); (case a_counted_groups => k_is); (case l_counted_groups => k_is); (case c_counted_groups => k_is); (case k_counted_groups => k_is); (case a_counts_for => k_is); (case l_counts_for => k_is); (case c_counts_for => k_is); (case k_counts_for => k_is); (case a_line_up => k_is); (case l_line_up => k_is); (case c_line_up => k_is); (case k_line_up => k_is); (case a_way_of => k_is); (case l_way_of => k_is); (case c_way_of => k_is); (case k_way_of => k_is); (case a_deciding_entries => k_is); (case l_deciding_entries => k_is); (case c_deciding_entries => k_is); (case k_deciding_entries => k_is); (case a_person_sees => k_is); (case l_person_sees => k_is); (case c_person_sees => k_is); (case k_person_sees => k_is); (case a_all_sights => k_is); (case l_all_sights => k_is); (case c_all_sights => k_is); (case k_all_sights => k_is); (case a_law_ascends => k_is); (case l_law_ascends => k_is); (case c_law_ascends => k_is); (case k_law_ascends => k_is); (case a_law_cell_at => k_is); (case l_law_cell_at => k_is); (case c_law_cell_at => k_is); (case k_law_cell_at => k_is); (case a_law_draws => k_is); (case l_law_draws => k_is); (case c_law_draws => k_is); (case k_law_draws => k_is); (case a_law_groups => k_is); (case l_law_groups => k_is); (case c_law_groups => k_is); (case k_law_groups => k_is); (case a_law_counts => k_is); (case l_law_counts => k_is); (case c_law_counts => k_is); (case k_law_counts => k_is); (case a_law_way => k_is); (case l_law_way => k_is); (case c_law_way => k_is); (case k_law_way => k_is); (case a_law_elsewhere => k_is); (case l_law_elsewhere => k_is); (case c_law_elsewhere => k_is); (case k_law_elsewhere => k_is); (case a_law_who => k_is); (case l_law_who => k_is); (case c_law_who => k_is); (case k_law_who => k_is); (case a_law_body => k_is); (case l_law_body => k_is); (case c_law_body => k_is); (case k_law_body => k_is); (case a_law_house => k_is); (case l_law_house => k_is); (case c_law_house => k_is); (case k_law_house => k_is); (case a_law_rule => k_is); (case l_law_rule => k_is); (case c_law_rule => k_is); (case k_law_rule => k_is); (case a_law_state => k_is); (case l_law_state => k_is); (case c_law_state => k_is); (case k_law_state => k_is); (case a_law_with => k_is); (case l_law_with => k_is); (case c_law_with => k_is); (case k_law_with => k_is); (case a_law => k_is); (case l_law => k_is); (case c_law => k_is); (case k_law => k_is); (case n_GROUPS => k_is); (case n_KINDS => k_is); (case l_KINDS => k_is); (case n_MOST_ENTRIES => k_is); (case n_MOST_PARENTS => k_is); (case n_MOST_PEOPLE => k_is); (case z_all => k_is); (case z_any => k_is); (case z_bool => k_is); (case z_int => k_is); (case z_isinstance => k_is); (case z_len => k_is); (case z_list => k_is); (case z_max => k_is); (case z_range => k_is); (case z_set => k_is); (case z_sorted => k_is); (case z_str => k_is); (case z_tuple => k_is)


theorem PySem.Challenge.cw_sawwhen_k07_whole_one_entry_more_holds : PySem.Challenge.rw_sawwhen_k07_whole_one_entry_more.Holds :=
  A.done
