import PyProof.Rows.All
import Wide.All
import OpenK.AllK
import Wide.FinOn
import Lean
import PyProof.EqAt
import PyProof.EqKinds
import PyProof.TupleCall
import KE.KRevIter
import PyProof.ListNew
import PyProof.ListRange
import PyProof.SeqWrite
import PyProof.CompMap
import PyProof.EnumMake
import PyProof.Draws
import PyProof.ZipIter
import PyProof.ToksMono
import PyProof.StrCalls6
import PyProof.StrBlockH
import PyProof.StrLawsReplace
import KE.KWords
import KE.KIntText
import KE.KStateDown
import PyProof.WalkInts
import PyProof.Rows.Range3
import PySem.Challenge.RW_nestnote_k05_first_fault
set_option Elab.async false
set_option linter.all false
set_option maxRecDepth 100000
namespace L2
open PySem PySem.Spec PyProof.Rows

/-- a key: an int or a str -/
abbrev Key := Sum Int Str
def keyIs : Key → Value → Bool
  | .inl k, v => Value.isInt k v
  | .inr x, v => Value.isStrOf x v
def keyH (w : World) : Key → Int
  | .inl k => hashInt k
  | .inr x => hashStr w x
theorem keyIs_shape : ∀ {k : Key} {v : Value}, keyIs k v = true → (∃ i t, k = Sum.inl i ∧ v = Value.int i t) ∨ (∃ x t, k = Sum.inr x ∧ v = Value.str x t)
  | .inl i, v, h => by
    obtain ⟨t, e⟩ := Value.isInt_shape (k := i) (v := v) h
    exact .inl ⟨i, t, rfl, e⟩
  | .inr x, v, h => by
    obtain ⟨t, e⟩ := Value.isStrOf_shape (x := x) (v := v) h
    exact .inr ⟨x, t, rfl, e⟩
theorem key_ll (a b : Int) : decide ((Sum.inl a : Key) = Sum.inl b) = (a == b) := by
  by_cases e : a = b
  · subst e; simp
  · have h : ¬ (Sum.inl a : Key) = Sum.inl b := fun q => e (Sum.inl.inj q)
    rw [decide_eq_false h]
    exact (beq_eq_false_iff_ne.mpr e).symm
theorem key_rr (a b : Str) : decide ((Sum.inr a : Key) = Sum.inr b) = decide (a = b) := by
  by_cases e : a = b
  · subst e; simp
  · have h : ¬ (Sum.inr a : Key) = Sum.inr b := fun q => e (Sum.inr.inj q)
    rw [decide_eq_false h, decide_eq_false e]
theorem key_lr (a : Int) (b : Str) : decide ((Sum.inl a : Key) = Sum.inr b) = false := decide_eq_false (fun q => nomatch q)
theorem key_rl (a : Str) (b : Int) : decide ((Sum.inr a : Key) = Sum.inl b) = false := decide_eq_false (fun q => nomatch q)

def mixKind (prog : Program) (w : World) : PySem.KeyKind prog w Key where
  is := keyIs
  hash := keyH w
  inj := fun v a b ha hb => by
    rcases keyIs_shape ha with ⟨i, t, rfl, rfl⟩ | ⟨x, t, rfl, rfl⟩
    · rcases keyIs_shape hb with ⟨j, u, rfl, e⟩ | ⟨y, u, rfl, e⟩
      · injection e with e1 _; rw [e1]
      · exact nomatch e
    · rcases keyIs_shape hb with ⟨j, u, rfl, e⟩ | ⟨y, u, rfl, e⟩
      · exact nomatch e
      · injection e with e1 _; rw [e1]
  byValue := fun k v h => by
    rcases keyIs_shape h with ⟨i, t, rfl, rfl⟩ | ⟨x, t, rfl, rfl⟩ <;> rfl
  pyHash := fun hv h => by
    rcases keyIs_shape hv with ⟨i, t, rfl, rfl⟩ | ⟨x, t, rfl, rfl⟩
    · exact wpAny_pyHash_int h
    · exact wpAny_pyHash_str h
  eqBool := fun hu hv h => by
    rcases keyIs_shape hu with ⟨i, t, rfl, rfl⟩ | ⟨x, t, rfl, rfl⟩
    · rcases keyIs_shape hv with ⟨j, u, rfl, rfl⟩ | ⟨y, u, rfl, rfl⟩
      · rw [key_ll] at h; exact wpAny_eqBool_int h
      · rw [key_lr] at h; exact SeqAt.EqAt.int_str i t y u _ _ _ _ h
    · rcases keyIs_shape hv with ⟨j, u, rfl, rfl⟩ | ⟨y, u, rfl, rfl⟩
      · rw [key_rl] at h; exact SeqAt.EqAt.str_int x t j u _ _ _ _ h
      · rw [key_rr] at h; exact wpAny_eqBool_str h
  «strs» := fun k x t v h => by
    rcases keyIs_shape h with ⟨i, u, rfl, e⟩ | ⟨y, u, rfl, e⟩
    · exact nomatch e
    · injection e with e1 _
      subst e1
      cases v <;> rfl

end L2

namespace L2
open PySem PySem.Spec PyProof.Rows

/-- a value, without the heap -/
inductive V where
  | non | bl (b : Bool) | int (i : Int) | str (x : Str) | byt (b : Array UInt8) | flt (b : UInt64) | ref (a : Addr) | ty (n : String)
  deriving DecidableEq

def RelV : V → Value → Prop
  | .non, u => u = Value.none
  | .bl b, u => u = Value.bool b
  | .int i, u => ∃ t, u = Value.int i t
  | .str x, u => ∃ t, u = Value.str x t
  | .byt b, u => ∃ t, u = Value.bytes b t
  | .flt b, u => ∃ t, u = Value.float b t
  | .ref a, u => u = Value.ref a
  | .ty n, u => u = Value.type n

abbrev Vals : List V → List Value → Prop := Paired RelV
theorem Vals.length {xs : List V} {us : List Value} (r : Vals xs us) : xs.length = us.length := Paired.length r
theorem Vals.get : ∀ {xs : List V} {us : List Value} {i : Nat} {x : V}, Vals xs us → xs[i]? = some x → ∃ u, us[i]? = some u ∧ RelV x u
  | _, _, _, _, .nil, e => by simp at e
  | _, _, 0, _, .cons r _, e => by simp at e; subst e; exact ⟨_, rfl, r⟩
  | _, _, i + 1, x, .cons _ t, e => by
    obtain ⟨u, h1, h2⟩ := Vals.get (i := i) (x := x) t (by simpa using e)
    exact ⟨u, by simpa using h1, h2⟩
theorem Vals.set {x : V} {u : Value} (r : RelV x u) : ∀ {xs : List V} {us : List Value} (i : Nat), Vals xs us → Vals (xs.set i x) (us.set i u)
  | _, _, _, .nil => .nil
  | _, _, 0, .cons _ t => .cons r t
  | _, _, i + 1, .cons q t => .cons q (Vals.set r i t)
theorem Vals.append : ∀ {xs ys : List V} {us ws : List Value}, Vals xs us → Vals ys ws → Vals (xs ++ ys) (us ++ ws)
  | _, _, _, _, .nil, s => s
  | _, _, _, _, .cons r t, s => .cons r (Vals.append t s)
theorem Vals.take : ∀ {xs : List V} {us : List Value} (n : Nat), Vals xs us → Vals (xs.take n) (us.take n)
  | _, _, 0, _ => .nil
  | _, _, _ + 1, .nil => .nil
  | _, _, n + 1, .cons r t => .cons r (Vals.take n t)
theorem Vals.drop : ∀ {xs : List V} {us : List Value} (n : Nat), Vals xs us → Vals (xs.drop n) (us.drop n)
  | _, _, 0, r => r
  | _, _, _ + 1, .nil => .nil
  | _, _, n + 1, .cons _ t => Vals.drop n t
def RelO : Option V → Option Value → Prop
  | some v, some u => RelV v u
  | none, none => True
  | _, _ => False
def KV {κ : Type} : List (κ × V) → List (κ × Value) → Prop := Paired fun (p : κ × V) (q : κ × Value) => p.1 = q.1 ∧ RelV p.2 q.2

/-- a key of a dict (00_mix): an int or a text -/
def kV : Key → V
  | .inl i => .int i
  | .inr x => .str x

/-- what stands at a tracked address -/
inductive HO where
  /-- a list -/
  | lst (xs : List V)
  /-- a tuple (never changes) -/
  | tup (xs : List V)
  /-- a dict whose keys are ints and texts; one whose keys are tuples of ints and texts (the empty one is both) -/
  | dK (kvs : List (Key × V)) | dT (kvs : List (List Key × V))
  /-- a set of ints: its members, its size -/
  | set (S : Int → Bool) (n : Nat)
  /-- an instance of the class at C, its dict at dx, its attributes -/
  | ins (C dx : Addr) (fs : List (Str × V))
  /-- the dict of the instance at x -/
  | own (x : Addr)
  /-- the dict of an exception -/
  | xd (fs : List (Str × V))
  /-- a bound method, f of x -/
  | met (f x : Addr)
  /-- a range object lo, lo + 1, .. below hi -/
  | rng (lo hi : Int)
  /-- a thing that is known to the object (the script; a dict while a loop walks it): read, never written while it is so -/
  | frz (o : Obj) (u : HO)
  /-- a code object's table -/
  | tbl (ps : Array Value)
  /-- any other thing, by what is true of its one object (a def of one's own: SetO a S n := HO.ext fun h => ..) -/
  | ext (φ : Heap → Prop)

abbrev Hp := Addr → Option HO
def upd (H : Hp) (a : Addr) (o : HO) : Hp := fun b => if b = a then some o else H b
theorem upd_same {H : Hp} {a : Addr} {o : HO} : upd H a o a = some o := by unfold upd; rw [if_pos rfl]
theorem upd_ne {H : Hp} {a b : Addr} {o : HO} (h : b ≠ a) : upd H a o b = H b := by unfold upd; rw [if_neg h]
theorem ne_of_none {H : Hp} {a b : Addr} {o : HO} (h : H a = some o) (h' : H b = none) : a ≠ b := by
  intro e; subst e; rw [h] at h'; cases h'

section
variable (P : Program) (w : World)
def ObjOk (H : Hp) (h : Heap) (a : Addr) : HO → Prop
  | .lst xs => xs.length ≤ sizeLine ∧ ∃ (its : List Value) (n : Nat), Vals xs its ∧ h.get? a = some { cls := .type "list", data := .seq its.toArray n }
  | .tup xs => xs.length ≤ sizeLine ∧ ∃ its : List Value, Vals xs its ∧ IsTup h a its.toArray
  | .dK kvs => kvs.length ≤ sizeLine ∧ (a == sysModules) = false ∧ ∃ vs, KV kvs vs ∧ h.DictOf (mixKind P w) a vs
  | .dT kvs => kvs.length ≤ sizeLine ∧ (a == sysModules) = false ∧ ∃ xs : List (List Key × Addr × Value),
      Paired (fun (p : List Key × V) (q : List Key × Addr × Value) => p.1 = q.1 ∧ H q.2.1 = some (.tup (p.1.map kV)) ∧ RelV p.2 q.2.2) kvs xs ∧
      ∃ o es ep, h.get? a = some o ∧ o.ExactDict ∧ o.data = .dict es ep ∧ es.toList = xs.map (entryOfKey (tupleKind (mixKind P w))) ∧ (xs.map (·.1)).Nodup
  | .set S n => h.SetOf (intKind P w) a S n
  | .ins C dx fs => H dx = some (.own a) ∧ fs.length ≤ 1000 ∧ dx ≠ a ∧ h.get? a = some (PySem.W.instObj C dx) ∧
      ∃ mA, h.Ns1 dx mA ∧ (∀ f, RelO (fs.lookup f) (mA f)) ∧ PySem.Within mA (fs.map (·.1))
  | .own _ => ∃ o, h.get? a = some o
  | .xd fs => ∃ mA, h.Ns1 a mA ∧ ∀ f, RelO (fs.lookup f) (mA f)
  | .rng lo hi => ∃ t u v, h.get? a = some { cls := .type "range", data := .fields #[.int lo t, .int hi u, .int 1 v] }
  | .frz o u => h.get? a = some o ∧ ObjOk H h a u
  | .tbl ps => h.get? a = some { cls := .none, data := .fields ps }
  | .met f x => h.get? a = some (PySem.W.methodObj (.ref f) (.ref x))
  | .ext φ => φ h ∧ (∃ o, h.get? a = some o) ∧ ∀ h1 h2 : Heap, φ h1 → (∀ o, h1.get? a = some o → h2.get? a = some o) → φ h2
/-- the abstract heap is held -/
def HOk (H : Hp) (h : Heap) : Prop := ∀ a o, H a = some o → ObjOk P w H h a o
end

section
variable {P : Program} {w : World} {H H' : Hp} {h h' : Heap} {a : Addr} {o : HO}
theorem ObjOk.lt (x : ObjOk P w H h a o) : a < h.objs.size := by
  cases o with
  | lst xs => obtain ⟨_, _, _, _, e⟩ := x; exact Heap.lt_size e
  | tup xs => obtain ⟨_, _, _, p⟩ := x; exact p.lt
  | dK kvs => obtain ⟨_, _, _, _, o, _, _, e, _⟩ := x; exact Heap.lt_size e
  | dT kvs => obtain ⟨_, _, _, _, o, _, _, e, _⟩ := x; exact Heap.lt_size e
  | set S n => obtain ⟨o, _, _, _, e, _⟩ := x; exact Heap.lt_size e
  | ins C dx fs => obtain ⟨_, _, _, e, _⟩ := x; exact Heap.lt_size e
  | own y => obtain ⟨_, e⟩ := x; exact Heap.lt_size e
  | xd fs => obtain ⟨_, ⟨_, _, _, e, _⟩, _⟩ := x; exact Heap.lt_size e
  | rng lo hi => obtain ⟨_, _, _, e⟩ := x; exact Heap.lt_size e
  | frz ob u => obtain ⟨e, _⟩ := x; exact Heap.lt_size e
  | tbl ps => exact Heap.lt_size (show h.get? a = some _ from x)
  | met f y => exact Heap.lt_size (show h.get? a = some _ from x)
  | ext φ => obtain ⟨_, ⟨_, e⟩, _⟩ := x; exact Heap.lt_size e
theorem Paired.mapP {α β : Type} {F G : α → β → Prop} : ∀ {l₁ : List α} {l₂ : List β}, Paired F l₁ l₂ → (∀ a b, F a b → G a b) → Paired G l₁ l₂
  | _, _, .nil, _ => .nil
  | _, _, .cons r t, f => .cons (f _ _ r) (Paired.mapP t f)
/-- what an object's description leans on: its own object, its own dict, the tuples -/
theorem ObjOk.stay (x : ObjOk P w H h a o) (k : ∀ b u, (b = a ∨ H b = some (.own a)) → h.get? b = some u → h'.get? b = some u)
    (ho : ∀ b, H b = some (.own a) → H' b = some (.own a)) (ht : ∀ b xs, H b = some (.tup xs) → H' b = some (.tup xs)) : ObjOk P w H' h' a o := by
  induction o with
  | lst xs => obtain ⟨z, its, n, r, e⟩ := x; exact ⟨z, its, n, r, k _ _ (.inl rfl) e⟩
  | tup xs => obtain ⟨z, its, r, ob, e, c⟩ := x; exact ⟨z, its, r, ob, k _ _ (.inl rfl) e, c⟩
  | dK kvs => obtain ⟨z, y, vs, r, ob, es, ep, e, c⟩ := x; exact ⟨z, y, vs, r, ob, es, ep, k _ _ (.inl rfl) e, c⟩
  | dT kvs =>
    obtain ⟨z, y, xs, r, ob, es, ep, e, c⟩ := x
    exact ⟨z, y, xs, Paired.mapP r fun p q z => ⟨z.1, ht _ _ z.2.1, z.2.2⟩, ob, es, ep, k _ _ (.inl rfl) e, c⟩
  | set S n => obtain ⟨ob, es, ep, t, e, c⟩ := x; exact ⟨ob, es, ep, t, k _ _ (.inl rfl) e, c⟩
  | ins C dx fs =>
    obtain ⟨d, z, ne, e, mA, ⟨od, es, ep, e2, c⟩, r⟩ := x
    exact ⟨ho _ d, z, ne, k _ _ (.inl rfl) e, mA, ⟨od, es, ep, k _ _ (.inr d) e2, c⟩, r⟩
  | own y => obtain ⟨ob, e⟩ := x; exact ⟨ob, k _ _ (.inl rfl) e⟩
  | xd fs => obtain ⟨mA, ⟨od, es, ep, e, c⟩, r⟩ := x; exact ⟨mA, ⟨od, es, ep, k _ _ (.inl rfl) e, c⟩, r⟩
  | rng lo hi => obtain ⟨t, u, v, e⟩ := x; exact ⟨t, u, v, k _ _ (.inl rfl) e⟩
  | frz ob u ih => obtain ⟨e, q⟩ := x; exact ⟨k _ _ (.inl rfl) e, ih q⟩
  | tbl ps =>
    have e : h.get? a = some { cls := .none, data := .fields ps } := x
    show h'.get? a = some { cls := .none, data := .fields ps }
    exact k a _ (.inl rfl) e
  | met f y =>
    have e : h.get? a = some (PySem.W.methodObj (.ref f) (.ref y)) := x
    show h'.get? a = some (PySem.W.methodObj (.ref f) (.ref y))
    exact k a _ (.inl rfl) e
  | ext φ => obtain ⟨p, ⟨o, e⟩, st⟩ := x; exact ⟨st _ _ p fun o q => k _ _ (.inl rfl) q, ⟨o, k _ _ (.inl rfl) e⟩, st⟩
theorem HOk.lt (x : HOk P w H h) (e : H a = some o) : a < h.objs.size := (x a o e).lt
theorem HOk.fresh (x : HOk P w H h) (e : h.objs.size ≤ a) : H a = none := by
  cases q : H a with
  | none => rfl
  | some u => exact absurd (Nat.lt_of_lt_of_le (x.lt q) e) (Nat.lt_irrefl _)
/-- every object of the heap is kept -/
theorem HOk.kept (x : HOk P w H h) (k : ∀ b u, h.get? b = some u → h'.get? b = some u) : HOk P w H h' := fun a o e =>
  (x a o e).stay (fun b u _ q => k b u q) (fun _ q => q) fun _ _ q => q
/-- a new object is laid and tracked -/
theorem HOk.laid (x : HOk P w H h) (k : ∀ b u, h.get? b = some u → h'.get? b = some u) (hp : h.objs.size ≤ a) (new : ObjOk P w (upd H a o) h' a o) : HOk P w (upd H a o) h' := fun b u e => by
  have hn := x.fresh hp
  by_cases hb : b = a
  · subst hb; rw [upd_same] at e; cases e; exact new
  · rw [upd_ne hb] at e
    exact (x b u e).stay (fun c v _ q => k c v q) (fun c q => by rw [upd_ne (ne_of_none q hn)]; exact q) fun c xs q => by rw [upd_ne (ne_of_none q hn)]; exact q
end

/-- what may be read as u: it is u, or a known u -/
def Rd (H : Hp) (a : Addr) (u : HO) : Prop := H a = some u ∨ ∃ o, H a = some (.frz o u)
theorem Rd.of {H : Hp} {a : Addr} {u : HO} (h : H a = some u) : Rd H a u := .inl h
theorem Rd.ok {P : Program} {w : World} {H : Hp} {h : Heap} {a : Addr} {u : HO} (r : Rd H a u) (x : HOk P w H h) : ObjOk P w H h a u := by
  rcases r with r | ⟨o, r⟩
  · exact x a u r
  · obtain ⟨_, q⟩ := x a _ r
    exact q
/-- what may be written -/
def Mut : Option HO → Prop
  | some (.lst _) => True
  | some (.dK _) => True
  | some (.dT _) => True
  | some (.set _ _) => True
  | some (.ins _ _ _) => True
  | some (.ext _) => True
  | _ => False
section
variable {P : Program} {w : World} {H : Hp} {h h' : Heap} {x e : Addr} {o' : HO}
/-- the object at e is changed: x itself, or the dict of the instance x -/
theorem HOk.write (ok : HOk P w H h) (mu : Mut (H x)) (he : e = x ∨ H e = some (.own x)) (k : ∀ b u, b ≠ e → h.get? b = some u → h'.get? b = some u) (heo : ∃ u, h'.get? e = some u)
    (new : ObjOk P w (upd H x o') h' x o') : HOk P w (upd H x o') h' := fun b u q => by
  have nown : ∀ c y, H c = some (.own y) → c ≠ x := fun c y r z => by subst z; rw [r] at mu; exact mu
  have ntup : ∀ c xs, H c = some (.tup xs) → c ≠ x := fun c xs r z => by subst z; rw [r] at mu; exact mu
  by_cases hb : b = x
  · subst hb; rw [upd_same] at q; cases q; exact new
  · rw [upd_ne hb] at q
    by_cases hbe : b = e
    · have q' : H b = some (.own x) := by
        rcases he with z | z
        · exact absurd (hbe.trans z) hb
        · rw [hbe]; exact z
      rw [q] at q'; cases q'
      obtain ⟨v, hv⟩ := heo
      exact ⟨v, by rw [hbe]; exact hv⟩
    · refine (ok b u q).stay (fun c v hc r => k c v ?_ r) (fun c r => by rw [upd_ne (nown c b r)]; exact r) fun c xs r => by rw [upd_ne (ntup c xs r)]; exact r
      rcases hc with rfl | hc
      · exact hbe
      · rintro rfl
        rcases he with z | z
        · exact nown c b hc z
        · rw [hc] at z; cases z; exact hb rfl
end

/-! ### kept unless tracked; of the frames at fs (the callers') the slots may change (an exception that passes writes there); of the records at ex (iterators) nothing is said -/
structure Un (fs ex : List Addr) (H H' : Hp) (h h' : Heap) : Prop where
  keep : ∀ b o, h.get? b = some o → H b = none → b ∉ fs → b ∉ ex → h'.get? b = some o
  slot : ∀ b o, h.get? b = some o → H b = none → b ∈ fs → b ∉ ex → ∃ sl, h'.get? b = some { o with slots := sl }
  free : ∀ b o, h.get? b = some o → H b = none → b ∉ ex → H' b = none
  there : ∀ b o, h.get? b = some o → b ∉ ex → ∃ o', h'.get? b = some o'
  tups : ∀ b xs, H b = some (.tup xs) → H' b = some (.tup xs)
  frzs : ∀ b o u, H b = some (.frz o u) → H' b = some (.frz o u)
  tbls : ∀ b ps, H b = some (.tbl ps) → ∃ more, H' b = some (.tbl (ps ++ more))
section
variable {fs fs' ex ex' : List Addr} {H H1 H2 : Hp} {h h1 h2 h' : Heap} {a x e : Addr} {o : HO}
theorem Un.any (u : Un fs ex H H1 h h1) {b : Addr} {ob : Obj} (q : h.get? b = some ob) (n : H b = none) (hx : b ∉ ex) : ∃ sl, h1.get? b = some { ob with slots := sl } := by
  by_cases hb : b ∈ fs
  · exact u.slot b ob q n hb hx
  · exact ⟨ob.slots, u.keep b ob q n hb hx⟩
theorem Un.trans (a : Un fs ex H H1 h h1) (b : Un fs ex H1 H2 h1 h2) : Un fs ex H H2 h h2 where
  keep := fun c ob q n hc hx => b.keep c ob (a.keep c ob q n hc hx) (a.free c ob q n hx) hc hx
  slot := fun c ob q n hc hx => by
    obtain ⟨sl, e1⟩ := a.slot c ob q n hc hx
    obtain ⟨sl', e2⟩ := b.slot c _ e1 (a.free c ob q n hx) hc hx
    exact ⟨sl', e2⟩
  free := fun c ob q n hx => by
    obtain ⟨o', e1⟩ := a.there c ob q hx
    exact b.free c o' e1 (a.free c ob q n hx) hx
  there := fun c ob q hx => by
    obtain ⟨o', e1⟩ := a.there c ob q hx
    exact b.there c o' e1 hx
  tups := fun c xs q => b.tups c xs (a.tups c xs q)
  frzs := fun c ob xs q => b.frzs c ob xs (a.frzs c ob xs q)
  tbls := fun c ps q => by
    obtain ⟨m1, e1⟩ := a.tbls c ps q
    obtain ⟨m2, e2⟩ := b.tbls c _ e1
    exact ⟨m1 ++ m2, by rw [e2, Array.append_assoc]⟩
theorem Un.kept (k : ∀ b u, h.get? b = some u → h'.get? b = some u) : Un fs ex H H h h' :=
  ⟨fun b ob q _ _ _ => k b ob q, fun b ob q _ _ _ => ⟨ob.slots, k b ob q⟩, fun _ _ _ n _ => n, fun b ob q _ => ⟨ob, k b ob q⟩, fun _ _ q => q, fun _ _ _ q => q, fun _ ps q => ⟨#[], by rw [q]; simp⟩⟩
theorem Un.refl : Un fs ex H H h h := Un.kept fun _ _ q => q
theorem Un.laid (k : ∀ b u, h.get? b = some u → h'.get? b = some u) (hp : h.objs.size ≤ a) (hn : H a = none) : Un fs ex H (upd H a o) h h' where
  keep := fun b u q _ _ _ => k b u q
  slot := fun b u q _ _ _ => ⟨u.slots, k b u q⟩
  free := fun b u q n _ => by rw [upd_ne (Nat.ne_of_lt (Nat.lt_of_lt_of_le (Heap.lt_size q) hp))]; exact n
  there := fun b u q _ => ⟨u, k b u q⟩
  tups := fun b xs q => by rw [upd_ne (ne_of_none q hn)]; exact q
  frzs := fun b u xs q => by rw [upd_ne (ne_of_none q hn)]; exact q
  tbls := fun b ps q => ⟨#[], by rw [upd_ne (ne_of_none q hn), q]; simp⟩
theorem Un.write (mu : Mut (H x)) (he : e = x ∨ H e = some (.own x)) (k : ∀ b u, b ≠ e → h.get? b = some u → h'.get? b = some u) (heo : ∃ u, h'.get? e = some u) : Un fs ex H (upd H x o) h h' := by
  have hx : ∀ b, H b = none → b ≠ x := fun b n z => by subst z; rw [n] at mu; exact mu
  have hb : ∀ b, H b = none → b ≠ e := fun b n z => by
    subst z
    rcases he with r | r
    · exact hx b n r
    · rw [n] at r; cases r
  have hm : ∀ b u, H b = some u → ¬ Mut (some u) → b ≠ x := fun b u q nm z => by subst z; rw [q] at mu; exact nm mu
  refine ⟨fun b u q n _ _ => k b u (hb b n) q, fun b u q n _ _ => ⟨u.slots, k b u (hb b n) q⟩, fun b u q n _ => by rw [upd_ne (hx b n)]; exact n, fun b u q _ => ?_,
    fun b xs q => by rw [upd_ne (hm b _ q fun z => z)]; exact q, fun b u xs q => by rw [upd_ne (hm b _ q fun z => z)]; exact q, fun b ps q => ⟨#[], by rw [upd_ne (hm b _ q fun z => z), q]; simp⟩⟩
  by_cases hbe : b = e
  · subst hbe; exact heo
  · exact ⟨u, k b u hbe q⟩
theorem Un.mono (u : Un fs ex H H1 h h1) (hs : ∀ b ∈ fs, b ∈ fs') (hx : ∀ b ∈ ex, b ∈ ex') : Un fs' ex' H H1 h h1 :=
  ⟨fun b ob q n hb he => u.keep b ob q n (fun z => hb (hs b z)) fun z => he (hx b z), fun _ _ q n _ he => u.any q n fun z => he (hx _ z), fun b ob q n he => u.free b ob q n fun z => he (hx b z), fun b ob q he => u.there b ob q fun z => he (hx b z), u.tups, u.frzs, u.tbls⟩
end

/-! ### the heap without what is tracked -/
def trk (h : Heap) (H : Hp) : List Addr := (List.range h.objs.size).filter fun a => (H a).isSome
def hidT (h : Heap) (H : Hp) : Heap := PySem.W.hideAll h (trk h H)
theorem hidT_size (h : Heap) (H : Hp) : (hidT h H).objs.size = h.objs.size := PySem.W.hideAll_size _ _
theorem hidT_get {h : Heap} {H : Hp} {b : Addr} {o : Obj} (e : h.get? b = some o) (n : H b = none) : (hidT h H).get? b = some o :=
  PySem.W.hideAll_get _ e fun hm => by
    have q : (H b).isSome = true := (List.mem_filter.mp hm).2
    rw [n] at q; simp at q
theorem of_hidT {h : Heap} {H : Hp} {b : Addr} {o : Obj} (e : (hidT h H).get? b = some o) : h.get? b = some o ∧ H b = none := by
  have e' : h.get? b = some o := PySem.W.of_hideAll (trk h H) e
  refine ⟨e', ?_⟩
  cases q : H b with
  | none => rfl
  | some x =>
    have hm : b ∈ trk h H := List.mem_filter.mpr ⟨List.mem_range.mpr (Heap.lt_size e'), by simp [q]⟩
    have z : (hidT h H).get? b = none := PySem.W.hideAll_none (trk h H) hm
    rw [z] at e; cases e

/-! ### OpenK's ledger, filled with every new object but one -/
def allNews (g h : Heap) (L : Addr) : List (Addr × Obj) := (List.range h.objs.size).filterMap fun a => if a = L ∨ (g.get? a).isSome = true then none else (h.get? a).map fun o => (a, o)
def rest (g h : Heap) (L d : Addr) : List (Addr × Obj) := (allNews g h L).filter fun p => decide (p.1 ≠ d)
end L2

namespace L2
open PySem PySem.Spec PyProof.Rows

/-- the module's facts, over the base: the heap at the law's entry without what is tracked there -/
structure Mod (K : PySem.W.Frag) (mg : Str → Option Value) (base : Heap) : Prop where
  kin : K.In base
  glob : base.Ns mainGlobals mg
  blt : ∃ mb, base.Ns builtinsNs mb ∧ ∀ x : Str, x ≠ "__name__" → mb x = bootBuiltins x
  nolimit : base.NoLimit

/-- the context: a def's body (or a comprehension's block) running. base: fixed through the whole law; s₀, H₀: the entry; outer: the frames whose slots others may change (a def's callers); stack: all frames that run;
   ex: iterators that were made ahead of the entry and are walked here (a comprehension's); fn: the names whose cells were made at the entry (a def: all; a comprehension's block: its own); calm: not within an except suite; pn: pins that every state bears; xe: what is wanted of an exception that leaves the code -/
structure Cx where
  prog : Program
  w : World
  K : PySem.W.Frag
  mg : Str → Option Value
  base : Heap
  A : Around
  N : List Str
  s₀ : Shared
  H₀ : Hp
  env : Env
  outer : List Env
  stack : List Env
  ex : List Addr
  fn : Str → Bool
  calm : Bool
  pn : List (Addr × Obj)
  xe : Value → Shared → Prop
/-- the callers' frames -/
def frs (l : List Env) : List Addr := l.filterMap (·.frame)
abbrev Cx.fs (X : Cx) : List Addr := frs X.outer

def Vis (sc : Scope) (x : Str) : Prop := sc.names.lookup x = some .local ∨ sc.names.lookup x = some .cell ∨ sc.names.lookup x = some .free
def Loc (sc : Scope) (x : Str) : Prop := sc.names.lookup x = some .local ∨ sc.names.lookup x = some .cell
def Look (env : Env) (h : Heap) (m : Str → Option Value) (x : Str) (u : Value) : Prop :=
  (env.kindOf x = some .local ∧ m x = some u) ∨ ((env.kindOf x = some .cell ∨ env.kindOf x = some .free) ∧ ∃ c, env.cells.lookup x = some c ∧ h.IsCell c (some u))

structure Cx.Ok (X : Cx) : Prop where
  mod : Mod X.K X.mg X.base
  kind : X.env.scope.kind = .function
  glob : X.env.globals = mainGlobals
  blt : X.env.builtins = builtinsNs
  above : X.s₀.heap.objs.size ≤ X.env.locals
  inj : ∀ x y c, X.env.cells.lookup x = some c → X.env.cells.lookup y = some c → x = y
  has : ∀ x, (X.env.kindOf x = some .cell ∨ X.env.kindOf x = some .free) → ∃ c, X.env.cells.lookup x = some c
  cab : ∀ x c, X.fn x = true → X.env.cells.lookup x = some c → X.s₀.heap.objs.size ≤ c
  hd : X.calm = true → X.A.handled = none
  frames : X.A.frames = some X.stack
  stk : X.stack = X.outer ∨ (X.stack = X.env :: X.outer ∧ X.env.frame = some X.env.locals)
  exf : ∀ b ∈ X.ex, b ≠ X.env.locals ∧ ∀ x c, X.env.cells.lookup x = some c → c ≠ b
  bs : ∀ b o, X.base.get? b = some o → X.s₀.heap.get? b = some o ∧ X.H₀ b = none
  bsz : X.base.objs.size ≤ X.s₀.heap.objs.size
  noex : ∀ b o, X.base.get? b = some o → b ∉ X.ex
  exfs : ∀ b ∈ X.ex, b ∉ X.fs
  funs : X.s₀.heap.FunFrames X.base X.outer
  frf : ∀ b ∈ X.fs, X.H₀ b = none

structure Inv (X : Cx) (pins : List (Addr × Obj)) (σ : List (Option V)) (H : Hp) (s : Shared) : Prop where
  ok : X.Ok
  os : s.os = X.s₀.os
  bare : AllBare s.gens
  base : Un X.fs X.ex X.H₀ H X.s₀.heap s.heap
  loc : ∃ m, s.heap.Ns X.env.locals m ∧ ∀ (i : Nat) (x : Str) (v : V), X.N[i]? = some x → σ[i]? = some (some v) → Vis X.env.scope x → ∃ u, RelV v u ∧ Look X.env s.heap m x u
  cell : ∀ x c, X.env.cells.lookup x = some c → ∃ v, s.heap.IsCell c v
  free : H X.env.locals = none
  freeC : ∀ x c, X.env.cells.lookup x = some c → H c = none
  pin : ∀ p ∈ X.pn ++ pins, s.heap.get? p.1 = some p.2 ∧ H p.1 = none ∧ p.1 ≠ X.env.locals ∧ p.1 ∉ X.fs ∧ ∀ v, p.2.data ≠ .cell v
  hok : HOk X.prog X.w H s.heap
  len : σ.length = X.N.length

section
variable {X : Cx} {pins : List (Addr × Obj)} {σ : List (Option V)} {H H' : Hp} {s : Shared} {h' : Heap}

theorem Cx.Ok.nofr (ok : X.Ok) {b : Addr} {o : Obj} (e : X.base.get? b = some o) : b ∉ X.fs := fun hb => by
  have := (ok.funs.mem hb).1
  rw [e] at this; cases this
theorem Inv.bs (I : Inv X pins σ H s) : ∀ b o, X.base.get? b = some o → s.heap.get? b = some o ∧ H b = none := fun b o e =>
  ⟨I.base.keep b o (I.ok.bs b o e).1 (I.ok.bs b o e).2 (I.ok.nofr e) (I.ok.noex b o e), I.base.free b o (I.ok.bs b o e).1 (I.ok.bs b o e).2 (I.ok.noex b o e)⟩
theorem Inv.bk (I : Inv X pins σ H s) : ∀ b o, X.base.get? b = some o → s.heap.get? b = some o := fun b o e => (I.bs b o e).1
theorem Inv.mod (I : Inv X pins σ H s) : Mod X.K X.mg X.base := I.ok.mod
theorem Inv.kIn (I : Inv X pins σ H s) : X.K.In s.heap := I.ok.mod.kin.keeps I.bk
theorem Inv.nolimit (I : Inv X pins σ H s) : s.heap.NoLimit := I.ok.mod.nolimit.keeps I.bk
/-- the frame over the base: for OpenK's rules (K.In X.base is I.mod.kin) -/
theorem Inv.fr (I : Inv X pins σ H s) : ∃ m, Fr X.base X.env.locals s.heap m :=
  let ⟨m, hn, _⟩ := I.loc
  ⟨m, hn, I.bk, Nat.le_trans I.ok.bsz I.ok.above⟩
theorem Inv.lt (I : Inv X pins σ H s) : X.env.locals < s.heap.objs.size := let ⟨_, hn, _⟩ := I.loc; hn.lt
theorem Inv.sz (I : Inv X pins σ H s) : X.s₀.heap.objs.size ≤ s.heap.objs.size := Nat.le_trans I.ok.above (Nat.le_of_lt I.lt)
theorem Inv.nofs (I : Inv X pins σ H s) {a : Addr} (h : s.heap.objs.size ≤ a) : a ∉ X.fs := fun hb => by
  obtain ⟨_, o, ho, _⟩ := I.ok.funs.mem hb
  exact absurd (Nat.lt_of_lt_of_le (Heap.lt_size ho) (Nat.le_trans I.sz h)) (Nat.lt_irrefl _)
theorem Inv.cne (I : Inv X pins σ H s) : ∀ x c, X.env.cells.lookup x = some c → c ≠ X.env.locals := fun x c e z => by
  obtain ⟨v, o, ho, hd⟩ := I.cell x c e
  obtain ⟨m, ⟨o', es, ep, ho', hd', _⟩, _⟩ := I.loc
  rw [z, ho'] at ho; cases ho; rw [hd'] at hd; cases hd
theorem Inv.funs (I : Inv X pins σ H s) : s.heap.FunFrames X.base X.outer := by
  have all : ∀ (l : List Env), (∀ b ∈ frs l, b ∈ X.fs) → X.s₀.heap.FunFrames X.base l → s.heap.FunFrames X.base l := by
    intro l
    induction l with
    | nil => intro _ _; trivial
    | cons env r ih =>
      intro hs hl
      obtain ⟨hk, ⟨L, o, hf, hn, ho, hd⟩, hr⟩ := hl
      have hL : L ∈ X.fs := hs L (by unfold frs; rw [List.filterMap_cons, hf]; exact List.mem_cons_self)
      obtain ⟨sl, e⟩ := I.base.slot L o ho (I.ok.frf L hL) hL fun z => I.ok.exfs L z hL
      exact ⟨hk, ⟨L, _, hf, hn, e, hd⟩, ih (fun b hb => hs b (by unfold frs; rw [List.filterMap_cons, hf]; exact List.mem_cons_of_mem _ hb)) hr⟩
  exact all X.outer (fun _ hb => hb) I.ok.funs

/-- the frames that run, for a call -/
theorem Inv.stack (I : Inv X pins σ H s) : s.heap.FunFrames X.base X.stack := by
  rcases I.ok.stk with e | ⟨e, hf⟩
  · rw [e]; exact I.funs
  · rw [e]
    obtain ⟨m, hn, _⟩ := I.loc
    refine .cons (by rw [I.ok.kind]; decide) hf hn ?_ I.funs
    exact Heap.get?_none_of_le (Nat.le_trans I.ok.bsz I.ok.above)
theorem Inv.stkSub (I : Inv X pins σ H s) : ∀ b ∈ frs X.stack, b ∈ X.env.locals :: X.fs := fun b hb => by
  rcases I.ok.stk with e | ⟨e, hf⟩
  · rw [e] at hb; exact List.mem_cons_of_mem _ hb
  · rw [e] at hb
    unfold frs at hb
    rw [List.filterMap_cons, hf] at hb
    exact hb
theorem Inv.stkFree (I : Inv X pins σ H s) : ∀ b ∈ frs X.stack, H b = none := fun b hb => by
  rcases List.mem_cons.mp (I.stkSub b hb) with e | hb
  · rw [e]; exact I.free
  · obtain ⟨_, o, ho, _⟩ := I.ok.funs.mem hb
    exact I.base.free b o ho (I.ok.frf b hb) fun z => I.ok.exfs b z hb

/-- THE STEP: the untracked objects but the frame and the records at ch are kept (the callers' frames up to slots), the frame's map is kept, the new abstract heap is held -/
theorem Inv.step {g' : Array GenState} {t' : Nat} {d' : Drawn} {ch : List Addr} (I : Inv X pins σ H s)
    (hch : ∀ b ∈ ch, (b ∈ X.ex ∨ X.s₀.heap.objs.size ≤ b) ∧ b ≠ X.env.locals ∧ (∀ x c, X.env.cells.lookup x = some c → c ≠ b) ∧ ∀ p ∈ X.pn ++ pins, p.1 ≠ b)
    (keep : ∀ b o, b ≠ X.env.locals → b ∉ X.fs → b ∉ ch → s.heap.get? b = some o → H b = none → h'.get? b = some o)
    (slot : ∀ b o, b ≠ X.env.locals → b ∈ X.fs → b ∉ ch → s.heap.get? b = some o → H b = none → ∃ sl, h'.get? b = some { o with slots := sl }) (free : ∀ b o, b ∉ ch → s.heap.get? b = some o → H b = none → H' b = none)
    (there : ∀ b o, b ∉ ch → s.heap.get? b = some o → ∃ o', h'.get? b = some o')
    (tups : ∀ b xs, H b = some (.tup xs) → H' b = some (.tup xs)) (frzs : ∀ b o u, H b = some (.frz o u) → H' b = some (.frz o u)) (tbls : ∀ b ps, H b = some (.tbl ps) → ∃ more, H' b = some (.tbl (ps ++ more)))
    (ns : ∀ m, s.heap.Ns X.env.locals m → h'.Ns X.env.locals m) (hok : HOk X.prog X.w H' h') (hg : AllBare g') :
    Inv X pins σ H' { s with heap := h', gens := g', drawn := d', toks := t' } := by
  have neL : ∀ b o, X.s₀.heap.get? b = some o → b ≠ X.env.locals := fun b o e => Nat.ne_of_lt (Nat.lt_of_lt_of_le (Heap.lt_size e) I.ok.above)
  have neC : ∀ b o, X.s₀.heap.get? b = some o → b ∉ X.ex → b ∉ ch := fun b o e hx hb => by
    rcases (hch b hb).1 with z | z
    · exact hx z
    · exact absurd (Nat.lt_of_lt_of_le (Heap.lt_size e) z) (Nat.lt_irrefl _)
  have cellK : ∀ x c, X.env.cells.lookup x = some c → ∀ v, s.heap.IsCell c v → h'.IsCell c v := fun x c e v ⟨o, ho, hd⟩ => by
    have nch : c ∉ ch := fun z => (hch c z).2.2.1 x c e rfl
    by_cases hc : c ∈ X.fs
    · obtain ⟨sl, q⟩ := slot c o (I.cne x c e) hc nch ho (I.freeC x c e)
      exact ⟨_, q, hd⟩
    · exact ⟨o, keep c o (I.cne x c e) hc nch ho (I.freeC x c e), hd⟩
  refine ⟨I.ok, I.os, hg, ⟨fun b o e n hb hx => ?_, fun b o e n hb hx => ?_, fun b o e n hx => ?_, fun b o e hx => ?_, fun b xs e => tups b xs (I.base.tups b xs e), fun b o xs e => frzs b o xs (I.base.frzs b o xs e), fun b ps e => ?_⟩, ?_, fun x c e => ?_, ?_, fun x c e => ?_, fun p hp => ?_, hok, I.len⟩
  · exact keep b o (neL b o e) hb (neC b o e hx) (I.base.keep b o e n hb hx) (I.base.free b o e n hx)
  · obtain ⟨sl, e1⟩ := I.base.slot b o e n hb hx
    obtain ⟨sl', e2⟩ := slot b _ (neL b o e) hb (neC b o e hx) e1 (I.base.free b o e n hx)
    exact ⟨sl', e2⟩
  · obtain ⟨o', e1⟩ := I.base.there b o e hx
    exact free b o' (neC b o e hx) e1 (I.base.free b o e n hx)
  · obtain ⟨o', e1⟩ := I.base.there b o e hx
    exact there b o' (neC b o e hx) e1
  · obtain ⟨m1, e1⟩ := I.base.tbls b ps e
    obtain ⟨m2, e2⟩ := tbls b _ e1
    exact ⟨m1 ++ m2, by rw [e2, Array.append_assoc]⟩
  · obtain ⟨m, hn, hl⟩ := I.loc
    refine ⟨m, ns m hn, fun i x v e1 e2 e3 => ?_⟩
    obtain ⟨u, r, l⟩ := hl i x v e1 e2 e3
    refine ⟨u, r, ?_⟩
    rcases l with l | ⟨k, c, e, z⟩
    · exact .inl l
    · exact .inr ⟨k, c, e, cellK x c e _ z⟩
  · obtain ⟨v, z⟩ := I.cell x c e
    exact ⟨v, cellK x c e v z⟩
  · obtain ⟨m, ⟨o, _, _, ho, _⟩, _⟩ := I.loc
    exact free _ o (fun z => (hch _ z).2.1 rfl) ho I.free
  · obtain ⟨v, o, ho, hd⟩ := I.cell x c e
    exact free c o (fun z => (hch c z).2.2.1 x c e rfl) ho (I.freeC x c e)
  · obtain ⟨e, n, ne, nf, d⟩ := I.pin p hp
    have nch : p.1 ∉ ch := fun z => (hch p.1 z).2.2.2 p hp rfl
    exact ⟨keep p.1 p.2 ne nf nch e n, free p.1 p.2 nch e n, ne, nf, d⟩
/-- .. where the frame's own object is kept too -/
theorem Inv.un {t' : Nat} (I : Inv X pins σ H s) (u : Un X.fs [] H H' s.heap h') (hok : HOk X.prog X.w H' h') : Inv X pins σ H' { s with heap := h', toks := t' } := by
  obtain ⟨m, ⟨o, es, ep, ho, r⟩, _⟩ := id I.loc
  obtain ⟨sl, hL⟩ := u.any ho I.free (by simp)
  exact I.step (g' := s.gens) (d' := s.drawn) (ch := []) (fun _ z => nomatch z) (fun b o _ hb _ e n => u.keep b o e n hb (by simp)) (fun b o _ hb _ e n => u.slot b o e n hb (by simp)) (fun b o _ e n => u.free b o e n (by simp)) (fun b o _ e => u.there b o e (by simp)) u.tups u.frzs u.tbls (fun m' hm => by
    obtain ⟨o', es', ep', ho', r'⟩ := hm
    rw [ho] at ho'; cases ho'
    exact ⟨_, es', ep', hL, r'⟩) hok I.bare
/-- behind a call (or a comprehension's block): the slots of this frame may have changed too, the records at ch may have turned -/
theorem Inv.call {g' : Array GenState} {t' : Nat} {d' : Drawn} {ch : List Addr} (I : Inv X pins σ H s) (u : Un (frs X.stack) ch H H' s.heap h') (hok : HOk X.prog X.w H' h') (hg : AllBare g')
    (hch : ∀ b ∈ ch, (b ∈ X.ex ∨ X.s₀.heap.objs.size ≤ b) ∧ b ≠ X.env.locals ∧ (∀ x c, X.env.cells.lookup x = some c → c ≠ b) ∧ ∀ p ∈ X.pn ++ pins, p.1 ≠ b) :
    Inv X pins σ H' { s with heap := h', gens := g', drawn := d', toks := t' } := by
  obtain ⟨m, ⟨o, es, ep, ho, r⟩, _⟩ := id I.loc
  obtain ⟨sl, hL⟩ := u.any ho I.free fun z => (hch _ z).2.1 rfl
  exact I.step (ch := ch) hch (fun b o hL hb hc e n => u.keep b o e n (fun z => (List.mem_cons.mp (I.stkSub b z)).elim hL hb) hc) (fun b o _ _ hc e n => u.any e n hc) (fun b o hc e n => u.free b o e n hc) (fun b o hc e => u.there b o e hc) u.tups u.frzs u.tbls (fun m' hm => by
    obtain ⟨o', es', ep', ho', r'⟩ := hm
    rw [ho] at ho'; cases ho'
    exact ⟨_, es', ep', hL, r'⟩) hok hg
/-- an untracked record of ours (an iterator) has turned -/
theorem Inv.turned {t' : Nat} {it : Addr} (I : Inv X pins σ H s) (k : ∀ b o, b ≠ it → s.heap.get? b = some o → h'.get? b = some o) (hn : H it = none) (hL : it ≠ X.env.locals)
    (h1 : it ∈ X.ex ∨ X.s₀.heap.objs.size ≤ it) (h2 : ∀ x c, X.env.cells.lookup x = some c → c ≠ it) (h3 : ∀ p ∈ X.pn ++ pins, p.1 ≠ it) : Inv X pins σ H { s with heap := h', toks := t' } := by
  have nit : ∀ b u, H b = some u → b ≠ it := fun b u e z => by rw [z, hn] at e; cases e
  refine I.step (g' := s.gens) (d' := s.drawn) (ch := [it]) (fun b hb => ?_) (fun b o _ _ hc e _ => k b o (fun z => hc (by simp [z])) e) (fun b o _ _ hc e _ => ⟨o.slots, k b o (fun z => hc (by simp [z])) e⟩) (fun _ _ _ _ n => n)
    (fun b o hc e => ⟨o, k b o (fun z => hc (by simp [z])) e⟩) (fun _ _ e => e) (fun _ _ _ e => e) (fun b ps e => ⟨#[], by rw [e]; simp⟩) (fun m hm => ?_) (fun b u e => ?_) I.bare
  · have e : b = it := by simpa using hb
    subst e
    exact ⟨h1, hL, h2, h3⟩
  · obtain ⟨o, es, ep, ho, r⟩ := hm
    exact ⟨o, es, ep, k _ o (Ne.symm hL) ho, r⟩
  · refine (I.hok b u e).stay (fun c v hc q => k c v ?_ q) (fun _ q => q) fun _ _ q => q
    rcases hc with z | z
    · rw [z]; exact nit b u e
    · exact nit c _ z
theorem Inv.tok (I : Inv X pins σ H s) (t : Nat) : Inv X pins σ H { s with toks := t } := I.un (h' := s.heap) (t' := t) Un.refl I.hok
/-- all objects kept -/
theorem Inv.kept {t' : Nat} (I : Inv X pins σ H s) (k : ∀ b u, s.heap.get? b = some u → h'.get? b = some u) : Inv X pins σ H { s with heap := h', toks := t' } := I.un (Un.kept k) (I.hok.kept k)
/-- a new object laid and tracked -/
theorem Inv.laid {a : Addr} {o : HO} {t' : Nat} (I : Inv X pins σ H s) (k : ∀ b u, s.heap.get? b = some u → h'.get? b = some u) (hp : s.heap.objs.size ≤ a) (new : ObjOk X.prog X.w (upd H a o) h' a o) :
    Inv X pins σ (upd H a o) { s with heap := h', toks := t' } := I.un (Un.laid k hp (I.hok.fresh hp)) (I.hok.laid k hp new)
/-- an object written -/
theorem Inv.write {x e : Addr} {o : HO} {t' : Nat} (I : Inv X pins σ H s) (mu : Mut (H x)) (he : e = x ∨ H e = some (.own x)) (k : ∀ b u, b ≠ e → s.heap.get? b = some u → h'.get? b = some u) (heo : ∃ u, h'.get? e = some u)
    (new : ObjOk X.prog X.w (upd H x o) h' x o) : Inv X pins σ (upd H x o) { s with heap := h', toks := t' } := I.un (Un.write mu he k heo) (I.hok.write mu he k heo new)
theorem Inv.pins_of {pins' : List (Addr × Obj)} (I : Inv X pins σ H s) (h : ∀ p ∈ pins', s.heap.get? p.1 = some p.2 ∧ H p.1 = none ∧ p.1 ≠ X.env.locals ∧ p.1 ∉ X.fs ∧ ∀ v, p.2.data ≠ .cell v) : Inv X pins' σ H s :=
  ⟨I.ok, I.os, I.bare, I.base, I.loc, I.cell, I.free, I.freeC, fun p hp => (List.mem_append.mp hp).elim (fun z => I.pin p (List.mem_append_left _ z)) (h p), I.hok, I.len⟩

theorem nodup_ix {N : List Str} (hN : N.Nodup) {i j : Nat} {x : Str} (a : N[i]? = some x) (b : N[j]? = some x) : i = j := by
  obtain ⟨h1, e1⟩ := List.getElem?_eq_some_iff.mp a
  obtain ⟨h2, e2⟩ := List.getElem?_eq_some_iff.mp b
  exact (List.getElem_inj hN).mp (e1.trans e2.symm)

/-- a name is stored; what changed -/
theorem store_ok2 {M : Model} {A : Around} {E : Value → Shared → Prop} {i : Nat} {x : Str} {v : V} {u : Value} {Q : Unit → Shared → Prop} (I : Inv X pins σ H s) (hN : X.N.Nodup) (hi : X.N[i]? = some x) (hx : Loc X.env.scope x) (r : RelV v u)
    (h : ∀ s', Inv X pins (σ.set i (some v)) H s' → (∃ a, Heap.SameBut a s.heap s'.heap ∧ (a = X.env.locals ∨ X.env.cells.lookup x = some a)) → Q () s') (hf : X.fn x = true ∨ X.env.scope.names.lookup x = some .local := by first | exact .inl rfl | exact .inr rfl | assumption) : wpAny M A (storeName X.env x u) Q E s := by
  obtain ⟨m, hn, hl⟩ := id I.loc
  have hcls : (X.env.scope.kind == .class || (X.env.scope.kind == .module && X.env.locals != X.env.globals)) = false := by rw [I.ok.kind]; rfl
  have hiσ : i < σ.length := by rw [I.len]; exact (List.getElem?_eq_some_iff.mp hi).1
  have cne := I.cne
  have tracked : ∀ {a : Addr} {h' : Heap}, (∃ o, s.heap.get? a = some o ∧ H a = none) → Heap.SameBut a s.heap h' → HOk X.prog X.w H h' := fun {a h'} ha hs b ob e => by
    obtain ⟨_, _, hfree⟩ := ha
    refine (I.hok b ob e).stay (fun c w' hc q => (hs.2 c ?_).trans q) (fun _ q => q) fun _ _ q => q
    rintro rfl
    rcases hc with rfl | hc
    · rw [hfree] at e; cases e
    · rw [hfree] at hc; cases hc
  rcases hx with hk | hk
  · refine wpAny_storeName_local hk hn (fun h' hn' hs => ?_) hcls
    obtain ⟨oL, _, _, hoL, _⟩ := id hn
    refine h _ ⟨I.ok, I.os, I.bare, ⟨fun b o e n hb hx => ?_, fun b o e n hb hx => ?_, I.base.free, fun b o e hx => ?_, I.base.tups, I.base.frzs, I.base.tbls⟩, ⟨_, hn', fun j y v' e1 e2 e3 => ?_⟩, fun y c e => ?_, I.free, I.freeC, fun p hp => ?_, tracked ⟨oL, hoL, I.free⟩ hs, by simpa using I.len⟩ ⟨_, hs, .inl rfl⟩
    · exact (hs.2 b (Nat.ne_of_lt (Nat.lt_of_lt_of_le (Heap.lt_size e) I.ok.above))).trans (I.base.keep b o e n hb hx)
    · obtain ⟨sl, e1⟩ := I.base.slot b o e n hb hx
      exact ⟨sl, (hs.2 b (Nat.ne_of_lt (Nat.lt_of_lt_of_le (Heap.lt_size e) I.ok.above))).trans e1⟩
    · obtain ⟨o', e1⟩ := I.base.there b o e hx
      exact ⟨o', (hs.2 b (Nat.ne_of_lt (Nat.lt_of_lt_of_le (Heap.lt_size e) I.ok.above))).trans e1⟩
    · by_cases hj : j = i
      · subst hj
        rw [hi] at e1; cases e1
        rw [List.getElem?_set_self hiσ] at e2
        cases e2
        exact ⟨u, r, .inl ⟨hk, by simp⟩⟩
      · rw [List.getElem?_set_ne (Ne.symm hj)] at e2
        obtain ⟨u', r', q⟩ := hl j y v' e1 e2 e3
        refine ⟨u', r', ?_⟩
        rcases q with ⟨k, e⟩ | ⟨k, c, e, z⟩
        · refine .inl ⟨k, ?_⟩
          have : y ≠ x := fun e => hj (nodup_ix hN e1 (e ▸ hi))
          simp [this, e]
        · exact .inr ⟨k, c, e, z.sameBut hs (cne y c e)⟩
    · obtain ⟨w', z⟩ := I.cell y c e
      exact ⟨w', z.sameBut hs (cne y c e)⟩
    · obtain ⟨e, n, ne, nf, d⟩ := I.pin p hp
      exact ⟨(hs.2 p.1 ne).trans e, n, ne, nf, d⟩
  · have hfn : X.fn x = true := by
      rcases hf with z | z
      · exact z
      · rw [z] at hk; cases hk
    obtain ⟨c, hc⟩ := I.ok.has x (.inl hk)
    obtain ⟨w', z⟩ := I.cell x c hc
    refine wpAny_storeName_cell I.ok.kind hk hc z (fun h' hc' hs => ?_)
    obtain ⟨oc, hoc, hocd⟩ := id z
    refine h { s with heap := h' } ⟨I.ok, I.os, I.bare, ⟨fun b o e n hb hx => ?_, fun b o e n hb hx => ?_, I.base.free, fun b o e hx => ?_, I.base.tups, I.base.frzs, I.base.tbls⟩, ⟨m, hn.sameBut hs (Ne.symm (cne x c hc)), fun j y v' e1 e2 e3 => ?_⟩, fun y c' e => ?_, I.free, I.freeC, fun p hp => ?_, tracked ⟨oc, hoc, I.freeC x c hc⟩ hs, by simpa using I.len⟩ ⟨c, hs, .inr hc⟩
    · exact (hs.2 b (Nat.ne_of_lt (Nat.lt_of_lt_of_le (Heap.lt_size e) (I.ok.cab x c hfn hc)))).trans (I.base.keep b o e n hb hx)
    · obtain ⟨sl, e1⟩ := I.base.slot b o e n hb hx
      exact ⟨sl, (hs.2 b (Nat.ne_of_lt (Nat.lt_of_lt_of_le (Heap.lt_size e) (I.ok.cab x c hfn hc)))).trans e1⟩
    · obtain ⟨o', e1⟩ := I.base.there b o e hx
      exact ⟨o', (hs.2 b (Nat.ne_of_lt (Nat.lt_of_lt_of_le (Heap.lt_size e) (I.ok.cab x c hfn hc)))).trans e1⟩
    · by_cases hj : j = i
      · subst hj
        rw [hi] at e1; cases e1
        rw [List.getElem?_set_self hiσ] at e2
        cases e2
        exact ⟨u, r, .inr ⟨.inl hk, c, hc, hc'⟩⟩
      · rw [List.getElem?_set_ne (Ne.symm hj)] at e2
        obtain ⟨u', r', q⟩ := hl j y v' e1 e2 e3
        refine ⟨u', r', ?_⟩
        rcases q with q | ⟨k, c', e, z'⟩
        · exact .inl q
        · refine .inr ⟨k, c', e, z'.sameBut hs ?_⟩
          rintro rfl
          exact hj (nodup_ix hN e1 (I.ok.inj _ _ _ e hc ▸ hi))
    · by_cases hcc : c' = c
      · subst hcc; exact ⟨_, hc'⟩
      · obtain ⟨w2, z2⟩ := I.cell y c' e
        exact ⟨w2, z2.sameBut hs hcc⟩
    · obtain ⟨e, n, ne, nf, d⟩ := I.pin p hp
      refine ⟨(hs.2 p.1 ?_).trans e, n, ne, nf, d⟩
      intro q
      rw [q, hoc] at e
      have q' : oc = p.2 := Option.some.inj e
      exact d w' (by rw [← q']; exact hocd)
theorem store_ok {M : Model} {A : Around} {E : Value → Shared → Prop} {i : Nat} {x : Str} {v : V} {u : Value} {Q : Unit → Shared → Prop} (I : Inv X pins σ H s) (hN : X.N.Nodup) (hi : X.N[i]? = some x) (hx : Loc X.env.scope x) (r : RelV v u)
    (h : ∀ s', Inv X pins (σ.set i (some v)) H s' → Q () s') (hf : X.fn x = true ∨ X.env.scope.names.lookup x = some .local := by first | exact .inl rfl | exact .inr rfl | assumption) : wpAny M A (storeName X.env x u) Q E s :=
  store_ok2 I hN hi hx r (fun s' I' _ => h s' I') hf
/-- behind a call or a block, the state as it is -/
theorem Inv.call' {s' : Shared} {ch : List Addr} (I : Inv X pins σ H s) (ho : s'.os = s.os) (u : Un (frs X.stack) ch H H' s.heap s'.heap) (hok : HOk X.prog X.w H' s'.heap) (hg : AllBare s'.gens)
    (hch : ∀ b ∈ ch, (b ∈ X.ex ∨ X.s₀.heap.objs.size ≤ b) ∧ b ≠ X.env.locals ∧ (∀ x c, X.env.cells.lookup x = some c → c ≠ b) ∧ ∀ p ∈ X.pn ++ pins, p.1 ≠ b) : Inv X pins σ H' s' := by
  obtain ⟨h', g', d', t', o'⟩ := s'
  have e : o' = s.os := ho
  subst e
  exact I.call (g' := g') (t' := t') (d' := d') u hok hg hch
end

/-! ### the judgements -/
/-- an exception: its class, its own dict's address (where it has one), the abstract heap behind it -/
abbrev XK := Value → Option Addr → Hp → Prop
abbrev St := List (Option V)
abbrev VK := V → Hp → Prop
/-- an expression's reading; a test's; an argument list's -/
abbrev TE := St → Hp → VK → Prop
abbrev TT := St → Hp → (Bool → Hp → Prop) → Prop
abbrev TA := St → Hp → (List V → Hp → Prop) → Prop
/-- what is wanted behind a statement -/
structure Ends where
  nx : St → Hp → Prop
  rt : VK
  bk : St → Hp → Prop := fun _ _ => False
  ct : St → Hp → Prop := fun _ _ => False
abbrev TS := Ends → St → Hp → Prop

def EP (X : Cx) (pins : List (Addr × Obj)) (σ : St) (Q : VK) (u : Value) (s' : Shared) : Prop := ∃ v H', Inv X pins σ H' s' ∧ RelV v u ∧ Q v H'
def TP (X : Cx) (pins : List (Addr × Obj)) (σ : St) (Q : Bool → Hp → Prop) (b : Bool) (s' : Shared) : Prop := ∃ H', Inv X pins σ H' s' ∧ Q b H'
def AP (X : Cx) (pins : List (Addr × Obj)) (σ : St) (Q : List V → Hp → Prop) (us : List Value) (s' : Shared) : Prop := ∃ vs H', Inv X pins σ H' s' ∧ Vals vs us ∧ Q vs H'
def SP (X : Cx) (pins : List (Addr × Obj)) (D : Ends) (f : Flow) (s' : Shared) : Prop :=
  match f with
  | .next => ∃ σ' H', Inv X pins σ' H' s' ∧ D.nx σ' H'
  | .brk => ∃ σ' H', Inv X pins σ' H' s' ∧ D.bk σ' H'
  | .cont => ∃ σ' H', Inv X pins σ' H' s' ∧ D.ct σ' H'
  | .ret u => ∃ v σ' H', Inv X pins σ' H' s' ∧ RelV v u ∧ D.rt v H'

def PE (X : Cx) (e : Expr) (t : TE) : Prop :=
  ∀ (pins : List (Addr × Obj)) (s : Shared) (σ : St) (H : Hp) (Q : VK), Inv X pins σ H s → t σ H Q → wpAny (model X.prog X.w) X.A (eval e X.env) (EP X pins σ Q) X.xe s
def PT (X : Cx) (e : Expr) (t : TT) : Prop :=
  ∀ (pins : List (Addr × Obj)) (s : Shared) (σ : St) (H : Hp) (Q : Bool → Hp → Prop), Inv X pins σ H s → t σ H Q → wpAny (model X.prog X.w) X.A (isTrue e X.env (eval e X.env)) (TP X pins σ Q) X.xe s
/-- a test whatever its 'whole' is (and, or) -/
def PW (X : Cx) (e : Expr) (t : TT) : Prop :=
  ∀ (whole : Sem Value) (pins : List (Addr × Obj)) (s : Shared) (σ : St) (H : Hp) (Q : Bool → Hp → Prop), Inv X pins σ H s → t σ H Q → wpAny (model X.prog X.w) X.A (isTrue e X.env whole) (TP X pins σ Q) X.xe s
theorem PW.pt {X : Cx} {e : Expr} {t : TT} (h : PW X e t) : PT X e t := h _
/-- an argument list (no star), from the left -/
def PA (X : Cx) (es : List Expr) (t : TA) : Prop :=
  ∀ (pos : Pos) (pins : List (Addr × Obj)) (s : Shared) (σ : St) (H : Hp) (Q : List V → Hp → Prop), Inv X pins σ H s → t σ H Q → wpAny (model X.prog X.w) X.A (spliced (backTo pos (starEach es X.env))) (AP X pins σ Q) X.xe s
def PS (X : Cx) (st : Stmt) (t : TS) : Prop :=
  ∀ (pins : List (Addr × Obj)) (s : Shared) (σ : St) (H : Hp) (D : Ends), Inv X pins σ H s → t D σ H → wpAny (model X.prog X.w) X.A (exec st X.env) (SP X pins D) X.xe s
def PSs (X : Cx) (st : List Stmt) (t : TS) : Prop :=
  ∀ (pins : List (Addr × Obj)) (s : Shared) (σ : St) (H : Hp) (D : Ends), Inv X pins σ H s → t D σ H → wpAny (model X.prog X.w) X.A (execs st X.env) (SP X pins D) X.xe s
/-- weaken the end -/
theorem thn {α : Type} {t : Sem α} {Q Q' : α → Shared → Prop} {M : Model} {A : Around} {E : Value → Shared → Prop} {s : Shared} (h : wpAny M A t Q E s) (hQ : ∀ a s, Q a s → Q' a s) : wpAny M A t Q' E s := wpAny_mono h hQ fun _ _ x => x
end L2

namespace L2
open PySem PySem.Spec PyProof.Rows
section
variable {X : Cx}

/-! ### names and constants -/
def tVar (i : Nat) : TE := fun σ H Q => ∃ v, σ[i]? = some (some v) ∧ Q v H
def tC (v : V) : TE := fun _ H Q => Q v H
theorem pe_var {i : Nat} {x : Str} {pos : Pos} (hN : X.N[i]? = some x) (hv : Vis X.env.scope x) (hd : (x == ("__debug__" : Str)) = false := by decide) (hcd : (x == ("__classdict__" : Str)) = false := by decide) : PE X (.Name x pos) (tVar i) := by
  intro pins s σ H Q I h
  obtain ⟨v, e, h⟩ := h
  obtain ⟨m, hn, hl⟩ := I.loc
  obtain ⟨u, r, l⟩ := hl i x v hN e hv
  have fin : EP X pins σ Q u s := ⟨v, H, I, r, h⟩
  rcases l with ⟨hk, hm⟩ | ⟨hk, c, hc, hcell⟩
  · exact wpAny_Name (wpAny_loadName_local I.ok.kind hk hn hm fin) hd
  · rcases hk with hk | hk
    · exact wpAny_Name (wpAny_loadName_cell I.ok.kind hk hc hcell fin) hd
    · exact wpAny_Name (wpAny_loadName_free I.ok.kind hk hc hcell fin hcd) hd
theorem pe_int {i j pos} : PE X (.Constant (.int i) j pos) (tC (.int i)) := fun _ _ _ H _ I h => wpAny_Constant_int ⟨.int i, H, I.tok _, ⟨_, rfl⟩, h⟩
theorem pe_bl {b j pos} : PE X (.Constant (.bool b) j pos) (tC (.bl b)) := fun _ _ _ H _ I h => Constant_bool ⟨.bl b, H, I, rfl, h⟩
theorem pe_non {j pos} : PE X (.Constant .none j pos) (tC .non) := fun _ _ _ H _ I h => Constant_none ⟨.non, H, I, rfl, h⟩
theorem pe_str {x j pos} : PE X (.Constant (.str x) j pos) (tC (.str x)) := fun _ _ _ H _ I h => Calls.Constant_str ⟨.str x, H, I.tok _, ⟨_, rfl⟩, h⟩

/-- a global name of the def -/
def Gl (X : Cx) (x : Str) : Prop := X.env.kindOf x = some .globalImplicit
theorem ld_glob {E : Value → Shared → Prop} {pins : List (Addr × Obj)} {s : Shared} {σ : St} {H : Hp} {x : Str} {u : Value} {pos : Pos} {Q : Value → Shared → Prop} (I : Inv X pins σ H s) (hg : Gl X x) (hm : X.mg x = some u) (h : Q u s)
    (hd : (x == ("__debug__" : Str)) = false := by decide) : wpAny (model X.prog X.w) X.A (eval (.Name x pos) X.env) Q E s :=
  Calls.Name_function_global I.ok.kind hg (Calls.loadGlobal_global (by rw [I.ok.glob]; exact I.mod.glob.keeps I.bk) hm h) hd
theorem ld_blt {E : Value → Shared → Prop} {pins : List (Addr × Obj)} {s : Shared} {σ : St} {H : Hp} {x : Str} {u : Value} {pos : Pos} {Q : Value → Shared → Prop} (I : Inv X pins σ H s) (hg : Gl X x) (hm : X.mg x = none) (hv : bootBuiltins x = some u) (h : Q u s)
    (hn : x ≠ "__name__" := by decide) (hd : (x == ("__debug__" : Str)) = false := by decide) : wpAny (model X.prog X.w) X.A (eval (.Name x pos) X.env) Q E s := by
  obtain ⟨mb, h1, h2⟩ := I.mod.blt
  exact Calls.Name_function_global I.ok.kind hg (Calls.loadGlobal_builtin (by rw [I.ok.glob]; exact I.mod.glob.keeps I.bk) hm (by rw [I.ok.blt]; exact h1.keeps I.bk) ((h2 x hn).trans hv) h) hd
/-- a module's constant, a class, a function, as a value -/
theorem pe_glob {x : Str} {v : V} {u : Value} {pos : Pos} (hg : Gl X x) (hm : X.mg x = some u) (r : RelV v u) (hd : (x == ("__debug__" : Str)) = false := by decide) : PE X (.Name x pos) (tC v) :=
  fun _ _ _ H _ I h => ld_glob I hg hm ⟨v, H, I, r, h⟩ hd
theorem pe_bltn {x : Str} {v : V} {u : Value} {pos : Pos} (hg : Gl X x) (hm : X.mg x = none) (hv : bootBuiltins x = some u) (r : RelV v u) (hn : x ≠ "__name__" := by decide) (hd : (x == ("__debug__" : Str)) = false := by decide) : PE X (.Name x pos) (tC v) :=
  fun _ _ _ H _ I h => ld_blt I hg hm hv ⟨v, H, I, r, h⟩ hn hd

/-! ### arithmetic -/
/-- two ints -/
def t2I (ta tb : TE) (k : Int → Int → Hp → Prop) : St → Hp → Prop := fun σ H => ta σ H fun x H1 => tb σ H1 fun y H2 => ∃ i j, x = .int i ∧ y = .int j ∧ k i j H2
def tAdd (ta tb : TE) : TE := fun σ H Q => t2I ta tb (fun i j H2 => Q (.int (i + j)) H2) σ H
def tSub (ta tb : TE) : TE := fun σ H Q => t2I ta tb (fun i j H2 => Q (.int (i - j)) H2) σ H
/-- the left factor below 2^64 -/
def tMul (ta tb : TE) : TE := fun σ H Q => t2I ta tb (fun i j H2 => (-(2 ^ 64) < i ∧ i < 2 ^ 64) ∧ Q (.int (i * j)) H2) σ H
variable {a b : Expr} {ta tb : TE} {pos : Pos}
/-! ### comparisons -/
def PC (X : Cx) (op : CmpOp) (a b : Expr) (t : TE) : Prop :=
  ∀ (pins : List (Addr × Obj)) (s : Shared) (σ : St) (H : Hp) (Q : VK), Inv X pins σ H s → t σ H Q →
    wpAny (model X.prog X.w) X.A (eval a X.env) (fun v s₁ => wpAny (model X.prog X.w) X.A (eval b X.env) (fun u s₂ => wpAny (model X.prog X.w) X.A (compareOp op v u) (EP X pins σ Q) X.xe s₂) X.xe s₁) X.xe s
def tCmp (p : Int → Int → Bool) (ta tb : TE) : TE := fun σ H Q => t2I ta tb (fun i j H2 => Q (.bl (p i j)) H2) σ H
abbrev tLt : TE → TE → TE := tCmp fun i j => decide (i < j)
abbrev tLe : TE → TE → TE := tCmp fun i j => decide (i ≤ j)
abbrev tGt : TE → TE → TE := tCmp fun i j => decide (j < i)
abbrev tGe : TE → TE → TE := tCmp fun i j => decide (j ≤ i)
abbrev tEqI : TE → TE → TE := tCmp fun i j => decide (i = j)
abbrev tNeI : TE → TE → TE := tCmp fun i j => !decide (i = j)
/-- is None -/
def tIsN (ta : TE) : TE := fun σ H Q => ta σ H fun x H1 => Q (.bl (decide (x = .non))) H1
def tNotN (ta : TE) : TE := fun σ H Q => ta σ H fun x H1 => Q (.bl (!decide (x = .non))) H1
/-- a comparison as a value, as a test -/
def tB (t : TE) : TT := fun σ H Q => t σ H fun x H1 => ∃ c, x = .bl c ∧ Q c H1
/-- an expression whose value is a bool, as a test -/
theorem pt_val {e : Expr} {t : TE} (h : PE X e t) (he : ∀ whole, isTrue e X.env whole = (do let v ← whole; standAt e.pos; holding [v] (truthy v)) := by intro _; rfl) : PT X e (tB t) := by
  intro pins s σ H Q I hw
  refine isTrue_plain (thn (h pins s σ H _ I hw) fun v s1 ⟨x, H1, I1, r1, q1⟩ => ?_) (he _)
  obtain ⟨d, rfl, q⟩ := q1
  cases r1
  exact wpAny_truthy_bool ⟨H1, I1, q⟩

/-! ### and, or, not -/
variable {tA tB' : TT} {rest : List Expr}
def tAnd (t u : TT) : TT := fun σ H Q => t σ H fun c H1 => if c = true then u σ H1 Q else Q false H1
def tOr (t u : TT) : TT := fun σ H Q => t σ H fun c H1 => if c = true then Q true H1 else u σ H1 Q
def tNot (t : TT) : TT := fun σ H Q => t σ H fun c H1 => Q (!c) H1
theorem pw_and1 (ha : PT X a tA) : PW X (.BoolOp .And [a] pos) tA := by
  intro wh pins s σ H Q I h
  refine isTrue_and (thn (ha pins s σ H Q I h) fun c s1 e => ?_)
  cases c with
  | true => exact isTrue_and_nil e
  | false => exact e
theorem pw_or1 (ha : PT X a tA) : PW X (.BoolOp .Or [a] pos) tA := by
  intro wh pins s σ H Q I h
  refine isTrue_or (thn (ha pins s σ H Q I h) fun c s1 e => ?_)
  cases c with
  | false => exact isTrue_or_nil e
  | true => exact e
theorem pw_and (ha : PT X a tA) (hb : PW X (.BoolOp .And (b :: rest) pos) tB') : PW X (.BoolOp .And (a :: b :: rest) pos) (tAnd tA tB') := by
  intro wh pins s σ H Q I h
  refine isTrue_and (thn (ha pins s σ H _ I h) fun c s1 ⟨H1, I1, q1⟩ => ?_)
  cases c with
  | true => exact hb wh pins s1 σ H1 Q I1 q1
  | false => exact ⟨H1, I1, q1⟩
theorem pw_or (ha : PT X a tA) (hb : PW X (.BoolOp .Or (b :: rest) pos) tB') : PW X (.BoolOp .Or (a :: b :: rest) pos) (tOr tA tB') := by
  intro wh pins s σ H Q I h
  refine isTrue_or (thn (ha pins s σ H _ I h) fun c s1 ⟨H1, I1, q1⟩ => ?_)
  cases c with
  | true => exact ⟨H1, I1, q1⟩
  | false => exact hb wh pins s1 σ H1 Q I1 q1
theorem pt_not (ha : PT X a tA) : PT X (.UnaryOp .Not a pos) (tNot tA) := by
  intro pins s σ H Q I h
  exact isTrue_not (ha pins s σ H (fun c H1 => Q (!c) H1) I h)
/-- .. as values (bools) -/
def tAndV (ta tb : TE) : TE := fun σ H Q => ta σ H fun x H1 => ∃ c, x = .bl c ∧ if c = true then tb σ H1 Q else Q (.bl false) H1
def tOrV (ta tb : TE) : TE := fun σ H Q => ta σ H fun x H1 => ∃ c, x = .bl c ∧ if c = true then Q (.bl true) H1 else tb σ H1 Q
def tNotV (ta : TE) : TE := fun σ H Q => ta σ H fun x H1 => ∃ c, x = .bl c ∧ Q (.bl (!c)) H1
theorem pe_one {op} {t : TE} (h : PE X a t) : PE X (.BoolOp op [a] pos) t := fun pins s σ H Q I hw => BoolOp_one (h pins s σ H Q I hw)
theorem pe_and (ha : PE X a ta) (hb : PE X (.BoolOp .And (b :: rest) pos) tb) : PE X (.BoolOp .And (a :: b :: rest) pos) (tAndV ta tb) := by
  intro pins s σ H Q I h
  refine BoolOp_and (thn (ha pins s σ H _ I h) fun v s1 ⟨x, H1, I1, r1, q1⟩ => ?_)
  obtain ⟨c, rfl, q1⟩ := q1
  cases r1
  refine wpAny_truthy_bool ?_
  cases c with
  | true => exact hb pins s1 σ H1 Q I1 q1
  | false => exact ⟨.bl false, H1, I1, rfl, q1⟩
theorem pe_or (ha : PE X a ta) (hb : PE X (.BoolOp .Or (b :: rest) pos) tb) : PE X (.BoolOp .Or (a :: b :: rest) pos) (tOrV ta tb) := by
  intro pins s σ H Q I h
  refine BoolOp_or (thn (ha pins s σ H _ I h) fun v s1 ⟨x, H1, I1, r1, q1⟩ => ?_)
  obtain ⟨c, rfl, q1⟩ := q1
  cases r1
  refine wpAny_truthy_bool ?_
  cases c with
  | false => exact hb pins s1 σ H1 Q I1 q1
  | true => exact ⟨.bl true, H1, I1, rfl, q1⟩
theorem pe_not (ha : PE X a ta) : PE X (.UnaryOp .Not a pos) (tNotV ta) := by
  intro pins s σ H Q I h
  refine UnaryOp_ (thn (ha pins s σ H _ I h) fun v s1 ⟨x, H1, I1, r1, q1⟩ => ?_)
  obtain ⟨c, rfl, q1⟩ := q1
  cases r1
  exact not_of (wpAny_truthy_bool ⟨.bl (!c), H1, I1, rfl, q1⟩)
/-- a if t else b -/
def tIf (t : TT) (ta tb : TE) : TE := fun σ H Q => t σ H fun c H1 => if c = true then ta σ H1 Q else tb σ H1 Q
theorem pe_ifExp {c : Expr} (hc : PT X c tA) (ha : PE X a ta) (hb : PE X b tb) : PE X (.IfExp c a b pos) (tIf tA ta tb) := by
  intro pins s σ H Q I h
  refine wpAny_IfExp (thn (hc pins s σ H _ I h) fun d s1 ⟨H1, I1, q1⟩ => ?_)
  cases d with
  | true => exact ha pins s1 σ H1 Q I1 q1
  | false => exact hb pins s1 σ H1 Q I1 q1
end
end L2

namespace L2
open PySem PySem.Spec PyProof.Rows

/-! ### a list, a tuple that is read: tracked, frozen, or an object of the module -/
def SqL (K : PySem.W.Frag) (H : Hp) (a : Addr) (xs : List V) : Prop :=
  Rd H a (.lst xs) ∨
    ∃ (o : Obj) (its : Array Value) (n : Nat), K.lookup a = some o ∧ o.cls = .type "list" ∧ o.dict = none ∧ o.data = .seq its n ∧ its.size ≤ sizeLine ∧ Vals xs its.toList
def SqT (K : PySem.W.Frag) (H : Hp) (a : Addr) (xs : List V) : Prop :=
  Rd H a (.tup xs) ∨
    ∃ (o : Obj) (its : Array Value) (n : Nat), K.lookup a = some o ∧ o.cls = .type "tuple" ∧ o.data = .seq its n ∧ its.size ≤ sizeLine ∧ Vals xs its.toList
def absV : Value → Option V
  | .none => some .non
  | .bool b => some (.bl b)
  | .int i _ => some (.int i)
  | .str x _ => some (.str x)
  | .bytes b _ => some (.byt b)
  | .float b _ => some (.flt b)
  | .ref a => some (.ref a)
  | .type n => some (.ty n)
  | _ => none
theorem RelV.abs {x : V} {u : Value} (r : RelV x u) : absV u = some x := by
  cases x with
  | non => cases r; rfl
  | bl _ => cases r; rfl
  | int _ => obtain ⟨t, rfl⟩ := r; rfl
  | str _ => obtain ⟨t, rfl⟩ := r; rfl
  | byt _ => obtain ⟨t, rfl⟩ := r; rfl
  | flt _ => obtain ⟨t, rfl⟩ := r; rfl
  | ref _ => cases r; rfl
  | ty _ => cases r; rfl
theorem RelV.inj {x y : V} {u : Value} (r : RelV x u) (q : RelV y u) : x = y := Option.some.inj (r.abs.symm.trans q.abs)
theorem Vals.inj : ∀ {xs ys : List V} {us : List Value}, Vals xs us → Vals ys us → xs = ys
  | _, _, _, .nil, .nil => rfl
  | _, _, _, .cons r t, .cons r' t' => by rw [r.inj r', Vals.inj t t']
section
variable {X : Cx} {pins : List (Addr × Obj)} {σ : St} {H : Hp} {s : Shared} {a : Addr} {xs ys : List V}
theorem SqL.of {K : PySem.W.Frag} (h : H a = some (.lst xs)) : SqL K H a xs := .inl (.inl h)
theorem SqT.of {K : PySem.W.Frag} (h : H a = some (.tup xs)) : SqT K H a xs := .inl (.inl h)
theorem Inv.list (I : Inv X pins σ H s) (h : SqL X.K H a xs) : ∃ its : List Value, Vals xs its ∧ PlainL s.heap a its.toArray ∧ xs.length ≤ sizeLine := by
  rcases h with h | ⟨o, its, n, hk, hc, hd, hs, hz, r⟩
  · obtain ⟨z, its, n, r, e⟩ := h.ok I.hok
    exact ⟨its, r, ⟨_, n, e, rfl, rfl, rfl⟩, z⟩
  · refine ⟨its.toList, r, ⟨o, n, I.kIn a o hk, hc, hd, by simpa using hs⟩, ?_⟩
    have e := r.length
    simp only [Array.length_toList] at e
    omega
theorem Inv.tuple (I : Inv X pins σ H s) (h : SqT X.K H a xs) : ∃ its : List Value, Vals xs its ∧ IsTup s.heap a its.toArray ∧ xs.length ≤ sizeLine := by
  rcases h with h | ⟨o, its, n, hk, hc, hs, hz, r⟩
  · obtain ⟨z, its, r, p⟩ := h.ok I.hok
    exact ⟨its, r, p, z⟩
  · refine ⟨its.toList, r, ⟨o, I.kIn a o hk, hc, n, by simpa using hs⟩, ?_⟩
    have e := r.length
    simp only [Array.length_toList] at e
    omega
theorem Inv.list_inj (I : Inv X pins σ H s) (h : SqL X.K H a xs) (h' : SqL X.K H a ys) : xs = ys := by
  obtain ⟨its, r, ⟨o, n, e, _, _, d⟩, _⟩ := I.list h
  obtain ⟨its', r', ⟨o', n', e', _, _, d'⟩, _⟩ := I.list h'
  rw [e] at e'; cases e'
  rw [d] at d'
  injection d' with d1 _
  have : its = its' := by simpa using congrArg Array.toList d1
  subst this
  exact r.inj r'
end

/-! ### another wish about exceptions -/
abbrev Cx.wish (X : Cx) (E : Value → Shared → Prop) : Cx := { X with xe := E }
/-- no exception leaves -/
abbrev Cx.nox (X : Cx) : Cx := X.wish fun _ _ => False
theorem Cx.Ok.wish {X : Cx} (ok : X.Ok) (E : Value → Shared → Prop) : (X.wish E).Ok :=
  ⟨ok.mod, ok.kind, ok.glob, ok.blt, ok.above, ok.inj, ok.has, ok.cab, ok.hd, ok.frames, ok.stk, ok.exf, ok.bs, ok.bsz, ok.noex, ok.exfs, ok.funs, ok.frf⟩
theorem Cx.Ok.unwish {X : Cx} {E : Value → Shared → Prop} (ok : (X.wish E).Ok) : X.Ok :=
  ⟨ok.mod, ok.kind, ok.glob, ok.blt, ok.above, ok.inj, ok.has, ok.cab, ok.hd, ok.frames, ok.stk, ok.exf, ok.bs, ok.bsz, ok.noex, ok.exfs, ok.funs, ok.frf⟩
section
variable {X : Cx} {pins : List (Addr × Obj)} {σ : St} {H : Hp} {s : Shared} {E : Value → Shared → Prop}
theorem Inv.wish (I : Inv X pins σ H s) (E : Value → Shared → Prop) : Inv (X.wish E) pins σ H s := ⟨I.ok.wish E, I.os, I.bare, I.base, I.loc, I.cell, I.free, I.freeC, I.pin, I.hok, I.len⟩
theorem Inv.unwish (I : Inv (X.wish E) pins σ H s) : Inv X pins σ H s := ⟨I.ok.unwish, I.os, I.bare, I.base, I.loc, I.cell, I.free, I.freeC, I.pin, I.hok, I.len⟩
theorem SP.unwish {D : Ends} {f : Flow} {s' : Shared} (h : SP (X.wish E) pins D f s') : SP X pins D f s' := by
  cases f with
  | next => obtain ⟨σ', H', I, q⟩ := h; exact ⟨σ', H', I.unwish, q⟩
  | brk => obtain ⟨σ', H', I, q⟩ := h; exact ⟨σ', H', I.unwish, q⟩
  | cont => obtain ⟨σ', H', I, q⟩ := h; exact ⟨σ', H', I.unwish, q⟩
  | ret u => obtain ⟨v, σ', H', I, r, q⟩ := h; exact ⟨v, σ', H', I.unwish, r, q⟩
theorem PE.nox {e : Expr} {t : TE} (h : PE X.nox e t) : PE X e t := fun pins s σ H Q I hw =>
  wpAny_mono (h pins s σ H Q (I.wish _) hw) (fun _ _ ⟨v, H', I', r, q⟩ => ⟨v, H', I'.unwish, r, q⟩) fun _ _ z => False.elim z
theorem PT.nox {e : Expr} {t : TT} (h : PT X.nox e t) : PT X e t := fun pins s σ H Q I hw =>
  wpAny_mono (h pins s σ H Q (I.wish _) hw) (fun _ _ ⟨H', I', q⟩ => ⟨H', I'.unwish, q⟩) fun _ _ z => False.elim z
theorem PSs.nox {st : List Stmt} {t : TS} (h : PSs X.nox st t) : PSs X st t := fun pins s σ H D I hw =>
  wpAny_mono (h pins s σ H D (I.wish _) hw) (fun _ _ q => q.unwish) fun _ _ z => False.elim z
end

/-! ### blocks and small statements -/
section
variable {X : Cx} {st : Stmt} {rest : List Stmt} {t u : TS} {e : Expr} {te : TE} {pos : Pos}
def tNext : TS := fun D σ H => D.nx σ H
def tSeq (t u : TS) : TS := fun D σ H => t { D with nx := u D } σ H
theorem pss_nil : PSs X [] tNext := fun _ _ σ H _ I h => wpAny_execs_nil ⟨σ, H, I, h⟩
theorem pss_cons (h1 : PS X st t) (h2 : PSs X rest u) : PSs X (st :: rest) (tSeq t u) := by
  intro pins s σ H D I h
  refine wpAny_execs_cons (thn (h1 pins s σ H { D with nx := u D } I h) fun f s1 q => ?_)
  cases f with
  | next =>
    obtain ⟨σ', H', I', q⟩ := q
    exact h2 pins s1 σ' H' D I' q
  | ret v => exact q
  | brk => exact q
  | cont => exact q
theorem pss_one (h1 : PS X st t) : PSs X [st] t := by
  intro pins s σ H D I h
  refine wpAny_execs_cons (thn (h1 pins s σ H D I h) fun f s1 q => ?_)
  cases f with
  | next => exact wpAny_execs_nil q
  | ret v => exact q
  | brk => exact q
  | cont => exact q
def tBreak : TS := fun D σ H => D.bk σ H
def tCont : TS := fun D σ H => D.ct σ H
/-- in a def's body nothing is shown -/
theorem Inv.quiet {pins : List (Addr × Obj)} {σ : St} {H : Hp} {s : Shared} (I : Inv X pins σ H s) : interactive X.env = false := by simp [interactive, I.ok.kind]
/-- an expression whose value is dropped -/
def tDrop (te : TE) : TS := fun D σ H => te σ H fun _ H1 => D.nx σ H1
theorem ps_expr (he : PE X e te) (hs : swapsWith e none pos.line X.env = pure false := by rfl) : PS X (.Expr e pos) (tDrop te) := by
  intro pins s σ H D I h
  exact wpAny_Expr_any (thn (he pins s σ H _ I h) fun v s1 ⟨x, H1, I1, r1, q1⟩ => ⟨σ, H1, I1, q1⟩) I.quiet hs
def tRet (te : TE) : TS := fun D σ H => te σ H D.rt
theorem ps_ret (he : PE X e te) : PS X (.Return (some e) pos) (tRet te) := by
  intro pins s σ H D I h
  exact wpAny_Return_some (thn (he pins s σ H _ I h) fun v s1 ⟨x, H1, I1, r1, q1⟩ => ⟨x, σ, H1, I1, r1, q1⟩)
def tRetN : TS := fun D _ H => D.rt .non H
def tIfS (c : TT) (t u : TS) : TS := fun D σ H => c σ H fun b H1 => if b = true then t D σ H1 else u D σ H1
theorem ps_if {c : Expr} {a b : List Stmt} {tc : TT} (hc : PT X c tc) (ha : PSs X a t) (hb : PSs X b u) : PS X (.If c a b pos) (tIfS tc t u) := by
  intro pins s σ H D I h
  refine wpAny_If (thn (hc pins s σ H _ I h) fun d s1 ⟨H1, I1, q1⟩ => ?_)
  cases d with
  | true => exact ha pins s1 σ H1 D I1 q1
  | false => exact hb pins s1 σ H1 D I1 q1
/-- code that the proof never comes to -/
def tNever : TS := fun _ _ _ => False
end

/-! ### targets -/
abbrev TG := V → St → Hp → (St → Hp → Prop) → Prop
abbrev TGs := List V → St → Hp → (St → Hp → Prop) → Prop
def PG (X : Cx) (target : Expr) (t : TG) : Prop :=
  ∀ (pins : List (Addr × Obj)) (s : Shared) (σ : St) (H : Hp) (v : V) (u : Value) (Q : St → Hp → Prop), Inv X pins σ H s → RelV v u → t v σ H Q →
    wpAny (model X.prog X.w) X.A (assign target X.env u) (fun _ s' => ∃ σ' H', Inv X pins σ' H' s' ∧ Q σ' H') X.xe s
/-- several targets, one after another -/
def PGs (X : Cx) (ts : List Expr) (t : TGs) : Prop :=
  ∀ (pins : List (Addr × Obj)) (s : Shared) (σ : St) (H : Hp) (vs : List V) (us : List Value) (Q : St → Hp → Prop), Inv X pins σ H s → Vals vs us → t vs σ H Q →
    wpAny (model X.prog X.w) X.A (assignInOrder ((assignEach ts X.env).map (·.2)) us) (fun _ s' => ∃ σ' H', Inv X pins σ' H' s' ∧ Q σ' H') X.xe s
/-- o[i] = v, by values -/
abbrev TSet := V → V → V → Hp → (Hp → Prop) → Prop
def PSet (X : Cx) (t : TSet) : Prop :=
  ∀ (pins : List (Addr × Obj)) (s : Shared) (σ : St) (H : Hp) (o i v : V) (ov iv u : Value) (Q : Hp → Prop), Inv X pins σ H s → RelV o ov → RelV i iv → RelV v u → t o i v H Q →
    wpAny (model X.prog X.w) X.A (setItem ov iv u) (fun _ s' => ∃ H', Inv X pins σ H' s' ∧ Q H') X.xe s
/-- a op= b, by values -/
abbrev TIp := V → V → Hp → VK → Prop
def PIp (X : Cx) (op : Operator) (t : TIp) : Prop :=
  ∀ (pins : List (Addr × Obj)) (s : Shared) (σ : St) (H : Hp) (x y : V) (v u : Value) (Q : VK), Inv X pins σ H s → RelV x v → RelV y u → t x y H Q →
    wpAny (model X.prog X.w) X.A (inplaceOp op v u) (EP X pins σ Q) X.xe s
section
variable {X : Cx} {pos : Pos}
def gName (i : Nat) : TG := fun v σ H Q => Q (σ.set i (some v)) H
theorem pg_name {i : Nat} {x : Str} (hN : X.N.Nodup) (hi : X.N[i]? = some x) (hx : Loc X.env.scope x) (hf : X.fn x = true ∨ X.env.scope.names.lookup x = some .local := by first | exact .inl rfl | exact .inr rfl | assumption) : PG X (.Name x pos) (gName i) := by
  intro pins s σ H v u Q I r h
  exact wpAny_assign_Name (store_ok I hN hi hx r (fun s' I' => ⟨_, H, I', h⟩) hf)
def gNil : TGs := fun vs σ H Q => vs = [] ∧ Q σ H
def gCons (t : TG) (u : TGs) : TGs := fun vs σ H Q => ∃ v r, vs = v :: r ∧ t v σ H fun σ' H' => u r σ' H' Q
theorem pgs_nil : PGs X [] gNil := by
  intro pins s σ H vs us Q I r h
  obtain ⟨e, h⟩ := h
  subst e
  cases r
  exact assignInOrder_nil ⟨σ, H, I, h⟩
theorem pgs_cons {e : Expr} {es : List Expr} {t : TG} {u : TGs} (h1 : PG X e t) (h2 : PGs X es u)
    (hs : (assignEach (e :: es) X.env).map (·.2) = assign e X.env :: (assignEach es X.env).map (·.2) := by rfl) : PGs X (e :: es) (gCons t u) := by
  intro pins s σ H vs us Q I r h
  obtain ⟨v, vr, e1, h⟩ := h
  subst e1
  cases r with
  | cons r rr =>
    rw [hs]
    refine assignInOrder_cons (thn (h1 pins s σ H _ _ _ I r h) fun _ s1 ⟨σ1, H1, I1, q1⟩ => ?_)
    exact h2 pins s1 σ1 H1 _ _ Q I1 rr q1
/-- (a, b, ..) = a tuple of that length -/
def gTup (K : PySem.W.Frag) (n : Nat) (t : TGs) : TG := fun v σ H Q => ∃ a xs, v = .ref a ∧ SqT K H a xs ∧ xs.length = n ∧ t xs σ H Q
theorem pg_tup {es : List Expr} {k : Nat} {t : TGs} {n : Nat} (hc : X.calm = true) (h : PGs X es t)
    (hn : (assignEach es X.env).length = n := by rfl) (hst : (assignEach es X.env).findIdx? (·.1) = none := by rfl) : PG X (.Tuple es k pos) (gTup X.K n t) := by
  intro pins s σ H v u Q I r hw
  obtain ⟨a, xs, e1, hq, hl, hw⟩ := hw
  subst e1
  cases r
  obtain ⟨its, rv, ht, hz⟩ := I.tuple hq
  refine assign_Tuple_tuple (I.ok.hd hc) ht (by simp [hn, ← hl, rv.length]) hst fun h' hx => ?_
  have I1 : Inv X pins σ H { s with heap := h' } := I.kept (t' := s.toks) fun b o e => hx b o (Nat.ne_of_lt (Heap.lt_size e)) e
  exact h pins _ σ H xs _ Q I1 (by simpa using rv) hw
/-- o[i] = .. -/
def gSub (to ti : TE) (t : TSet) : TG := fun v σ H Q => to σ H fun o H1 => ti σ H1 fun i H2 => t o i v H2 fun H3 => Q σ H3
/-- target = value -/
def tAsg (te : TE) (g : TG) : TS := fun D σ H => te σ H fun x H1 => g x σ H1 D.nx
/-- name = value -/
theorem ps_set {i : Nat} {x : Str} {e : Expr} {te : TE} {pos' : Pos} (hN : X.N.Nodup) (hi : X.N[i]? = some x) (hx : Loc X.env.scope x) (he : PE X e te) (hs : swapsWith e (some (.Name x pos')) pos.line X.env = pure false := by rfl) (hf : X.fn x = true ∨ X.env.scope.names.lookup x = some .local := by first | exact .inl rfl | exact .inr rfl | assumption) :
    PS X (.Assign [.Name x pos'] e pos) (tAsg te (gName i)) := by
  intro pins s σ H D I h
  refine wpAny_Assign_Name (thn (he pins s σ H _ I h) fun v s1 ⟨y, H1, I1, r1, q1⟩ => ?_) hs
  exact store_ok I1 hN hi hx r1 (fun s2 I2 => ⟨_, H1, I2, q1⟩) hf
/-- a, b = x, y with plain local names: stored from the right; the pair itself is not tracked (the opening rows as in PyProof/Rows/TupAssign.lean:23) -/
def tPar (i j : Nat) (ta : TA) : TS := fun D σ H => ta σ H fun vs H1 => ∃ v w, vs = [v, w] ∧ D.nx ((σ.set i (some v)).set j (some w)) H1
/-- name op= e -/
def tAug (i : Nat) (te : TE) (ti : TIp) : TS := fun D σ H => ∃ x, σ[i]? = some (some x) ∧ te σ H fun y H1 => ti x y H1 fun z H2 => D.nx (σ.set i (some z)) H2
/-- o[i] op= e -/
def tAugS (to ti te : TE) (tget : V → V → Hp → VK → Prop) (tip : TIp) (tset : TSet) : TS := fun D σ H => to σ H fun o H1 => ti σ H1 fun i H2 => tget o i H2 fun x H3 => te σ H3 fun y H4 => tip x y H4 fun z H5 => tset o i z H5 fun H6 => D.nx σ H6
/-- o[i], by values -/
def PGet (X : Cx) (t : V → V → Hp → VK → Prop) : Prop :=
  ∀ (pins : List (Addr × Obj)) (s : Shared) (σ : St) (H : Hp) (o i : V) (ov iv : Value) (Q : VK), Inv X pins σ H s → RelV o ov → RelV i iv → t o i H Q →
    wpAny (model X.prog X.w) X.A (getItem ov iv) (EP X pins σ Q) X.xe s
/-- ints -/
def ipI (f : Int → Int → Int) : TIp := fun x y H Q => ∃ i j, x = .int i ∧ y = .int j ∧ Q (.int (f i j)) H
end

/-! ### while -/
section
variable {X : Cx} {pos : Pos}
/-- the invariant W with its measure -/
def tWhile (c : TT) (tb : TS) : TS := fun D σ H => ∃ W : Nat → St → Hp → Prop, (∃ m, W m σ H) ∧ ∀ m σ H, W m σ H →
  c σ H fun b H1 => if b = true then ∃ N : St → Hp → Prop, (∀ σ' H', N σ' H' → ∃ m', m' < m ∧ W m' σ' H') ∧ tb { D with nx := N, ct := N, bk := D.nx } σ H1 else D.nx σ H1
theorem ps_while {c : Expr} {body : List Stmt} {tc : TT} {tb : TS} (hp : PassesOwn (model X.prog X.w) X.A X.env X.xe) (hc : PT X c tc) (hb : PSs X body tb) : PS X (.While c body [] pos) (tWhile tc tb) := by
  intro pins s σ H D I h
  obtain ⟨W, ⟨m0, w0⟩, turn⟩ := h
  refine wpAny_While (codeAny_whileLoop (fun n s' => ∃ σ' H', Inv X pins σ' H' s' ∧ W n σ' H') ?_ m0 ⟨σ, H, I, w0⟩)
  rintro n s1 ⟨σ1, H1, I1, w1⟩
  refine wpAny_passesOwn hp (thn (hc pins s1 σ1 H1 _ I1 (turn n σ1 H1 w1)) fun b s2 ⟨H2, I2, q2⟩ => ?_)
  cases b with
  | true =>
    obtain ⟨N, hN, q2⟩ := q2
    rw [if_pos rfl]
    refine wpAny_passesOwn hp (thn (hb pins s2 σ1 H2 _ I2 q2) fun f s3 q3 => ?_)
    cases f with
    | next =>
      obtain ⟨σ3, H3, I3, n3⟩ := q3
      obtain ⟨m', hm, w3⟩ := hN σ3 H3 n3
      exact ⟨m', hm, σ3, H3, I3, w3⟩
    | cont =>
      obtain ⟨σ3, H3, I3, n3⟩ := q3
      obtain ⟨m', hm, w3⟩ := hN σ3 H3 n3
      exact ⟨m', hm, σ3, H3, I3, w3⟩
    | brk => exact q3
    | ret v => exact q3
  | false =>
    rw [if_neg Bool.false_ne_true]
    exact wpAny_execs_nil ⟨σ1, H2, I2, q2⟩
end

/-! ### what a loop or a comprehension walks -/
/-- at turn i: it yields x (the heap may grow), or it stops -/
structure It where
  go : Nat → Hp → Prop
  yld : Nat → Hp → V → Hp → Prop
  stop : Nat → Hp → Prop
/-- the iterator's own objects may turn: they are not the frame's, not pinned, younger than the entry (or a comprehension's own) -/
def FpOk (X : Cx) (pins : List (Addr × Obj)) (H : Hp) (b : Addr) : Prop :=
  H b = none ∧ b ≠ X.env.locals ∧ b ∉ X.fs ∧ (b ∈ X.ex ∨ X.s₀.heap.objs.size ≤ b) ∧ (∀ x c, X.env.cells.lookup x = some c → c ≠ b) ∧ ∀ p ∈ X.pn ++ pins, p.1 ≠ b
theorem Inv.fpOk {X : Cx} {pins : List (Addr × Obj)} {σ : St} {H H' : Hp} {s : Shared} {b : Addr} (I : Inv X pins σ H s) (hb : s.heap.objs.size ≤ b) (hn : H' b = none) : FpOk X pins H' b := by
  refine ⟨hn, Nat.ne_of_gt (Nat.lt_of_lt_of_le I.lt hb), I.nofs hb, .inr (Nat.le_trans I.sz hb), fun x c e z => ?_, fun p hp z => ?_⟩
  · obtain ⟨v, q⟩ := I.cell x c e
    exact absurd (Nat.lt_of_lt_of_le q.lt (by rw [z]; exact hb)) (Nat.lt_irrefl _)
  · exact absurd (Nat.lt_of_lt_of_le (Heap.lt_size (I.pin p hp).1) (by rw [z]; exact hb)) (Nat.lt_irrefl _)
structure Turn (P : Program) (w : World) (K : PySem.W.Frag) (tg : Expr) (J : It) (fp : List Addr) (it : Addr) (tn : Nat → Heap → Prop) : Prop where
  mem : it ∈ fp
  obj : ∀ i h, tn i h → ∀ b ∈ fp, ∃ o, h.get? b = some o ∧ ∀ v, o.data ≠ .cell v
  keep : ∀ i h h', tn i h → (∀ b ∈ fp, ∀ o, h.get? b = some o → h'.get? b = some o) → tn i h'
  item : ∀ (X : Cx), X.prog = P → X.w = w → X.K = K → X.calm = true → ∀ (i : Nat) (pins : List (Addr × Obj)) (s : Shared) (σ : St) (H : Hp) (E : Value → Shared → Prop), Inv X pins σ H s → (∀ b ∈ fp, FpOk X pins H b) → tn i s.heap → J.go i H →
    wpAny (model P w) X.A (pyNext (.ref it)) (fun r s1 => ∃ u, r = some u ∧
      wpAny (model P w) X.A (letOwnedTupleGo tg (.ref it) u) (fun _ s2 => ∃ x H', Inv X pins σ H' s2 ∧ RelV x u ∧ J.yld i H x H' ∧ tn (i + 1) s2.heap ∧ ∀ b ∈ fp, H' b = none) E s1) E s
  done : ∀ (X : Cx), X.prog = P → X.w = w → X.K = K → X.calm = true → ∀ (i : Nat) (pins : List (Addr × Obj)) (s : Shared) (σ : St) (H : Hp) (E : Value → Shared → Prop), Inv X pins σ H s → (∀ b ∈ fp, FpOk X pins H b) → tn i s.heap → J.stop i H →
    wpAny (model P w) X.A (pyNext (.ref it)) (fun r s1 => r = none ∧ Inv X pins σ H s1) E s
  self : ∀ (A : Around) (i : Nat) (s : Shared) (Q : Value → Shared → Prop) (E : Value → Shared → Prop), tn i s.heap → Q (.ref it) s → wpAny (model P w) A (pyIter (.ref it)) Q E s
abbrev TI := St → Hp → (It → Hp → Prop) → Prop
/-- an iterator has come -/
def PIE (X : Cx) (pins : List (Addr × Obj)) (σ : St) (tg : Expr) (R : It → Hp → Prop) (itv : Value) (s2 : Shared) : Prop :=
  ∃ (it : Addr) (fp : List Addr) (tn : Nat → Heap → Prop) (J : It) (H' : Hp), itv = .ref it ∧ Inv X pins σ H' s2 ∧ Turn X.prog X.w X.K tg J fp it tn ∧ tn 0 s2.heap ∧ (∀ b ∈ fp, FpOk X pins H' b) ∧ R J H'
def PI (X : Cx) (tg iter : Expr) (wi : TI) : Prop :=
  ∀ (pins : List (Addr × Obj)) (s : Shared) (σ : St) (H : Hp) (R : It → Hp → Prop), Inv X pins σ H s → wi σ H R →
    wpAny (model X.prog X.w) X.A (eval iter X.env) (fun v s1 => wpAny (model X.prog X.w) X.A (pyIter v) (PIE X pins σ tg R) X.xe s1) X.xe s

/-- the step ahead of the store is nothing for an iterator that keeps no tuple -/
theorem go_of {M : Model} {A : Around} {E : Value → Shared → Prop} {s : Shared} {tg : Expr} {it : Addr} {u : Value} {o : Obj} {n : String} {vs : Array Value} {Q : Unit → Shared → Prop} (ho : s.heap.get? it = some o) (hc : o.cls = .type n) (hd : o.data = .fields vs)
    (hn : ["enumerate", "zip", "dict_itemiterator", "dict_reverseitemiterator", "odict_iterator", "itertools.zip_longest", "itertools.pairwise"].contains n = false) (hQ : Q () s) : wpAny M A (letOwnedTupleGo tg (.ref it) u) Q E s := by
  unfold letOwnedTupleGo
  cases tg <;> first
    | exact wpAny_pure hQ
    | (cases u <;> first
        | exact wpAny_pure hQ
        | (refine wpAny_bind (wpAny_load ho ?_)
           rw [hc, hd]
           show wpAny M A (if (["enumerate", "zip", "dict_itemiterator", "dict_reverseitemiterator", "odict_iterator", "itertools.zip_longest", "itertools.pairwise"].contains n && vs[0]? == some (rawInt _)) = true then _ else _) Q E s
           rw [if_neg (by intro h; rw [hn, Bool.false_and] at h; cases h)]
           exact wpAny_pure hQ))

/-- the list at a, as it stands at each turn (a loop may append to it) -/
def Itl (K : PySem.W.Frag) (a : Addr) : It :=
  ⟨fun i H => ∃ xs x, SqL K H a xs ∧ xs[i]? = some x, fun i H x H' => H' = H ∧ ∀ xs, SqL K H a xs → xs[i]? = some x, fun i H => ∃ xs, SqL K H a xs ∧ xs.length ≤ i⟩
def Itt (K : PySem.W.Frag) (a : Addr) : It :=
  ⟨fun i H => ∃ xs x, SqT K H a xs ∧ xs[i]? = some x, fun i H x H' => H' = H ∧ ∀ xs, SqT K H a xs → xs[i]? = some x, fun i H => ∃ xs, SqT K H a xs ∧ xs.length ≤ i⟩
/-- lo, lo + 1, .. (n of them) -/
def Itr (lo : Int) (n : Nat) : It := ⟨fun i _ => i < n, fun i H x H' => H' = H ∧ x = .int (lo + i), fun i _ => n ≤ i⟩
theorem turn_list {P : Program} {w : World} {K : PySem.W.Frag} {tg : Expr} (a it : Addr) : Turn P w K tg (Itl K a) [it] it (fun i h => h.IsListIter it a i) where
  mem := by simp
  obj := fun i h st b hb => by
    have e : b = it := by simpa using hb
    subst e
    obtain ⟨o, e, c, d⟩ := st
    exact ⟨o, e, fun v z => by rw [d] at z; cases z⟩
  keep := fun i h h' st k => st.at fun o e => k it (by simp) o e
  item := by
    intro X hP hw hK hc i pins s σ H E I hf st hg
    subst hP hw hK
    obtain ⟨xs, x, hq, hx⟩ := hg
    obtain ⟨its, rv, p, hz⟩ := I.list hq
    obtain ⟨u, hu, ru⟩ := rv.get hx
    obtain ⟨f0, f1, f2, f3, f4, f5⟩ := hf it (by simp)
    refine wpAny_pyNext_list_item st p.isList (x := u) (by simpa using hu) fun h' st' sb => ?_
    have I1 : Inv X pins σ H { s with heap := h' } := I.turned (t' := s.toks) (fun b o hb e => (sb.2 b hb).trans e) f0 f1 f3 f4 f5
    obtain ⟨o, e, c, d⟩ := id st'
    exact ⟨u, rfl, go_of (s := { s with heap := h' }) e c d (by decide) ⟨x, H, I1, ru, ⟨rfl, fun ys hy => by rw [I.list_inj hy hq]; exact hx⟩, st', fun b hb => (hf b hb).1⟩⟩
  done := by
    intro X hP hw hK hc i pins s σ H E I hf st hg
    subst hP hw hK
    obtain ⟨xs, hq, hx⟩ := hg
    obtain ⟨its, rv, p, hz⟩ := I.list hq
    obtain ⟨f0, f1, f2, f3, f4, f5⟩ := hf it (by simp)
    have hl := rv.length
    exact wpAny_pyNext_list_end (I.ok.hd hc) st p.isList (by simp; omega) fun h' eb => ⟨rfl, I.turned (t' := s.toks) (fun b o hb e => eb b o hb e) f0 f1 f3 f4 f5⟩
  self := fun _ _ _ _ _ st h => wpAny_pyIter_listiter st h
theorem turn_range {P : Program} {w : World} {K : PySem.W.Frag} {tg : Expr} (it : Addr) (lo : Int) (n : Nat) : Turn P w K tg (Itr lo n) [it] it (fun i h => IsRangeIter h it (lo + (i : Nat) * 1) ((n : Int) - (i : Nat)) 1) where
  mem := by simp
  obj := fun i h st b hb => by
    have e : b = it := by simpa using hb
    subst e
    exact ⟨_, st, fun v z => by
      have z' : Data.fields _ = Data.cell v := z
      cases z'⟩
  keep := fun i h h' st k => k it (by simp) _ st
  item := by
    intro X hP hw hK hc i pins s σ H E I hf st hg
    subst hP hw hK
    obtain ⟨f0, f1, f2, f3, f4, f5⟩ := hf it (by simp)
    have W := Walks.range (prog := X.prog) (w := X.w) (I.ok.hd hc) it lo 1 n
    refine W.item i s _ _ hg st fun v h' tk hv st' kk => ?_
    obtain ⟨t, rfl⟩ := hv
    have I1 : Inv X pins σ H { s with heap := h', toks := tk } := I.turned (fun b o hb e => kk b o (by simpa using hb) e) f0 f1 f3 f4 f5
    refine ⟨_, rfl, go_of (s := { s with heap := h', toks := tk }) (n := "range_iterator") st' rfl rfl (by decide) ⟨.int (lo + i), H, I1, ⟨t, ?_⟩, ⟨rfl, rfl⟩, st', fun b hb => (hf b hb).1⟩⟩
    rw [Int.mul_one]
  done := by
    intro X hP hw hK hc i pins s σ H E I hf st hg
    subst hP hw hK
    obtain ⟨f0, f1, f2, f3, f4, f5⟩ := hf it (by simp)
    exact wpAny_pyNext_range_end (I.ok.hd hc) st (by have : n ≤ i := hg; omega) fun h' eb => ⟨rfl, I.turned (t' := s.toks) (fun b o hb e => eb b o hb e) f0 f1 f3 f4 f5⟩
  self := fun _ _ _ _ _ st h => wpAny_pyIter_rangeiter st h
end L2

namespace L2
open PySem PySem.Spec PyProof.Rows
section
variable {X : Cx} {tg : Expr}
def iList (K : PySem.W.Frag) (tl : TE) : TI := fun σ H R => tl σ H fun x H1 => ∃ a, x = .ref a ∧ (∃ xs, SqL K H1 a xs) ∧ R (Itl K a) H1
def iTup (K : PySem.W.Frag) (tl : TE) : TI := fun σ H R => tl σ H fun x H1 => ∃ a, x = .ref a ∧ (∃ xs, SqT K H1 a xs) ∧ R (Itt K a) H1
theorem pi_list {l : Expr} {tl : TE} (hl : PE X l tl) : PI X tg l (iList X.K tl) := by
  intro pins s σ H R I h
  refine thn (hl pins s σ H _ I h) fun v s1 ⟨x, H1, I1, r1, q1⟩ => ?_
  obtain ⟨a, e, ⟨xs, hq⟩, q⟩ := q1
  subst e
  cases r1
  obtain ⟨its, rv, p, hz⟩ := I1.list hq
  refine wpAny_pyIter_list p.isList ?_
  refine ⟨s1.heap.objs.size, [s1.heap.objs.size], _, _, H1, rfl, I1.kept (t' := s1.toks) fun b o e => Heap.get?_push_of_some _ e, turn_list a _, ⟨_, Heap.get?_push_size _ rfl, rfl, rfl⟩, fun b hb => ?_, q⟩
  have e : b = s1.heap.objs.size := by simpa using hb
  subst e
  exact I1.fpOk (Nat.le_refl _) (I1.hok.fresh (Nat.le_refl _))
/-- a range object just made, walked -/
theorem range_it {pins : List (Addr × Obj)} {σ : St} {H : Hp} {s : Shared} {R : It → Hp → Prop} {E : Value → Shared → Prop} {lo hi : Int} {t u v : Tok} {tk : Nat} (I : Inv X pins σ H s) (h1 : -(2 ^ 62) ≤ lo) (h2 : lo < 2 ^ 62) (h3 : -(2 ^ 62) ≤ hi) (h4 : hi < 2 ^ 62)
    (q : R (Itr lo (hi - lo).toNat) H) : wpAny (model X.prog X.w) X.A (pyIter (.ref s.heap.objs.size)) (PIE X pins σ tg R) E { s with heap := s.heap.push { cls := .type "range", data := .fields #[.int lo t, .int hi u, .int 1 v] }, toks := tk } := by
  refine wpAny_pyIter_range (IsRange.new ..) (small_one h1 h2 h3 h4) ?_
  have I1 : Inv X pins σ H { s with heap := s.heap.push { cls := .type "range", data := .fields #[.int lo t, .int hi u, .int 1 v] }, toks := tk } := I.kept fun b o e => Heap.get?_push_of_some _ e
  refine ⟨(s.heap.push { cls := .type "range", data := .fields #[.int lo t, .int hi u, .int 1 v] }).objs.size, [(s.heap.push { cls := .type "range", data := .fields #[.int lo t, .int hi u, .int 1 v] }).objs.size], _, _, H, rfl,
    I1.kept (t' := tk) fun b o e => Heap.get?_push_of_some _ e, turn_range _ lo (hi - lo).toNat, ?_, fun b hb => ?_, q⟩
  · have e1 : lo + ((0 : Nat) : Int) * 1 = lo := by simp
    have e2 : (((hi - lo).toNat : Nat) : Int) - ((0 : Nat) : Int) = Builtin.Range.rangeSize lo hi 1 := by rw [rangeSize_one]; split <;> omega
    show IsRangeIter _ _ (lo + ((0 : Nat) : Int) * 1) ((((hi - lo).toNat : Nat) : Int) - ((0 : Nat) : Int)) 1
    rw [e1, e2]
    exact Heap.get?_push_size _ rfl
  · have e : b = (s.heap.push { cls := .type "range", data := .fields #[.int lo t, .int hi u, .int 1 v] }).objs.size := by simpa using hb
    subst e
    exact I1.fpOk (Nat.le_refl _) (I1.hok.fresh (Nat.le_refl _))
def iRng1 (ta : TA) : TI := fun σ H R => ta σ H fun vs H1 => ∃ j : Int, vs = [.int j] ∧ -(2 ^ 62) ≤ j ∧ j < 2 ^ 62 ∧ R (Itr 0 j.toNat) H1
def iRng2 (ta : TA) : TI := fun σ H R => ta σ H fun vs H1 => ∃ i j : Int, vs = [.int i, .int j] ∧ (-(2 ^ 62) ≤ i ∧ i < 2 ^ 62 ∧ -(2 ^ 62) ≤ j ∧ j < 2 ^ 62) ∧ R (Itr i (j - i).toNat) H1
theorem pi_range1 {a : Expr} {ta : TA} {p pos : Pos} (hg : Gl X "range") (hm : X.mg "range" = none) (ha : PA X [a] ta) (hs : starEach [a] X.env = [(false, eval a X.env)] := by rfl) : PI X tg (.Call (.Name "range" p) [a] [] pos) (iRng1 ta) := by
  intro pins s σ H R I h
  refine Call_ (ld_blt I hg hm boot_range (PyProof.Rows.callWith_type1 (thn (ha pos pins s σ H _ I h) fun us s1 ⟨vs, H1, I1, r1, q1⟩ => ?_) hs rfl))
  obtain ⟨j, e, q1, q2, q⟩ := q1
  subst e
  cases r1 with
  | cons r rr =>
    cases rr
    obtain ⟨t, rfl⟩ := r
    exact call_range_1 (range_it I1 (by omega) (by omega) q1 q2 (by simpa using q))
/-! ### for -/
/-- W: the invariant by the turn and a measure; N: what the body is to reach -/
def tFor (wi : TI) (g : TG) (tb : TS) : TS := fun D σ H => wi σ H fun J H1 => ∃ W : Nat → Nat → St → Hp → Prop, (∃ m, W 0 m σ H1) ∧ ∀ i m σ H, W i m σ H →
  (J.stop i H ∧ D.nx σ H) ∨ (J.go i H ∧ ∃ N : St → Hp → Prop, (∀ σ' H', N σ' H' → ∃ m', m' < m ∧ W (i + 1) m' σ' H') ∧ ∀ x H', J.yld i H x H' → g x σ H' fun σ2 H2 => tb { D with nx := N, ct := N, bk := D.nx } σ2 H2)
/-- the records at fp as they stand -/
def pinsAt (fp : List Addr) (h : Heap) : List (Addr × Obj) := fp.filterMap fun b => (h.get? b).map fun o => (b, o)
theorem mem_pinsAt {fp : List Addr} {h : Heap} {b : Addr} {o : Obj} (hb : b ∈ fp) (e : h.get? b = some o) : (b, o) ∈ pinsAt fp h := List.mem_filterMap.mpr ⟨b, hb, by rw [e]; rfl⟩
theorem of_pinsAt {fp : List Addr} {h : Heap} {p : Addr × Obj} (hp : p ∈ pinsAt fp h) : p.1 ∈ fp ∧ h.get? p.1 = some p.2 := by
  obtain ⟨b, hb, e⟩ := List.mem_filterMap.mp hp
  cases q : h.get? b with
  | none => rw [q] at e; cases e
  | some o =>
    rw [q] at e
    have e' : (b, o) = p := Option.some.inj e
    subst e'
    exact ⟨hb, q⟩
theorem Inv.pinned {pins : List (Addr × Obj)} {σ : St} {H : Hp} {s : Shared} {fp : List Addr} (I : Inv X pins σ H s) (hf : ∀ b ∈ fp, FpOk X pins H b) (ho : ∀ b ∈ fp, ∃ o, s.heap.get? b = some o ∧ ∀ v, o.data ≠ .cell v) : Inv X (pins ++ pinsAt fp s.heap) σ H s :=
  I.pins_of fun p hp => (List.mem_append.mp hp).elim (fun z => I.pin p (List.mem_append_right _ z)) fun z => by
    obtain ⟨hb, e⟩ := of_pinsAt z
    obtain ⟨f0, f1, f2, _⟩ := hf p.1 hb
    obtain ⟨o, e', d⟩ := ho p.1 hb
    rw [e] at e'; cases e'
    exact ⟨e, f0, f1, f2, d⟩
theorem Inv.unpinned {pins pl : List (Addr × Obj)} {σ : St} {H : Hp} {s : Shared} (I : Inv X (pins ++ pl) σ H s) : Inv X pins σ H s := I.pins_of fun p hp => I.pin p (List.mem_append_right _ (List.mem_append_left _ hp))
theorem ps_for {iter : Expr} {body : List Stmt} {wi : TI} {g : TG} {tb : TS} {pos : Pos} (hp : PassesOwn (model X.prog X.w) X.A X.env X.xe) (hc : X.calm = true) (hi : PI X tg iter wi) (hg : PG X tg g) (hb : PSs X body tb)
    (hs : ∀ x, foldedSetIterable iter X.env x = pure x := by intro _; rfl) : PS X (.For tg iter body [] pos) (tFor wi g tb) := by
  intro pins s σ H D I h
  refine wpAny_For (thn (hi pins s σ H _ I h) fun v s1 h1 => thn h1 fun itv s2 h2 => ?_) hs
  obtain ⟨it, fp, tn, J, H2, e, I2, T, st2, f2, W, ⟨m0, w0⟩, turn⟩ := h2
  subst e
  -- what stays true of the iterator's objects through the loop
  have stat : ∀ {H' : Hp}, (∀ b ∈ fp, H' b = none) → ∀ b ∈ fp, FpOk X pins H' b := fun hn b hb => ⟨hn b hb, (f2 b hb).2⟩
  refine codeAny_forLoop_any (fun n s' => ∃ i σ' H', Inv X pins σ' H' s' ∧ tn i s'.heap ∧ (∀ b ∈ fp, H' b = none) ∧ W i n σ' H') ?_ m0 ⟨0, σ, H2, I2, st2, fun b hb => (f2 b hb).1, w0⟩
  rintro n s3 ⟨i, σ3, H3, I3, st3, fr3, w3⟩
  rcases turn i n σ3 H3 w3 with ⟨stop, qn⟩ | ⟨go, N, hN, step⟩
  · refine wpAny_passesOwn hp (thn (T.done X rfl rfl rfl hc i pins s3 σ3 H3 X.xe I3 (stat fr3) st3 stop) fun r s4 ⟨hr, I4⟩ => ?_)
    subst hr
    exact wpAny_execs_nil ⟨σ3, H3, I4, qn⟩
  · refine wpAny_passesOwn hp (thn (T.item X rfl rfl rfl hc i pins s3 σ3 H3 X.xe I3 (stat fr3) st3 go) fun r s4 ⟨u, hr, h4⟩ => ?_)
    subst hr
    refine wpAny_passesOwn hp (thn h4 fun _ s5 ⟨x, H5, I5, r5, y5, st5, fr5⟩ => ?_)
    have I5' := I5.pinned (stat fr5) (T.obj _ _ st5)
    refine wpAny_passesOwn hp (thn (hg _ s5 σ3 H5 x u _ I5' r5 (step x H5 y5)) fun _ s6 ⟨σ6, H6, I6, q6⟩ => ?_)
    refine wpAny_passesOwn hp (thn (hb _ s6 σ6 H6 _ I6 q6) fun f s7 q7 => ?_)
    have again : ∀ {σ7 : St} {H7 : Hp}, Inv X (pins ++ pinsAt fp s5.heap) σ7 H7 s7 → N σ7 H7 → ∃ m, m < n ∧ ∃ i σ' H', Inv X pins σ' H' s7 ∧ tn i s7.heap ∧ (∀ b ∈ fp, H' b = none) ∧ W i m σ' H' := fun {σ7 H7} I7 n7 => by
      obtain ⟨m', hm, w7⟩ := hN σ7 H7 n7
      refine ⟨m', hm, i + 1, σ7, H7, I7.unpinned, T.keep _ _ _ st5 fun b hb o e => (I7.pin (b, o) (List.mem_append_right _ (List.mem_append_right _ (mem_pinsAt hb e)))).1, fun b hb => ?_, w7⟩
      obtain ⟨o, e, d⟩ := T.obj _ _ st5 b hb
      exact (I7.pin (b, o) (List.mem_append_right _ (List.mem_append_right _ (mem_pinsAt hb e)))).2.1
    cases f with
    | next => obtain ⟨σ7, H7, I7, n7⟩ := q7; exact again I7 n7
    | cont => obtain ⟨σ7, H7, I7, n7⟩ := q7; exact again I7 n7
    | brk => obtain ⟨σ7, H7, I7, q7⟩ := q7; exact ⟨σ7, H7, I7.unpinned, q7⟩
    | ret v => obtain ⟨x7, σ7, H7, I7, r7, q7⟩ := q7; exact ⟨x7, σ7, H7, I7.unpinned, r7, q7⟩
end

/-! ### the forms one uses -/
/-- over a list that the body leaves as it is -/
theorem for_list {K : PySem.W.Frag} {a : Addr} {xs : List V} {g : TG} {tb : TS} {D : Ends} {σ : St} {H : Hp} (Pv : Nat → St → Hp → Prop) (h0 : Pv 0 σ H) (hl : ∀ i σ H, i ≤ xs.length → Pv i σ H → SqL K H a xs)
    (hs : ∀ i x σ H, xs[i]? = some x → Pv i σ H → g x σ H fun σ2 H2 => tb { D with nx := Pv (i + 1), ct := Pv (i + 1), bk := D.nx } σ2 H2) (hd : ∀ σ H, Pv xs.length σ H → D.nx σ H) :
    ∃ W : Nat → Nat → St → Hp → Prop, (∃ m, W 0 m σ H) ∧ ∀ i m σ H, W i m σ H →
      ((Itl K a).stop i H ∧ D.nx σ H) ∨ ((Itl K a).go i H ∧ ∃ N : St → Hp → Prop, (∀ σ' H', N σ' H' → ∃ m', m' < m ∧ W (i + 1) m' σ' H') ∧ ∀ x H', (Itl K a).yld i H x H' → g x σ H' fun σ2 H2 => tb { D with nx := N, ct := N, bk := D.nx } σ2 H2) := by
  refine ⟨fun i m σ H => m = xs.length - i ∧ i ≤ xs.length ∧ Pv i σ H, ⟨xs.length, by simp, Nat.zero_le _, h0⟩, ?_⟩
  rintro i m σ H ⟨rfl, hi, p⟩
  have q := hl i σ H hi p
  by_cases hlt : i < xs.length
  · refine .inr ⟨⟨xs, xs[i], q, by simp [hlt]⟩, Pv (i + 1), fun σ' H' p' => ⟨xs.length - (i + 1), by omega, rfl, hlt, p'⟩, fun x H' y => ?_⟩
    obtain ⟨e, y⟩ := y
    subst e
    exact hs i x σ _ (y xs q) p
  · have e : i = xs.length := by omega
    subst e
    exact .inl ⟨⟨xs, q, Nat.le_refl _⟩, hd σ H p⟩
theorem for_range {lo : Int} {n : Nat} {g : TG} {tb : TS} {D : Ends} {σ : St} {H : Hp} (Pv : Nat → St → Hp → Prop) (h0 : Pv 0 σ H)
    (hs : ∀ i σ H, i < n → Pv i σ H → g (.int (lo + i)) σ H fun σ2 H2 => tb { D with nx := Pv (i + 1), ct := Pv (i + 1), bk := D.nx } σ2 H2) (hd : ∀ σ H, Pv n σ H → D.nx σ H) :
    ∃ W : Nat → Nat → St → Hp → Prop, (∃ m, W 0 m σ H) ∧ ∀ i m σ H, W i m σ H →
      ((Itr lo n).stop i H ∧ D.nx σ H) ∨ ((Itr lo n).go i H ∧ ∃ N : St → Hp → Prop, (∀ σ' H', N σ' H' → ∃ m', m' < m ∧ W (i + 1) m' σ' H') ∧ ∀ x H', (Itr lo n).yld i H x H' → g x σ H' fun σ2 H2 => tb { D with nx := N, ct := N, bk := D.nx } σ2 H2) := by
  refine ⟨fun i m σ H => m = n - i ∧ i ≤ n ∧ Pv i σ H, ⟨n, by simp, Nat.zero_le _, h0⟩, ?_⟩
  rintro i m σ H ⟨rfl, hi, p⟩
  by_cases hlt : i < n
  · refine .inr ⟨hlt, Pv (i + 1), fun σ' H' p' => ⟨n - (i + 1), by omega, rfl, hlt, p'⟩, fun x H' y => ?_⟩
    obtain ⟨e, y⟩ := y
    subst e y
    exact hs i σ _ hlt p
  · have e : i = n := by omega
    subst e
    exact .inl ⟨Nat.le_refl _, hd σ H p⟩
/-- while, by a word and a measure of the state -/
theorem while_by {c : TT} {tb : TS} {D : Ends} {σ : St} {H : Hp} (Pv : St → Hp → Prop) (μ : St → Hp → Nat) (h0 : Pv σ H)
    (hs : ∀ σ H, Pv σ H → c σ H fun b H1 => if b = true then tb { D with nx := fun σ' H' => Pv σ' H' ∧ μ σ' H' < μ σ H, ct := fun σ' H' => Pv σ' H' ∧ μ σ' H' < μ σ H, bk := D.nx } σ H1 else D.nx σ H1)
    (mono : ∀ σ H Q Q', (∀ b H1, Q b H1 → Q' b H1) → c σ H Q → c σ H Q') : tWhile c tb D σ H := by
  refine ⟨fun m σ H => m = μ σ H ∧ Pv σ H, ⟨_, rfl, h0⟩, ?_⟩
  rintro m σ H ⟨rfl, p⟩
  refine mono σ H _ _ (fun b H1 q => ?_) (hs σ H p)
  cases b with
  | true => exact ⟨_, fun σ' H' ⟨p', l⟩ => ⟨_, l, rfl, p'⟩, q⟩
  | false => exact q
end L2

namespace L2
open PySem PySem.Spec PyProof.Rows

abbrev R2 := V → V → Hp → VK → Prop
/-- a two-place operation on values: f is binaryOp op, inplaceOp op or compareOp op -/
def OpR (X : Cx) (f : Value → Value → Sem Value) (r : R2) : Prop :=
  ∀ (pins : List (Addr × Obj)) (s : Shared) (σ : St) (H : Hp) (x y : V) (v u : Value) (Q : VK), Inv X pins σ H s → RelV x v → RelV y u → r x y H Q →
    wpAny (model X.prog X.w) X.A (f v u) (EP X pins σ Q) X.xe s
/-- a one-place operation -/
def UnR (X : Cx) (f : Value → Sem Value) (r : V → Hp → VK → Prop) : Prop :=
  ∀ (pins : List (Addr × Obj)) (s : Shared) (σ : St) (H : Hp) (x : V) (v : Value) (Q : VK), Inv X pins σ H s → RelV x v → r x H Q →
    wpAny (model X.prog X.w) X.A (f v) (EP X pins σ Q) X.xe s
/-- a call of a value that is known (a builtin, a type) with values -/
def CallR (X : Cx) (f : Value) (r : List V → Hp → VK → Prop) : Prop :=
  ∀ (pins : List (Addr × Obj)) (s : Shared) (σ : St) (H : Hp) (xs : List V) (us : List Value) (Q : VK), Inv X pins σ H s → Vals xs us → r xs H Q →
    wpAny (model X.prog X.w) X.A (call f us) (EP X pins σ Q) X.xe s
/-- a value's truth -/
def TruR (X : Cx) (r : V → Hp → (Bool → Hp → Prop) → Prop) : Prop :=
  ∀ (pins : List (Addr × Obj)) (s : Shared) (σ : St) (H : Hp) (x : V) (v : Value) (Q : Bool → Hp → Prop), Inv X pins σ H s → RelV x v → r x H Q →
    wpAny (model X.prog X.w) X.A (truthy v) (TP X pins σ Q) X.xe s

def tOp (r : R2) (ta tb : TE) : TE := fun σ H Q => ta σ H fun x H1 => tb σ H1 fun y H2 => r x y H2 Q
def tUn (r : V → Hp → VK → Prop) (ta : TE) : TE := fun σ H Q => ta σ H fun x H1 => r x H1 Q
/-- ints in, under C, and a value out -/
def rI (C : Int → Int → Prop) (g : Int → Int → V) : R2 := fun x y H Q => ∃ i j, x = .int i ∧ y = .int j ∧ C i j ∧ Q (g i j) H
def rI0 (g : Int → Int → V) : R2 := fun x y H Q => ∃ i j, x = .int i ∧ y = .int j ∧ Q (g i j) H
def rU (g : Int → V) : V → Hp → VK → Prop := fun x H Q => ∃ i, x = .int i ∧ Q (g i) H

section
variable {X : Cx} {a b c : Expr} {ta tb tc : TE} {pos : Pos}

theorem binT (ha : PE X a ta) (hb : PE X b tb) {pins : List (Addr × Obj)} {s : Shared} {σ : St} {H : Hp} {R : V → V → Hp → Prop} (I : Inv X pins σ H s)
    (h : ta σ H fun x H1 => tb σ H1 fun y H2 => R x y H2) {Q : Value → Shared → Prop} {f : Value → Value → Sem Value}
    (hf : ∀ v u s2 x y H2, Inv X pins σ H2 s2 → RelV x v → RelV y u → R x y H2 → wpAny (model X.prog X.w) X.A (f v u) Q X.xe s2) :
    wpAny (model X.prog X.w) X.A (eval a X.env) (fun v s₁ => wpAny (model X.prog X.w) X.A (eval b X.env) (fun u s₂ => wpAny (model X.prog X.w) X.A (f v u) Q X.xe s₂) X.xe s₁) X.xe s := by
  refine thn (ha pins s σ H _ I h) fun v s1 ⟨x, H1, I1, r1, q1⟩ => ?_
  refine thn (hb pins s1 σ H1 _ I1 q1) fun u s2 ⟨y, H2, I2, r2, q2⟩ => ?_
  exact hf v u s2 x y H2 I2 r1 r2 q2

theorem pe_op {op : Operator} {r : R2} (ho : OpR X (binaryOp op) r) (ha : PE X a ta) (hb : PE X b tb) : PE X (.BinOp a op b pos) (tOp r ta tb) := by
  intro pins s σ H Q I h
  exact wpAny_BinOp (binT ha hb I h fun v u s2 x y H2 I2 rx ry q => ho pins s2 σ H2 x y v u Q I2 rx ry q)
theorem pe_un {op : UnaryOp} {r : V → Hp → VK → Prop} (ho : UnR X (unaryOp op) r) (ha : PE X a ta) : PE X (.UnaryOp op a pos) (tUn r ta) := by
  intro pins s σ H Q I h
  exact UnaryOp_ (thn (ha pins s σ H _ I h) fun v s1 ⟨x, H1, I1, r1, q1⟩ => ho pins s1 σ H1 x v Q I1 r1 q1)
/-! ### ints -/
theorem opI {f : Value → Value → Sem Value} {C : Int → Int → Prop} {g : Int → Int → Int}
    (rule : ∀ (i j : Int) (t u : Tok) (s : Shared) (Q : Value → Shared → Prop) (E : Value → Shared → Prop), C i j → Q (.int (g i j) s.toks) { s with toks := s.toks + 1 } → wpAny (model X.prog X.w) X.A (f (.int i t) (.int j u)) Q E s) :
    OpR X f (rI C fun i j => .int (g i j)) := by
  intro pins s σ H x y v u Q I rx ry h
  obtain ⟨i, j, rfl, rfl, hc, q⟩ := h
  obtain ⟨t, rfl⟩ := rx
  obtain ⟨t', rfl⟩ := ry
  exact rule i j t t' s _ _ hc ⟨.int (g i j), H, I.tok _, ⟨_, rfl⟩, q⟩
theorem opI0 {f : Value → Value → Sem Value} {g : Int → Int → Int}
    (rule : ∀ (i j : Int) (t u : Tok) (s : Shared) (Q : Value → Shared → Prop) (E : Value → Shared → Prop), Q (.int (g i j) s.toks) { s with toks := s.toks + 1 } → wpAny (model X.prog X.w) X.A (f (.int i t) (.int j u)) Q E s) :
    OpR X f (rI0 fun i j => .int (g i j)) := by
  intro pins s σ H x y v u Q I rx ry h
  obtain ⟨i, j, rfl, rfl, q⟩ := h
  obtain ⟨t, rfl⟩ := rx
  obtain ⟨t', rfl⟩ := ry
  exact rule i j t t' s _ _ ⟨.int (g i j), H, I.tok _, ⟨_, rfl⟩, q⟩
theorem opB0 {f : Value → Value → Sem Value} {g : Int → Int → Bool}
    (rule : ∀ (i j : Int) (t u : Tok) (s : Shared) (Q : Value → Shared → Prop) (E : Value → Shared → Prop), Q (.bool (g i j)) s → wpAny (model X.prog X.w) X.A (f (.int i t) (.int j u)) Q E s) :
    OpR X f (rI0 fun i j => .bl (g i j)) := by
  intro pins s σ H x y v u Q I rx ry h
  obtain ⟨i, j, rfl, rfl, q⟩ := h
  obtain ⟨t, rfl⟩ := rx
  obtain ⟨t', rfl⟩ := ry
  exact rule i j t t' s _ _ ⟨.bl (g i j), H, I, rfl, q⟩

def CDiv (i j : Int) : Prop := 0 < j ∧ j < 1073741824
def CDivN (i j : Int) : Prop := j ≠ 0 ∧ j.natAbs < 1073741824
def CPow (i j : Int) : Prop := 0 ≤ j ∧ j ≤ 1000000 ∧ i.natAbs < 2 ^ 64
def CMul (i j : Int) : Prop := (-(2 ^ 64) < i ∧ i < 2 ^ 64) ∨ (-(2 ^ 64) < j ∧ j < 2 ^ 64)
theorem CMul.ok {i j : Int} (h : CMul i j) : IntMulOk i j := by
  rcases h with ⟨h1, h2⟩ | ⟨h1, h2⟩
  · exact .of_left (intBits_le_64 h1 h2)
  · exact .of_right (intBits_le_64 h1 h2)
theorem op_add : OpR X (binaryOp .Add) (rI0 fun i j => .int (i + j)) := opI0 fun _ _ _ _ _ _ _ q => add_int q
theorem op_sub : OpR X (binaryOp .Sub) (rI0 fun i j => .int (i - j)) := opI0 fun _ _ _ _ _ _ _ q => sub_int q
theorem op_mul : OpR X (binaryOp .Mult) (rI CMul fun i j => .int (i * j)) := opI fun _ _ _ _ _ _ _ hc q => mul_int q hc.ok
/-- // by a positive divisor -/
theorem op_fdiv : OpR X (binaryOp .FloorDiv) (rI CDiv fun i j => .int (i / j)) := opI fun i j _ _ _ _ _ hc q => by
  have h1 : (0 : Int) < j := hc.1
  have h2 : j < 1073741824 := hc.2
  exact floordiv_int (by omega) (by rw [Int.fdiv_eq_ediv_of_nonneg i (by omega)]; exact q) (.inl (PyProof.noPylong_small (by omega)))
/-- % by a positive divisor of any size -/
theorem op_mod : OpR X (binaryOp .Mod) (rI (fun _ j => 0 < j) fun i j => .int (i % j)) := opI fun i j _ _ _ _ _ hc q => by
  have h1 : (0 : Int) < j := hc
  exact mod_int' (by omega) (by rw [Int.fmod_eq_emod_of_nonneg i (by omega)]; exact q)
theorem op_pow : OpR X (binaryOp .Pow) (rI CPow fun i j => .int (i ^ j.toNat)) := opI fun _ _ _ _ _ _ _ hc q => pow_int_small hc.1 hc.2.1 hc.2.2 q
theorem unI {f : Value → Sem Value} {g : Int → Int}
    (rule : ∀ (i : Int) (t : Tok) (s : Shared) (Q : Value → Shared → Prop) (E : Value → Shared → Prop), Q (.int (g i) s.toks) { s with toks := s.toks + 1 } → wpAny (model X.prog X.w) X.A (f (.int i t)) Q E s) :
    UnR X f (rU fun i => .int (g i)) := by
  intro pins s σ H x v Q I rx h
  obtain ⟨i, rfl, q⟩ := h
  obtain ⟨t, rfl⟩ := rx
  exact rule i t s _ _ ⟨.int (g i), H, I.tok _, ⟨_, rfl⟩, q⟩
theorem un_neg : UnR X (unaryOp .USub) (rU fun i => .int (-i)) := unI fun _ _ _ _ _ q => neg_int q
/-! ### bools among ints: n += (a < b) -/
end

/-! ### comparisons -/
/-- the scalars that == tells apart as data does -/
def scal : V → V → Bool
  | .non, .non => true | .non, .int _ => true | .int _, .non => true | .non, .bl _ => true | .bl _, .non => true | .non, .str _ => true | .str _, .non => true
  | .int _, .int _ => true | .bl _, .bl _ => true | .str _, .str _ => true | .byt _, .byt _ => true
  | .int _, .str _ => true | .str _, .int _ => true | .bl _, .str _ => true | .str _, .bl _ => true
  | _, _ => false
def rEq : R2 := fun x y H Q => scal x y = true ∧ Q (.bl (decide (x = y))) H
def rNe : R2 := fun x y H Q => scal x y = true ∧ Q (.bl (!decide (x = y))) H

theorem dec_int {i j : Int} : decide (V.int i = V.int j) = (i == j) := by
  rw [Bool.eq_iff_iff]
  simp
theorem dec_bl {i j : Bool} : decide (V.bl i = V.bl j) = (i == j) := by
  rw [Bool.eq_iff_iff]
  simp
theorem dec_str {i j : Str} : decide (V.str i = V.str j) = (i == j) := by
  rw [Bool.eq_iff_iff]
  simp
theorem dec_byt {i j : Array UInt8} : decide (V.byt i = V.byt j) = (i.toList == j.toList) := by
  rw [Bool.eq_iff_iff]
  cases i
  cases j
  simp

section
variable {X : Cx} {a b c : Expr} {ta tb tc : TE} {pos : Pos}
theorem fin_bl {pins : List (Addr × Obj)} {σ : St} {H : Hp} {s : Shared} {Q : VK} {k k' : Bool} (I : Inv X pins σ H s) (q : Q (.bl k) H) (e : k = k') : EP X pins σ Q (.bool k') s := by
  subst e
  exact ⟨.bl k, H, I, rfl, q⟩
theorem op_eq : OpR X (compareOp .Eq) rEq := by
  intro pins s σ H x y v u Q I rx ry h
  obtain ⟨hs, q⟩ := h
  cases x with
  | non =>
    cases rx
    cases y with
    | non => cases ry; exact PySem.EqNone.eq_none_none (fin_bl I q (by simp))
    | bl j => cases ry; exact PySem.EqNone.eq_none_bool (fin_bl I q (by simp))
    | int j => obtain ⟨t', rfl⟩ := ry; exact PySem.EqNone.eq_none_int (fin_bl I q (by simp))
    | str j => obtain ⟨t', rfl⟩ := ry; exact PySem.EqNone.eq_none_str (fin_bl I q (by simp))
    | _ => exact absurd (show false = true from hs) Bool.false_ne_true
  | bl i =>
    cases rx
    cases y with
    | non => cases ry; exact PySem.EqNone.eq_bool_none (fin_bl I q (by simp))
    | bl j => cases ry; exact eq_bool (fin_bl I q dec_bl)
    | str j => obtain ⟨t', rfl⟩ := ry; exact PySem.EqMixed.eq_bool_str (fin_bl I q (by simp))
    | _ => exact absurd (show false = true from hs) Bool.false_ne_true
  | int i =>
    obtain ⟨t, rfl⟩ := rx
    cases y with
    | non => cases ry; exact PySem.EqNone.eq_int_none (fin_bl I q (by simp))
    | int j => obtain ⟨t', rfl⟩ := ry; exact eq_int (fin_bl I q dec_int)
    | str j => obtain ⟨t', rfl⟩ := ry; exact PySem.EqMixed.eq_int_str (fin_bl I q (by simp))
    | _ => exact absurd (show false = true from hs) Bool.false_ne_true
  | str i =>
    obtain ⟨t, rfl⟩ := rx
    cases y with
    | non => cases ry; exact PySem.EqNone.eq_str_none (fin_bl I q (by simp))
    | bl j => cases ry; exact PySem.EqMixed.eq_str_bool (fin_bl I q (by simp))
    | int j => obtain ⟨t', rfl⟩ := ry; exact PySem.EqMixed.eq_str_int (fin_bl I q (by simp))
    | str j => obtain ⟨t', rfl⟩ := ry; exact eq_str (fin_bl I q dec_str)
    | _ => exact absurd (show false = true from hs) Bool.false_ne_true
  | byt i =>
    obtain ⟨t, rfl⟩ := rx
    cases y with
    | byt j => obtain ⟨t', rfl⟩ := ry; exact PySem.W.eq_bytes (fin_bl I q dec_byt)
    | _ => exact absurd (show false = true from hs) Bool.false_ne_true
  | _ => cases y <;> exact absurd (show false = true from hs) Bool.false_ne_true
theorem op_ne : OpR X (compareOp .NotEq) rNe := by
  intro pins s σ H x y v u Q I rx ry h
  obtain ⟨hs, q⟩ := h
  cases x with
  | non =>
    cases rx
    cases y with
    | non => cases ry; exact PySem.EqNone.ne_none_none (fin_bl I q (by simp))
    | bl j => cases ry; exact PySem.EqNone.ne_none_bool (fin_bl I q (by simp))
    | int j => obtain ⟨t', rfl⟩ := ry; exact PySem.EqNone.ne_none_int (fin_bl I q (by simp))
    | str j => obtain ⟨t', rfl⟩ := ry; exact PySem.EqNone.ne_none_str (fin_bl I q (by simp))
    | _ => exact absurd (show false = true from hs) Bool.false_ne_true
  | bl i =>
    cases rx
    cases y with
    | non => cases ry; exact PySem.EqNone.ne_bool_none (fin_bl I q (by simp))
    | bl j => cases ry; exact ne_bool (fin_bl I q (congrArg not dec_bl))
    | str j => obtain ⟨t', rfl⟩ := ry; exact PySem.EqMixed.ne_bool_str (fin_bl I q (by simp))
    | _ => exact absurd (show false = true from hs) Bool.false_ne_true
  | int i =>
    obtain ⟨t, rfl⟩ := rx
    cases y with
    | non => cases ry; exact PySem.EqNone.ne_int_none (fin_bl I q (by simp))
    | int j => obtain ⟨t', rfl⟩ := ry; exact ne_int (fin_bl I q (congrArg not dec_int))
    | str j => obtain ⟨t', rfl⟩ := ry; exact PySem.EqMixed.ne_int_str (fin_bl I q (by simp))
    | _ => exact absurd (show false = true from hs) Bool.false_ne_true
  | str i =>
    obtain ⟨t, rfl⟩ := rx
    cases y with
    | non => cases ry; exact PySem.EqNone.ne_str_none (fin_bl I q (by simp))
    | bl j => cases ry; exact PySem.EqMixed.ne_str_bool (fin_bl I q (by simp))
    | int j => obtain ⟨t', rfl⟩ := ry; exact PySem.EqMixed.ne_str_int (fin_bl I q (by simp))
    | str j => obtain ⟨t', rfl⟩ := ry; exact ne_str (fin_bl I q (congrArg not dec_str))
    | _ => exact absurd (show false = true from hs) Bool.false_ne_true
  | byt i =>
    obtain ⟨t, rfl⟩ := rx
    cases y with
    | byt j => obtain ⟨t', rfl⟩ := ry; exact PySem.W.ne_bytes (fin_bl I q (congrArg not dec_byt))
    | _ => exact absurd (show false = true from hs) Bool.false_ne_true
  | _ => cases y <;> exact absurd (show false = true from hs) Bool.false_ne_true

theorem op_lt : OpR X (compareOp .Lt) (rI0 fun i j => .bl (decide (i < j))) := opB0 fun _ _ _ _ _ _ _ q => lt_int q
theorem op_gt : OpR X (compareOp .Gt) (rI0 fun i j => .bl (decide (j < i))) := opB0 fun _ _ _ _ _ _ _ q => gt_int q
theorem op_ge : OpR X (compareOp .GtE) (rI0 fun i j => .bl (decide (j ≤ i))) := opB0 fun _ _ _ _ _ _ _ q => ge_int q
/-- the one string within the other -/
theorem op_in_str : OpR X (compareOp .In) (fun x y H Q => ∃ i j, x = .str i ∧ y = .str j ∧ Q (.bl (!(Builtin.Str.occurrences j i 0 j.length 1).isEmpty)) H) := by
  intro pins s σ H x y v u Q I rx ry h
  obtain ⟨i, j, rfl, rfl, q⟩ := h
  obtain ⟨t, rfl⟩ := rx
  obtain ⟨t', rfl⟩ := ry
  exact in_str (fin_bl I q rfl)

/-- is None, is not None: the right side a value none -/
theorem op_isN : OpR X (compareOp .Is) (fun x y H Q => y = .non ∧ Q (.bl (decide (x = .non))) H) := by
  intro pins s σ H x y v u Q I rx ry h
  obtain ⟨rfl, q⟩ := h
  cases ry
  refine is_none_gen (fin_bl I q ?_)
  cases x <;> first
    | (cases rx; rfl)
    | (obtain ⟨t, rfl⟩ := rx; rfl)
theorem op_notN : OpR X (compareOp .IsNot) (fun x y H Q => y = .non ∧ Q (.bl (!decide (x = .non))) H) := by
  intro pins s σ H x y v u Q I rx ry h
  obtain ⟨rfl, q⟩ := h
  cases ry
  refine isnot_none_gen (fin_bl I q ?_)
  cases x <;> first
    | (cases rx; rfl)
    | (obtain ⟨t, rfl⟩ := rx; rfl)

/-- is, is not of two objects that are tracked lists or instances -/
def isObj : HO → Bool
  | .lst _ => true
  | .ins _ _ _ => true
  | _ => false
/-- two rules for one operation: by cases -/
theorem OpR.or {f : Value → Value → Sem Value} {r r' : R2} (h : OpR X f r) (h' : OpR X f r') : OpR X f (fun x y H Q => r x y H Q ∨ r' x y H Q) := by
  intro pins s σ H x y v u Q I rx ry q
  rcases q with q | q
  · exact h pins s σ H x y v u Q I rx ry q
  · exact h' pins s σ H x y v u Q I rx ry q

theorem nomark (b : Expr) {op : CmpOp} (h : op ≠ .In := by decide) (h2 : op ≠ .NotIn := by decide) : behindInMarks op b = false := by
  have e1 : (op == CmpOp.In) = false := by cases op <;> first | rfl | exact absurd rfl h
  have e2 : (op == CmpOp.NotIn) = false := by cases op <;> first | rfl | exact absurd rfl h2
  cases b <;> simp [behindInMarks, e1, e2]
/-- a comparison as a value; hm: nomark b, or (for in, not in) by with_unfolding_all rfl -/
theorem pe_cmpR {op : CmpOp} {r : R2} (ho : OpR X (compareOp op) r) (ha : PE X a ta) (hb : PE X b tb) (hm : behindInMarks op b = false) : PE X (.Compare a [op] [b] pos) (tOp r ta tb) := by
  intro pins s σ H Q I h
  exact wpAny_Compare1 (binT ha hb I h fun v u s2 x y H2 I2 rx ry q => ho pins s2 σ H2 x y v u Q I2 rx ry q) hm
/-- a reading of a value as a test -/
def tTest (t : TE) : TT := fun σ H Q => t σ H fun x H' => ∃ k, x = .bl k ∧ Q k H'
theorem pt_cmpR {op : CmpOp} {r : R2} (ho : OpR X (compareOp op) r) (ha : PE X a ta) (hb : PE X b tb) (hm : behindInMarks op b = false) : PT X (.Compare a [op] [b] pos) (tTest (tOp r ta tb)) := by
  intro pins s σ H Q I h
  refine wpAny_isTrue_Compare1 (thn (ha pins s σ H _ I h) fun v s1 ⟨x, H1, I1, r1, q1⟩ => thn (hb pins s1 σ H1 _ I1 q1) fun u s2 ⟨y, H2, I2, r2, q2⟩ =>
    thn (ho pins s2 σ H2 x y v u _ I2 r1 r2 q2) fun c s3 ⟨z, H3, I3, r3, k, e, q3⟩ => ?_) hm
  subst e
  cases r3
  exact wpAny_truthy_bool ⟨H3, I3, q3⟩
/-- a op1 b op2 c -/
def tChain (r r' : R2) (ta tb tc : TE) : TE := fun σ H Q => ta σ H fun x H1 => tb σ H1 fun y H2 => r x y H2 fun z H3 => ∃ k, z = .bl k ∧
  (if k = true then tc σ H3 fun w' H4 => r' y w' H4 Q else Q (.bl false) H3)
/-! ### truth -/
/-- a value's truth by the abstract heap -/
def TruV (K : PySem.W.Frag) (x : V) (H : Hp) (k : Bool) : Prop :=
  match x with
  | .non => k = false
  | .bl b => k = b
  | .int i => k = (i != 0)
  | .str y => y.length ≤ sizeLine ∧ k = ((y.length : Int) != 0)
  | .byt y => y.size ≤ sizeLine ∧ k = ((y.size : Int) != 0)
  | .ref p => (∃ xs, SqL K H p xs ∧ k = !xs.isEmpty) ∨ (∃ xs, SqT K H p xs ∧ k = !xs.isEmpty) ∨ ∃ kvs, H p = some (.dK kvs) ∧ k = !kvs.isEmpty
  | _ => False
theorem line63 : (sizeLine : Nat) < 2 ^ 63 := by rw [sizeLine_eq]; decide
/-! ### strs and bytes -/
theorem op_add_str : OpR X (binaryOp .Add) (fun x y H Q => ∃ i j, x = .str i ∧ y = .str j ∧ i.length + j.length ≤ sizeLine ∧ Q (.str (i ++ j)) H) := by
  intro pins s σ H x y v u Q I rx ry h
  obtain ⟨i, j, rfl, rfl, hz, q⟩ := h
  obtain ⟨t, rfl⟩ := rx
  obtain ⟨t', rfl⟩ := ry
  exact add_str (fun t' tk => ⟨.str (i ++ j), H, I.tok _, ⟨_, rfl⟩, q⟩) hz
def PlainIxT (b : Expr) : Prop := ∀ o i, subscripted b false o i = operate [o, i] (getItem o i)
/-! ### scalar builtins, by CallR -/
theorem vals1 {x : V} {us : List Value} (r : Vals [x] us) : ∃ u, us = [u] ∧ RelV x u := by
  cases r with
  | cons r1 r2 => cases r2; exact ⟨_, rfl, r1⟩
theorem call_abs : CallR X (.builtin "abs") (fun xs H Q => ∃ i, xs = [.int i] ∧ Q (.int (if i < 0 then -i else i)) H) := by
  intro pins s σ H xs us Q I r h
  obtain ⟨i, rfl, q⟩ := h
  obtain ⟨u, rfl, t, rfl⟩ := vals1 r
  exact call_abs_int fun u tk => ⟨.int (if i < 0 then -i else i), H, I.tok _, ⟨_, rfl⟩, q⟩
theorem call_int1 : CallR X (.type "int") (fun xs H Q => (∃ i, xs = [.int i] ∧ Q (.int i) H) ∨ ∃ k, xs = [.bl k] ∧ Q (.int (if k then 1 else 0)) H) := by
  intro pins s σ H xs us Q I r h
  rcases h with ⟨i, rfl, q⟩ | ⟨k, rfl, q⟩
  · obtain ⟨u, rfl, t, rfl⟩ := vals1 r
    exact call_int_int ⟨.int i, H, I, ⟨_, rfl⟩, q⟩
  · obtain ⟨u, rfl, r1⟩ := vals1 r
    cases r1
    exact call_int_bool ⟨.int (if k then 1 else 0), H, I.tok _, ⟨_, rfl⟩, q⟩
theorem call_str_int : CallR X (.type "str") (fun xs H Q => ∃ i, xs = [.int i] ∧ i.natAbs.log2 < 1920 ∧ Q (.str (toString i)) H) := by
  intro pins s σ H xs us Q I r h
  obtain ⟨i, rfl, hz, q⟩ := h
  obtain ⟨u, rfl, t, rfl⟩ := vals1 r
  exact PySem.P.str_of_int hz ⟨.str _, H, I.tok _, ⟨_, rfl⟩, q⟩
/-- len of a str, a bytes, a list, a tuple -/
def LenV (K : PySem.W.Frag) (x : V) (H : Hp) (n : Nat) : Prop :=
  match x with
  | .str y => y.length ≤ sizeLine ∧ n = y.length
  | .byt y => y.size ≤ sizeLine ∧ n = y.size
  | .ref p => (∃ xs, SqL K H p xs ∧ n = xs.length) ∨ ∃ xs, SqT K H p xs ∧ n = xs.length
  | _ => False
end
end L2

namespace L2
open PySem PySem.Spec PyProof.Rows

/-! ### an instance, its attributes a map -/
structure ObjM (h : Heap) (x dx C : Addr) (mA : Str → Option Value) : Prop where
  obj : h.get? x = some (PySem.W.instObj C dx)
  ns : h.Ns1 dx mA
  ne : dx ≠ x

theorem lookIn_ns {h : Heap} {dx : Addr} {mA : Str → Option Value} (n : h.Ns1 dx mA) : ∃ od, h.get? dx = some od ∧ ∀ name, PySem.W.lookIn name od = some (mA name) := by
  obtain ⟨o, es, ep, ho, hd, hk, _, hm⟩ := n
  refine ⟨o, ho, fun name => ?_⟩
  have e := hm name
  unfold nsFind findBy at e
  rw [← Array.find?_toList] at e
  unfold PySem.W.lookIn
  rw [hd]
  dsimp only
  split
  · rename_i y q
    rw [q] at e
    exact congrArg some e
  · rename_i q
    rw [q] at e
    have a : es.toList.any (·.refKey) = false := by
      rw [List.any_eq_false]
      intro y hy
      obtain ⟨z, t, hkey⟩ := hk y (Array.mem_toList_iff.mp hy)
      simp [DictEntry.refKey, hkey]
    have a' : ¬ es.toList.any (·.refKey) = true := by rw [a]; exact Bool.false_ne_true
    rw [if_neg a']
    exact congrArg some e

theorem ObjM.look {h : Heap} {x dx C : Addr} {mA : Str → Option Value} (I : ObjM h x dx C mA) : ∃ od, PySem.W.InstAt h x (PySem.W.instObj C dx) C (some od) ∧ ∀ name, PySem.W.lookIn name od = some (mA name) :=
  let ⟨od, ho, hl⟩ := lookIn_ns I.ns
  ⟨od, ⟨I.obj, rfl, rfl, ho⟩, hl⟩

section
variable {prog : Program} {w : World} {A : Around} {E : Value → Shared → Prop} {s : Shared} {K : PySem.W.Frag} {x dx C f : Addr} {mA : Str → Option Value} {name : Str} {v : Value}

end

/-! ### the attributes as a list of pairs -/
def putF (f : Str) (v : V) : List (Str × V) → List (Str × V)
  | [] => [(f, v)]
  | (g, x) :: r => if g = f then (g, v) :: r else (g, x) :: putF f v r
section
variable {P : Program} {w : World} {H H' : Hp} {h h' : Heap} {a C dx : Addr} {fs fs' : List (Str × V)}
theorem ins_get (hok : HOk P w H h) (e : H a = some (.ins C dx fs)) : ∃ mA, ObjM h a dx C mA ∧ (∀ f, RelO (fs.lookup f) (mA f)) ∧ PySem.Within mA (fs.map (·.1)) ∧ fs.length ≤ 1000 ∧ H dx = some (.own a) := by
  obtain ⟨d, z, ne, ob, mA, n, r, q⟩ := (show ObjOk P w H h a (.ins C dx fs) from hok a _ e)
  exact ⟨mA, ⟨ob, n, ne⟩, r, q, z, d⟩
end

/-! ### what of the text a class must have -/
structure Cls (K : PySem.W.Frag) (C : Addr) : Prop where
  pg : PySem.W.plainGet K C Str.empty = true
  hd : PySem.W.hasDictIn K C = true
  po : PySem.W.plainOver K C = true
  sa : PySem.W.findIn K (.ref C) "__setattr__" = some (some (.builtin "object.__setattr__"))
theorem Cls.get {K : PySem.W.Frag} {C : Addr} (c : Cls K C) (f : Str) : PySem.W.plainGet K C f = true := c.pg
/-- no class of it has the name -/
def NoAttr (K : PySem.W.Frag) (C : Addr) (f : Str) : Prop := PySem.W.findIn K (.ref C) f = some none
/-- a constant of the class -/
structure Con (K : PySem.W.Frag) (C : Addr) (f : Str) (v : V) (u : Value) : Prop where
  at_ : PySem.W.findIn K (.ref C) f = some (some u)
  rel : RelV v u
  get : PySem.W.specialIn K u "__get__" = some none
  cp : PySem.W.copiedNames.contains f = false
/-- a method: a plain def of the class or of one above it -/
structure Meth (K : PySem.W.Frag) (C : Addr) (m : Str) (f : Addr) : Prop where
  at_ : PySem.W.findIn K (.ref C) m = some (some (.ref f))
  fn : PySem.W.isFn K (.ref f) = true
  kp : PySem.W.keepIn K (.ref f) = true

section
variable {X : Cx} {pins : List (Addr × Obj)} {σ : St} {H : Hp} {s : Shared} {a C dx : Addr} {fs : List (Str × V)} {f : Str} {v : V} {A : Around} {E : Value → Shared → Prop}

/-- a new instance, tracked, without attributes -/
theorem Inv.made (I : Inv X pins σ H s) : Inv X pins σ (upd (upd H s.heap.objs.size (.own (s.heap.objs.size + 1))) (s.heap.objs.size + 1) (.ins C s.heap.objs.size []))
    { s with heap := (s.heap.push PySem.W.emptyDict).push (PySem.W.instObj C s.heap.objs.size) } := by
  have e1 : (s.heap.push PySem.W.emptyDict).get? s.heap.objs.size = some PySem.W.emptyDict := Heap.get?_push_size s.heap rfl
  have e2 : ((s.heap.push PySem.W.emptyDict).push (PySem.W.instObj C s.heap.objs.size)).get? (s.heap.objs.size + 1) = some (PySem.W.instObj C s.heap.objs.size) := by
    have := Heap.get?_push_size (s.heap.push PySem.W.emptyDict) (o := PySem.W.instObj C s.heap.objs.size) rfl
    rwa [Heap.size_push] at this
  have e3 : (s.heap.push PySem.W.emptyDict).Ns s.heap.objs.size (fun _ => none) := ⟨PySem.W.emptyDict, #[], _, e1, rfl, (fun e he => absurd he (by simp)), fun _ => rfl⟩
  have I1 := I.laid (a := s.heap.objs.size) (o := .own (s.heap.objs.size + 1)) (h' := s.heap.push PySem.W.emptyDict) (t' := s.toks) (fun b u q => Heap.get?_push_of_some _ q) (Nat.le_refl _) ⟨_, e1⟩
  refine I1.laid (a := s.heap.objs.size + 1) (o := .ins C s.heap.objs.size []) (t' := s.toks) (fun b u q => Heap.get?_push_of_some _ q) (Nat.le_of_eq (Heap.size_push _ _)) ?_
  have ne : s.heap.objs.size ≠ s.heap.objs.size + 1 := Nat.ne_of_lt (Nat.lt_succ_self _)
  refine ⟨by rw [upd_ne ne, upd_same], Nat.zero_le _, ne, e2, fun _ => none, (Heap.Ns1.of_empty e3).at fun o q => Heap.get?_push_of_some _ q, fun _ => True.intro, fun y hy => absurd rfl hy⟩

end

/-! ### readings and rules -/
/-- e.f, an attribute of the instance -/
def tFld (K : PySem.W.Frag) (ta : TE) (f : Str) : TE := fun σ H Q => ta σ H fun x H1 => ∃ a C dx fs v, x = .ref a ∧ H1 a = some (.ins C dx fs) ∧ Cls K C ∧ NoAttr K C f ∧ fs.lookup f = some v ∧ Q v H1
/-- e.f, a constant of the class -/
def tCon (K : PySem.W.Frag) (ta : TE) (f : Str) : TE := fun σ H Q => ta σ H fun x H1 => ∃ a C dx fs v u, x = .ref a ∧ H1 a = some (.ins C dx fs) ∧ Cls K C ∧ Con K C f v u ∧ fs.lookup f = none ∧ Q v H1
/-- e.f = value -/
def sFld (K : PySem.W.Frag) (ta tv : TE) (f : Str) : TS := fun D σ H => tv σ H fun y H1 => ta σ H1 fun x H2 => ∃ a C dx fs, x = .ref a ∧ H2 a = some (.ins C dx fs) ∧ Cls K C ∧ NoAttr K C f ∧ fs.length < 1000 ∧
  D.nx σ (upd H2 a (.ins C dx (putF f y fs)))
/-- an augmented operator on two values -/
def InOp (X : Cx) (op : Operator) (rd : V → V → Hp → VK → Prop) : Prop :=
  ∀ (pins : List (Addr × Obj)) (s : Shared) (σ : St) (H : Hp) (x y : V) (u v : Value) (Q : VK), Inv X pins σ H s → RelV x u → RelV y v → rd x y H Q → wpAny (model X.prog X.w) X.A (inplaceOp op u v) (EP X pins σ Q) X.xe s
/-- e.f op= value -/
def sFldAug (K : PySem.W.Frag) (ta tv : TE) (rd : V → V → Hp → VK → Prop) (f : Str) : TS := fun D σ H => ta σ H fun x H1 => ∃ a C dx fs v, x = .ref a ∧ H1 a = some (.ins C dx fs) ∧ Cls K C ∧ NoAttr K C f ∧ fs.lookup f = some v ∧
  tv σ H1 fun y H2 => rd v y H2 fun z H3 => ∃ dx' fs', H3 a = some (.ins C dx' fs') ∧ fs'.length < 1000 ∧ D.nx σ (upd H3 a (.ins C dx' (putF f z fs')))

section
variable {X : Cx} {o e value : Expr} {f : Str} {pos pos' tpos : Pos} {ta tv : TE}
def rAdd : V → V → Hp → VK → Prop := fun x y H Q => ∃ i j, x = .int i ∧ y = .int j ∧ Q (.int (i + j)) H
def rSub : V → V → Hp → VK → Prop := fun x y H Q => ∃ i j, x = .int i ∧ y = .int j ∧ Q (.int (i - j)) H
end

/-! ### isinstance -/
section
variable {X : Cx} {pins : List (Addr × Obj)} {σ : St} {H : Hp} {s : Shared} {A : Around} {E : Value → Shared → Prop} {Q : Value → Shared → Prop} {c : Value} {b : Bool}
/-- the type of a value, as the fragment's deciders take it; for an instance its class -/
inductive TyOf (K : PySem.W.Frag) (H : Hp) : V → Value → Prop where
  | non : TyOf K H .non (.type "NoneType")
  | bl (x : Bool) : TyOf K H (.bl x) (.type "bool")
  | int (i : Int) : TyOf K H (.int i) (.type "int")
  | str (x : Str) : TyOf K H (.str x) (.type "str")
  | flt (x : UInt64) : TyOf K H (.flt x) (.type "float")
  | lst {a : Addr} {xs : List V} (e : H a = some (.lst xs)) : TyOf K H (.ref a) (.type "list")
  | frz {a : Addr} {o : Obj} {xs : List V} (e : H a = some (.frz o (.lst xs))) : TyOf K H (.ref a) (.type "list")
  | tup {a : Addr} {xs : List V} (e : H a = some (.tup xs)) : TyOf K H (.ref a) (.type "tuple")
  | dK {a : Addr} {kvs : List (Key × V)} (e : H a = some (.dK kvs)) : TyOf K H (.ref a) (.type "dict")
  | dT {a : Addr} {kvs : List (List Key × V)} (e : H a = some (.dT kvs)) : TyOf K H (.ref a) (.type "dict")
  | ins {a C dx : Addr} {fs : List (Str × V)} (e : H a = some (.ins C dx fs)) (cl : Cls K C) (ha : PySem.W.findIn K (.ref C) "__class__" = some (some (.builtin "object.__class__")))
      (hn : PySem.W.specialIn K (.builtin "object.__class__") "__get__" = some (some (.builtin "getset_descriptor.__get__"))) (htk : PySem.W.takesIn K (.builtin "object.__class__") = some true)
      (hm : PySem.W.mroIn K C (.type "object") = some true) : TyOf K H (.ref a) (.ref C)
/-- isinstance(x, c) for one class c, a built-in or an own one: kitOne's answer -/
theorem isinst_ok {x : V} {u t : Value} (I : Inv X pins σ H s) (rx : RelV x u) (ty : TyOf X.K H x t) (e : PySem.W.kitOne X.K t c = some b) (h : ∀ tk, Q (.bool b) { s with toks := tk }) :
    wpAny (model X.prog X.w) A (call (.builtin "isinstance") [u, c]) Q E s := by
  cases ty with
  | non => cases (show u = Value.none from rx); exact PySem.W.kia_one PySem.W.kitx_none I.kIn True.intro e (fun z => nomatch z) h
  | bl y => cases (show u = Value.bool y from rx); exact PySem.W.kia_one PySem.W.kitx_bool I.kIn True.intro e (fun z => nomatch z) h
  | int i => obtain ⟨t, q⟩ := (show ∃ t, u = Value.int i t from rx); cases q; exact PySem.W.kia_one PySem.W.kitx_int I.kIn True.intro e (fun z => nomatch z) h
  | str y => obtain ⟨t, q⟩ := (show ∃ t, u = Value.str y t from rx); cases q; exact PySem.W.kia_one PySem.W.kitx_str I.kIn True.intro e (fun z => nomatch z) h
  | flt y => obtain ⟨t, q⟩ := (show ∃ t, u = Value.float y t from rx); cases q; exact PySem.W.kia_one PySem.W.kitx_float I.kIn True.intro e (fun z => nomatch z) h
  | @lst a xs ea =>
    cases (show u = Value.ref a from rx)
    obtain ⟨_, _, n, _, h1⟩ := (show ObjOk X.prog X.w H s.heap a (.lst xs) from I.hok a _ ea)
    exact PySem.W.kia_one PySem.W.kitx_list I.kIn ⟨_, h1, rfl⟩ e (fun z => nomatch z) h
  | @frz a ob xs ea =>
    cases (show u = Value.ref a from rx)
    obtain ⟨_, _, _, n, _, h1⟩ := (show ObjOk X.prog X.w H s.heap a (.frz ob (.lst xs)) from I.hok a _ ea)
    exact PySem.W.kia_one PySem.W.kitx_list I.kIn ⟨_, h1, rfl⟩ e (fun z => nomatch z) h
  | @tup a xs ea =>
    cases (show u = Value.ref a from rx)
    obtain ⟨_, _, _, p⟩ := (show ObjOk X.prog X.w H s.heap a (.tup xs) from I.hok a _ ea)
    obtain ⟨o, h1, h2, _⟩ := p
    exact PySem.W.kia_one PySem.W.kitx_tuple I.kIn ⟨o, h1, h2⟩ e (fun z => nomatch z) h
  | @dK a kvs ea =>
    cases (show u = Value.ref a from rx)
    obtain ⟨_, _, vs, _, p⟩ := (show ObjOk X.prog X.w H s.heap a (.dK kvs) from I.hok a _ ea)
    obtain ⟨o, es, ep, h1, h2, _⟩ := p
    exact PySem.W.kia_one PySem.W.kitx_dict I.kIn ⟨o, h1, h2.1⟩ e (fun z => nomatch z) h
  | @dT a kvs ea =>
    cases (show u = Value.ref a from rx)
    obtain ⟨_, _, xs, _, o, es, ep, h1, h2, _⟩ := (show ObjOk X.prog X.w H s.heap a (.dT kvs) from I.hok a _ ea)
    exact PySem.W.kia_one PySem.W.kitx_dict I.kIn ⟨o, h1, h2.1⟩ e (fun z => nomatch z) h
  | @ins a C dx fs ea cl ha hn htk hm =>
    cases (show u = Value.ref a from rx)
    obtain ⟨mA, O, _⟩ := ins_get I.hok ea
    obtain ⟨od, J, _⟩ := O.look
    exact PySem.W.kia_one (PySem.W.kitx_own (cl.get _) cl.hd ha hn htk hm) I.kIn J e (fun z => nomatch z) h
end
end L2

namespace L2
open PySem PySem.Spec PyProof.Rows

/-! ### room -/
structure Room (k : Nat) (A : Around) : Prop where
  hd : A.handled = none
  dp : A.depth + 3 * k + 5 < recursionLimit
  un : A.units + 16 * k + 200 < cLine
theorem Room.mono {j k : Nat} {A : Around} (r : Room k A) (h : j ≤ k) : Room j A := ⟨r.hd, by have := r.dp; omega, by have := r.un; omega⟩
theorem Room.deeper {k : Nat} {A : Around} (r : Room (k + 1) A) (env : Env) : Room k (A.deeper env) :=
  ⟨r.hd, by have := r.dp; show A.depth + 1 + 3 * k + 5 < _; omega, by have := r.un; show A.units + 3 + 16 * k + 200 < _; omega⟩
theorem Room.in1 {k : Nat} {A : Around} (r : Room (k + 1) A) : Room k A.in1 :=
  ⟨r.hd, by have := r.dp; show A.depth + 3 * k + 5 < _; omega, by have := r.un; show A.units + 1 + 16 * k + 200 < _; omega⟩
theorem make_depth {A : Around} {C : Addr} {us : List Value} {kw : List (Str × Value)} : (A.under (.builtin "type.__call__" ⟨.ref C :: us, kw⟩)).depth = A.depth + 1 := by
  first | rfl | simp [Around.under, Code.weight, Code.isCreation, Code.isGuard, Code.isCaller, Code.frames, Code.isFrame, guardIds]
theorem make_units {A : Around} {C : Addr} {us : List Value} {kw : List (Str × Value)} : (A.under (.builtin "type.__call__" ⟨.ref C :: us, kw⟩)).units = A.units + 1 := by
  first | rfl | simp [Around.under, Code.cUnits, Code.frames, Code.isFrame]
theorem Room.make {k : Nat} {A : Around} (r : Room (k + 1) A) (C : Addr) (us : List Value) (kw : List (Str × Value)) : Room k (A.under (.builtin "type.__call__" ⟨.ref C :: us, kw⟩)) :=
  ⟨r.hd, by have := r.dp; rw [make_depth]; omega, by have := r.un; rw [make_units]; omega⟩
theorem Room.depth {k : Nat} {A : Around} (r : Room k A) : A.depth < recursionLimit := by have := r.dp; omega
theorem Room.units {k : Nat} {A : Around} (r : Room k A) : A.units + 64 < cLine := by have := r.un; omega
/-! ### argument lists and displays -/
def tNil : TA := fun _ H Q => Q [] H
def tCons (ta : TE) (tr : TA) : TA := fun σ H Q => ta σ H fun x H1 => tr σ H1 fun xs H2 => Q (x :: xs) H2
section
variable {X : Cx} {e : Expr} {es : List Expr} {te : TE} {t : TA} {pos : Pos}
theorem pa_nil : PA X [] tNil := fun _ _ _ _ H Q I h => Calls.spliced_nil ⟨[], H, I, .nil, h⟩
theorem pa_cons (ha : PE X e te) (hr : PA X es t) (hs : starEach (e :: es) X.env = (false, eval e X.env) :: starEach es X.env := by rfl) : PA X (e :: es) (tCons te t) := by
  intro pos pins s σ H Q I h
  rw [hs]
  show wpAny _ _ (spliced ((false, eval e X.env) :: backTo pos (starEach es X.env))) _ _ s
  refine Calls.spliced_cons (thn (ha pins s σ H _ I h) fun u s1 ⟨x, H1, I1, r1, q1⟩ => ?_)
  exact thn (hr pos pins s1 σ H1 _ I1 q1) fun us s2 ⟨xs, H2, I2, r2, q2⟩ => ⟨x :: xs, H2, I2, .cons r1 r2, q2⟩

/-- a tuple, a list of written items -/
def tTup (t : TA) : TE := fun σ H Q => t σ H fun xs H1 => xs.length ≤ sizeLine ∧ ∀ p, H1 p = none → Q (.ref p) (upd H1 p (.tup xs))
def tLst (t : TA) : TE := fun σ H Q => t σ H fun xs H1 => xs.length ≤ sizeLine ∧ ∀ p, H1 p = none → Q (.ref p) (upd H1 p (.lst xs))
theorem pe_tup {x1} (h : PA X es t) : PE X (.Tuple es x1 pos) (tTup t) := by
  intro pins s σ H Q I hq
  refine wpAny_Tuple_spliced (thn (h pos pins s σ H _ I hq) fun us s1 ⟨xs, H1, I1, r, z, q⟩ => ⟨by rw [← r.length]; exact z, ?_⟩)
  have hf : H1 s1.heap.objs.size = none := I1.hok.fresh (Nat.le_refl _)
  refine ⟨.ref s1.heap.objs.size, upd H1 s1.heap.objs.size (.tup xs), I1.laid (t' := s1.toks) (fun b u e => Heap.get?_push_of_some _ e) (Nat.le_refl _) ?_, rfl, q _ hf⟩
  exact ⟨z, us, r, ⟨_, Heap.get?_push_size _ rfl, rfl, _, rfl⟩⟩
theorem pe_lst (h : PA X es t) : PE X (.List es pos) (tLst t) := by
  intro pins s σ H Q I hq
  refine wpAny_List_spliced (thn (h pos pins s σ H _ I hq) fun us s1 ⟨xs, H1, I1, r, z, q⟩ => ⟨by rw [← r.length]; exact z, ?_⟩)
  have hf : H1 s1.heap.objs.size = none := I1.hok.fresh (Nat.le_refl _)
  refine ⟨.ref s1.heap.objs.size, upd H1 s1.heap.objs.size (.lst xs), I1.laid (t' := s1.toks) (fun b u e => Heap.get?_push_of_some _ e) (Nat.le_refl _) ?_, rfl, q _ hf⟩
  exact ⟨z, us, 0, r, Heap.get?_push_size _ rfl⟩
end

/-! ### what a def promises -/
/-- a def's promise: the bound arguments in the parameters' order, the heap, the wanted end, the wanted exception -/
abbrev Sp := List V → Hp → VK → XK → Prop
/-- how an exception lies behind a call (file 08 gives it): the callers' frames, abstract heap and state ahead of the call, the wish, the exception, the state -/
abbrev CXT := List Env → Hp → Shared → XK → Value → Shared → Prop

/-- the state at a call -/
structure Env0 (P : Program) (w : World) (K : PySem.W.Frag) (mg : Str → Option Value) (base : Heap) (A : Around) (outer : List Env) (s : Shared) (H : Hp) : Prop where
  frames : A.frames = some outer
  mod : Mod K mg base
  bs : ∀ b o, base.get? b = some o → s.heap.get? b = some o ∧ H b = none
  bsz : base.objs.size ≤ s.heap.objs.size
  funs : s.heap.FunFrames base outer
  frf : ∀ b ∈ frs outer, H b = none
  hok : HOk P w H s.heap
  bare : AllBare s.gens
/-- a call's end -/
def CE (outer : List Env) (P : Program) (w : World) (H : Hp) (s : Shared) (Q : VK) (u : Value) (s' : Shared) : Prop :=
  ∃ v H', s'.os = s.os ∧ AllBare s'.gens ∧ Un (frs outer) [] H H' s.heap s'.heap ∧ HOk P w H' s'.heap ∧ RelV v u ∧ Q v H'
def CR (CX : CXT) (outer : List Env) (P : Program) (w : World) (H : Hp) (s : Shared) (Q : VK) (E : XK) (r : Result) (s' : Shared) : Prop :=
  match r with
  | .ok (.ret u) => CE outer P w H s Q u s'
  | .ok _ => False
  | .error e => CX outer H s E e s'
structure FnOk (P : Program) (w : World) (K : PySem.W.Frag) (mg : Str → Option Value) (base : Heap) (CX : CXT) (k : Nat) (f : Addr) (fd : FuncData) (ps : List Str) (sp : Sp) : Prop where
  len : ∀ vs H Q E, sp vs H Q E → vs.length = ps.length
  run : ∀ (A : Around) (outer : List Env) (s : Shared) (H : Hp) (args : Args) (us : List Value) (vs : List V) (Q : VK) (E : XK), Room k A → Env0 P w K mg base A outer s H → BindsTo s fd args (ps.zip us) → Vals vs us → sp vs H Q E →
    codeAny (model P w) A (.call (.ref f) args) (CR CX outer P w H s Q E) s
theorem FnOk.mono {P : Program} {w : World} {K : PySem.W.Frag} {mg : Str → Option Value} {base : Heap} {CX : CXT} {j k : Nat} {f : Addr} {fd : FuncData} {ps : List Str} {sp : Sp} (F : FnOk P w K mg base CX j f fd ps sp) (h : j ≤ k) :
    FnOk P w K mg base CX k f fd ps sp := ⟨F.len, fun A outer s H args us vs Q E hr => F.run A outer s H args us vs Q E (hr.mono h)⟩
/-- a weaker promise -/
theorem FnOk.imp {P : Program} {w : World} {K : PySem.W.Frag} {mg : Str → Option Value} {base : Heap} {CX : CXT} {k : Nat} {f : Addr} {fd : FuncData} {ps : List Str} {sp sp' : Sp} (F : FnOk P w K mg base CX k f fd ps sp)
    (h : ∀ vs H Q E, sp' vs H Q E → sp vs H Q E) : FnOk P w K mg base CX k f fd ps sp' :=
  ⟨fun vs H Q E q => F.len vs H Q E (h _ _ _ _ q), fun A outer s H args us vs Q E hr he hb hv hs => F.run A outer s H args us vs Q E hr he hb hv (h _ _ _ _ hs)⟩

theorem Env0.make {P : Program} {w : World} {K : PySem.W.Frag} {mg : Str → Option Value} {base : Heap} {A : Around} {outer : List Env} {s : Shared} {H : Hp} (e : Env0 P w K mg base A outer s H) (C : Addr) (us : List Value) (kw : List (Str × Value)) :
    Env0 P w K mg base (A.under (.builtin "type.__call__" ⟨.ref C :: us, kw⟩)) outer s H := ⟨by first | exact e.frames | (simpa [Around.under, Code.envs, Code.isFrame, pushEnvs] using e.frames), e.mod, e.bs, e.bsz, e.funs, e.frf, e.hok, e.bare⟩
theorem Env0.in1 {P : Program} {w : World} {K : PySem.W.Frag} {mg : Str → Option Value} {base : Heap} {A : Around} {outer : List Env} {s : Shared} {H : Hp} (e : Env0 P w K mg base A outer s H) :
    Env0 P w K mg base A.in1 outer s H := ⟨e.frames, e.mod, e.bs, e.bsz, e.funs, e.frf, e.hok, e.bare⟩

section
variable {X : Cx} {pins : List (Addr × Obj)} {σ : St} {H : Hp} {s s' : Shared}
/-- from a body: what a callee wants -/
theorem Inv.env0 (I : Inv X pins σ H s) : Env0 X.prog X.w X.K X.mg X.base X.A X.stack s H :=
  ⟨I.ok.frames, I.ok.mod, I.bs, Nat.le_trans I.ok.bsz I.sz, I.stack, I.stkFree, I.hok, I.bare⟩
/-- behind a call -/
theorem Inv.after {Q : VK} {u : Value} (I : Inv X pins σ H s) (h : CE X.stack X.prog X.w H s Q u s') : EP X pins σ Q u s' := by
  obtain ⟨v, H', os, bare, un, hok, r, q⟩ := h
  obtain ⟨hh, g, d, t, os'⟩ := s'
  obtain rfl : os' = s.os := os
  exact ⟨v, H', I.call (h' := hh) (g' := g) (d' := d) (t' := t) (ch := []) un hok bare (fun b z => absurd z (by simp)), r, q⟩
end

/-! ### calls -/
/-- f(..): the written arguments, then the defaults dvs; E: what is wanted of an exception -/
def tCall (sp : Sp) (dvs : List V) (E : XK) (t : TA) : TE := fun σ H Q => t σ H fun vs H1 => sp (vs ++ dvs) H1 Q E
/-- o.m(..) of an instance of the class at C -/
def tMeth (C : Addr) (m : Str) (sp : Sp) (dvs : List V) (E : XK) (ta : TE) (t : TA) : TE := fun σ H Q => ta σ H fun x H1 => ∃ a dx fs, x = .ref a ∧ H1 a = some (.ins C dx fs) ∧ fs.lookup m = none ∧
  t σ H1 fun vs H2 => sp (x :: (vs ++ dvs)) H2 Q E
/-- C(..): a new instance and its dict, then __init__ -/
def tMake (C : Addr) (sp : Sp) (dvs : List V) (E : XK) (t : TA) : TE := fun σ H Q => t σ H fun vs H1 => ∀ x dx, H1 x = none → H1 dx = none → dx ≠ x →
  sp (.ref x :: (vs ++ dvs)) (upd (upd H1 dx (.own x)) x (.ins C dx [])) (fun v H2 => v = .non ∧ Q (.ref x) H2) E

/-- how the parameters are bound: us the positional arguments, kw the keywords' values by name, ds the defaults that fill up -/
def Binds (K : PySem.W.Frag) (fd : FuncData) (ps : List Str) (ds : List Value) : Prop :=
  ∀ (s : Shared) (us : List Value), K.In s.heap → (us ++ ds).length = ps.length → BindsTo s fd ⟨us, []⟩ (ps.zip (us ++ ds))
/-- every parameter is given -/
theorem Binds.all {K : PySem.W.Frag} {fd : FuncData} {ps : List Str} (h : ∀ us : List Value, us.length = ps.length → bindArgs fd ⟨us, []⟩ = pure (ps.zip us)) : Binds K fd ps [] := fun s us _ hl => by
  rw [List.append_nil] at hl ⊢
  exact .of_eq (h us hl)

/-- an exception of a callee reaches what this body wants of exceptions -/
def Passes (CX : CXT) (X : Cx) (E : XK) : Prop := ∀ (pins : List (Addr × Obj)) (σ : St) (H : Hp) (s : Shared) (e : Value) (s' : Shared), Inv X pins σ H s → CX X.stack H s E e s' → X.xe e s'

section
variable {X : Cx} {CX : CXT} {k : Nat} {f C : Addr} {fd : FuncData} {ps : List Str} {sp : Sp} {dvs : List V} {ds : List Value} {E : XK} {x m : Str} {p pos apos : Pos} {e o : Expr} {es : List Expr} {ta : TE} {t : TA}

/-- the callee runs -/
theorem run_fn {pins : List (Addr × Obj)} {σ : St} {H : Hp} {s : Shared} {Q : VK} {us : List Value} {vs : List V} (F : FnOk X.prog X.w X.K X.mg X.base CX k f fd ps sp) (hr : Room k X.A) (hb : Binds X.K fd ps ds) (hd : Vals dvs ds) (hx : Passes CX X E)
    (I : Inv X pins σ H s) (r : Vals vs us) (h : sp (vs ++ dvs) H Q E) : wpAny (model X.prog X.w) X.A (call (.ref f) us) (EP X pins σ Q) X.xe s := by
  have r2 : Vals (vs ++ dvs) (us ++ ds) := r.append hd
  have hl : (us ++ ds).length = ps.length := by rw [← r2.length]; exact F.len _ _ _ _ h
  refine wpAny_call (codeAny_mono (F.run X.A X.stack s H ⟨us, []⟩ (us ++ ds) (vs ++ dvs) Q E hr I.env0 (hb s us I.kIn hl) r2 h) fun r s' hq => ?_)
  cases r with
  | error e => exact hx pins σ H s e s' I hq
  | ok fl =>
    cases fl with
    | ret u => exact I.after hq
    | next => exact False.elim hq
    | brk => exact False.elim hq
    | cont => exact False.elim hq

theorem pe_call (F : FnOk X.prog X.w X.K X.mg X.base CX k f fd ps sp) (hr : Room k X.A) (hg : Gl X x) (hm : X.mg x = some (.ref f)) (hk : PySem.W.keepIn X.K (.ref f) = true) (hb : Binds X.K fd ps ds) (hd : Vals dvs ds) (hx : Passes CX X E)
    (ha : PA X (e :: es) t) (hdb : (x == ("__debug__" : Str)) = false := by decide) (he : starEach (e :: es) X.env = (false, eval e X.env) :: starEach es X.env := by rfl) (hpl : (backTo pos (starEach es X.env)).any (·.1) = false := by rfl) :
    PE X (.Call (.Name x p) (e :: es) [] pos) (tCall sp dvs E t) := by
  intro pins s σ H Q I h
  refine wpAny_Call_Name_kw (ld_glob I hg hm ?_ hdb)
  refine PySem.W.callWith_K (h₀ := X.base) I.ok.mod.kin hk (thn (ha pos pins s σ H _ I h) fun us s1 ⟨vs, H1, I1, r, q⟩ => ⟨I1.kIn, ?_⟩) he hpl
  exact run_fn F hr hb hd hx I1 r q
theorem pe_call0 (F : FnOk X.prog X.w X.K X.mg X.base CX k f fd ps sp) (hr : Room k X.A) (hg : Gl X x) (hm : X.mg x = some (.ref f)) (hk : PySem.W.keepIn X.K (.ref f) = true) (hb : Binds X.K fd ps ds) (hd : Vals dvs ds) (hx : Passes CX X E)
    (hdb : (x == ("__debug__" : Str)) = false := by decide) : PE X (.Call (.Name x p) [] [] pos) (tCall sp dvs E tNil) := by
  intro pins s σ H Q I h
  refine wpAny_Call_Name_kw (ld_glob I hg hm ?_ hdb)
  exact PySem.W.callWith_K0 I.kIn hk (run_fn (us := []) F hr hb hd hx I .nil h)

/-- what a class must have to be made -/
structure Mk (K : PySem.W.Frag) (C f : Addr) : Prop where
  makes : PySem.W.makesIn K C = true
  init : PySem.W.findIn K (.ref C) "__init__" = some (some (.ref f))
  fn : PySem.W.isFn K (.ref f) = true
  kp : PySem.W.keepIn K (.ref C) = true

end

/-! ### keywords -/
/-- the values of the keywords, from the left -/
def PK (X : Cx) (kws : List Keyword) (t : TA) : Prop :=
  ∀ (pos : Pos) (pins : List (Addr × Obj)) (s : Shared) (σ : St) (H : Hp) (Q : List V → Hp → Prop), Inv X pins σ H s → t σ H Q → wpAny (model X.prog X.w) X.A (evalAll ((backToKw pos (keywordEach kws X.env)).map (·.2))) (AP X pins σ Q) X.xe s
section
variable {X : Cx} {CX : CXT} {k : Nat} {f C : Addr} {fd : FuncData} {ps ks : List Str} {sp : Sp} {E : XK} {x m : Str} {p pos apos kpos : Pos} {e o : Expr} {es : List Expr} {kws : List Keyword} {te ta : TE} {t tk : TA} {nm : Option Str}
/-- how a call with keywords binds: g puts the positional values us and the keywords' values ws (names ks) in the parameters' order, defaults among them -/
structure KBinds (K : PySem.W.Frag) (fd : FuncData) (ps ks : List Str) (g : List Value → List Value → List Value) (gV : List V → List V → List V) : Prop where
  to : ∀ (s : Shared) (us ws : List Value), K.In s.heap → (g us ws).length = ps.length → BindsTo s fd ⟨us, ks.zip ws⟩ (ps.zip (g us ws))
  rel : ∀ {vs : List V} {us : List Value} {zs : List V} {ws : List Value}, Vals vs us → Vals zs ws → Vals (gV vs zs) (g us ws)
def tCallK (sp : Sp) (gV : List V → List V → List V) (E : XK) (t tk : TA) : TE := fun σ H Q => t σ H fun vs H1 => tk σ H1 fun zs H2 => sp (gV vs zs) H2 Q E
variable {g : List Value → List Value → List Value} {gV : List V → List V → List V}
end

/-! ### a def's body keeps its promise -/
/-- names: the parameters first -/
structure FnScope (N P : List Str) (sc : Scope) : Prop where
  kind : sc.kind = .function
  co : sc.isCoroutine = false
  gen : sc.isGenerator = false
  nd : N.Nodup
  pre : N.take P.length = P
  par : ∀ x ∈ P, sc.names.lookup x = some .local ∨ sc.names.lookup x = some .cell
  nofree : ∀ y ∈ sc.names, y.2 ≠ .free

theorem bindL_out {kindOf : Str → Option NameKind} {x : Str} : ∀ {binds : List (Str × Value)} {m : Str → Option Value}, (∀ v, (x, v) ∉ binds) → bindL kindOf binds m x = m x
  | [], _, _ => rfl
  | (n, v) :: r, m, h => by
    unfold bindL
    rw [bindL_out fun w hw => h w (List.mem_cons_of_mem _ hw)]
    split
    · have : x ≠ n := by rintro rfl; exact h v List.mem_cons_self
      simp [this]
    · rfl
theorem bindC_out {kindOf : Str → Option NameKind} {x : Str} : ∀ {binds : List (Str × Value)} {m : Str → Option Value}, (∀ v, (x, v) ∉ binds) → bindC kindOf binds m x = m x
  | [], _, _ => rfl
  | (n, v) :: r, m, h => by
    unfold bindC
    rw [bindC_out fun w hw => h w (List.mem_cons_of_mem _ hw)]
    split
    · rfl
    · have : x ≠ n := by rintro rfl; exact h v List.mem_cons_self
      simp [this]
theorem bindL_get {kindOf : Str → Option NameKind} {x : Str} {v : Value} : ∀ {P : List Str} {vs : List Value} {i : Nat} {m : Str → Option Value}, P.Nodup → P[i]? = some x → vs[i]? = some v → kindOf x = some .local →
    bindL kindOf (P.zip vs) m x = some v
  | [], _, _, _, _, h, _, _ => by simp at h
  | _ :: _, [], _, _, _, _, h, _ => by simp at h
  | p :: P, w :: vs, 0, m, nd, h1, h2, hk => by
    simp at h1 h2; subst h1; subst h2
    show bindL kindOf ((p, w) :: P.zip vs) m p = _
    unfold bindL
    rw [bindL_out fun v hv => (List.nodup_cons.mp nd).1 (List.of_mem_zip hv).1, if_pos hk]
    simp
  | p :: P, w :: vs, i + 1, m, nd, h1, h2, hk => by
    show bindL kindOf ((p, w) :: P.zip vs) m x = _
    unfold bindL
    exact bindL_get (i := i) (List.nodup_cons.mp nd).2 (by simpa using h1) (by simpa using h2) hk
theorem bindC_get {kindOf : Str → Option NameKind} {x : Str} {v : Value} : ∀ {P : List Str} {vs : List Value} {i : Nat} {m : Str → Option Value}, P.Nodup → P[i]? = some x → vs[i]? = some v → kindOf x ≠ some .local →
    bindC kindOf (P.zip vs) m x = some v
  | [], _, _, _, _, h, _, _ => by simp at h
  | _ :: _, [], _, _, _, _, h, _ => by simp at h
  | p :: P, w :: vs, 0, m, nd, h1, h2, hk => by
    simp at h1 h2; subst h1; subst h2
    show bindC kindOf ((p, w) :: P.zip vs) m p = _
    unfold bindC
    rw [bindC_out fun v hv => (List.nodup_cons.mp nd).1 (List.of_mem_zip hv).1, if_neg hk]
    simp
  | p :: P, w :: vs, i + 1, m, nd, h1, h2, hk => by
    show bindC kindOf ((p, w) :: P.zip vs) m x = _
    unfold bindC
    exact bindC_get (i := i) (List.nodup_cons.mp nd).2 (by simpa using h1) (by simpa using h2) hk

/-- the names' values at the entry -/
def start (N : List Str) (vs : List V) : St := vs.map some ++ List.replicate (N.length - vs.length) none

/-- the context of a def's body, at its entry; an exception leaves the frame, then lies as CX says -/
def cxOf (CX : CXT) (P : Program) (w : World) (K : PySem.W.Frag) (mg : Str → Option Value) (base : Heap) (N : List Str) (qual : Str) (scope : Scope) (f : Addr) (cd : Value) (A : Around) (outer : List Env) (s : Shared) (H : Hp) (E : XK) : Cx where
  prog := P
  w := w
  K := K
  mg := mg
  base := base
  A := A.deeper (envOfC qual scope s.heap.objs.size f cd)
  N := N
  s₀ := s
  H₀ := H
  env := envOfC qual scope s.heap.objs.size f cd
  outer := outer
  stack := envOfC qual scope s.heap.objs.size f cd :: outer
  ex := []
  calm := true
  fn := fun _ => true
  pn := []
  xe := fun e s' => wpAny (model P w) (A.deeper (envOfC qual scope s.heap.objs.size f cd)) (leaving (envOfC qual scope s.heap.objs.size f cd) e) (fun _ s'' => CX outer H s E e s'') (fun e' s'' => CX outer H s E e' s'') s'

theorem cell_has {sc : Scope} {n : Nat} {x : Str} (h : sc.names.lookup x = some .cell) : ∃ c, (cellsFrom n sc.names []).lookup x = some c := by
  have q := PySem.W.cellsFrom_some sc.names n [] (.inl h)
  exact Option.isSome_iff_exists.mp q

theorem inv_start {CX : CXT} {P : Program} {w : World} {K : PySem.W.Frag} {mg : Str → Option Value} {base : Heap} {N ps : List Str} {qual : Str} {scope : Scope} {f : Addr} {cd : Value} {A : Around} {outer : List Env} {s s1 : Shared} {H : Hp} {E : XK} {us : List Value} {vs : List V}
    (S : FnScope N ps scope) (hd : A.handled = none) (e0 : Env0 P w K mg base A outer s H) (hl : vs.length = ps.length) (r : Vals vs us)
    (x : InCallC s s.heap.objs.size (bindL (envOfC qual scope s.heap.objs.size f cd).kindOf (ps.zip us) fun _ => none) (cellsFrom (s.heap.objs.size + 1) scope.names []) (bindC (envOfC qual scope s.heap.objs.size f cd).kindOf (ps.zip us) fun _ => none) s1) :
    Inv (cxOf CX P w K mg base N qual scope f cd A outer s H E) [] (start N vs) H s1 := by
  have hpl : ps.length ≤ N.length := by have := congrArg List.length S.pre; rw [List.length_take] at this; omega
  obtain ⟨h1, tk, rfl, hk⟩ := x.done
  have noA : ∀ b : Addr, b ∉ (cxOf CX P w K mg base N qual scope f cd A outer s H E).ex := fun b z => absurd (show b ∈ ([] : List Addr) from z) (by simp)
  refine ⟨⟨e0.mod, S.kind, rfl, rfl, Nat.le_refl _, fun y z c h1 h2 => ?_, fun y hy => ?_, fun y c _ h => ?_, fun _ => hd, Around.frames_deeper e0.frames, .inr ⟨rfl, rfl⟩, fun b z => absurd z (noA b), e0.bs, e0.bsz, fun b _ _ => noA b, fun b z => absurd z (noA b), e0.funs, e0.frf⟩,
    rfl, e0.bare, Un.kept hk, ⟨_, x.toInCall.ns, fun i y v h1 h2 h3 => ?_⟩, fun y c h => ⟨_, x.cell y c h⟩, e0.hok.fresh (Nat.le_refl _), fun y c h => ?_, fun p hp => absurd (show p ∈ ([] : List (Addr × Obj)) from hp) (by simp), e0.hok.kept hk, ?_⟩
  · exact name_of_addr x.apart (PySem.mem_of_lookup h1) (PySem.mem_of_lookup h2)
  · have hy : scope.names.lookup y = some .cell ∨ scope.names.lookup y = some .free := hy
    rcases hy with hy | hy
    · exact cell_has hy
    · exact absurd rfl (S.nofree _ (PySem.mem_of_lookup hy))
  · exact Nat.le_of_lt (x.above y c (PySem.mem_of_lookup h))
  · have hi : i < vs.length := by
      unfold start at h2
      by_cases hi : i < vs.length
      · exact hi
      · rw [List.getElem?_append_right (by simpa using hi)] at h2
        rw [List.getElem?_replicate] at h2
        split at h2 <;> cases h2
    have ha : vs[i]? = some v := by
      unfold start at h2
      rw [List.getElem?_append_left (by simpa using hi), List.getElem?_map] at h2
      cases e : vs[i]? with
      | none => rw [e] at h2; cases h2
      | some a => rw [e] at h2; cases h2; rfl
    obtain ⟨u, hu, rv⟩ := r.get ha
    have hp : ps[i]? = some y := by
      rw [← S.pre, List.getElem?_take_of_lt (by omega)]; exact h1
    have ndP : ps.Nodup := by rw [← S.pre]; exact S.nd.sublist (List.take_sublist _ _)
    refine ⟨u, rv, ?_⟩
    rcases S.par y (List.mem_of_getElem? hp) with k | k
    · exact .inl ⟨k, bindL_get ndP hp hu k⟩
    · obtain ⟨c, e⟩ := cell_has (n := s.heap.objs.size + 1) k
      refine .inr ⟨.inl k, c, e, ?_⟩
      have q := x.cell y c e
      rw [bindC_get ndP hp hu (by show scope.names.lookup y ≠ _; rw [k]; decide)] at q
      exact q
  · exact e0.hok.fresh (Nat.le_of_lt (x.above y c (PySem.mem_of_lookup h)))
  · unfold start
    show _ = N.length
    rw [List.length_append, List.length_map, List.length_replicate]
    omega

/-- THE RULE: a def (or a method) of the text, by its body. The body's reading t is chosen for each entry; it is run at the parameters' values -/
theorem fn_of {CX : CXT} {P : Program} {w : World} {K : PySem.W.Frag} {mg : Str → Option Value} {base : Heap} {k : Nat} {f : Addr} {name qual : Str} {params : Arguments} {body : List Stmt} {scope : Scope} {dV kV doc pm cdv ct oc : Value} {an od : Option Addr}
    {osl : Array (Option Value)} {N ps : List Str} {sp : Sp} (lk : K.lookup f = some ⟨oc, od, .func (PySem.W.fnOf name qual params body scope dV kV doc pm an cdv ct), osl⟩) (hcd : PySem.W.codeIn K cdv qual = true) (S : FnScope N ps scope)
    (len : ∀ vs H Q E, sp vs H Q E → vs.length = ps.length)
    (hbody : ∀ (A : Around) (outer : List Env) (s : Shared) (H : Hp) (vs : List V) (Q : VK) (E : XK), Room k (A.deeper (envOfC qual scope s.heap.objs.size f cdv)) → sp vs H Q E →
      ∃ t, PSs (cxOf CX P w K mg base N qual scope f cdv A outer s H E) body t ∧ t { nx := fun _ H' => Q .non H', rt := Q } (start N vs) H) :
    FnOk P w K mg base CX (k + 1) f (PySem.W.fnOf name qual params body scope dV kV doc pm an cdv ct) ps sp := by
  refine ⟨len, fun A outer s H args us vs Q E hr e0 hb r hsp => ?_⟩
  have hl := len _ _ _ _ hsp
  have KX : K.In s.heap := e0.mod.kin.keeps fun b o e => (e0.bs b o e).1
  have lim : s.heap.NoLimit := e0.mod.nolimit.keeps fun b o e => (e0.bs b o e).1
  have hkind : ∀ y ∈ ps.zip us, scope.names.lookup y.1 = some .local ∨ (scope.names.lookup y.1 = some .cell ∧ ((cellsFrom (s.heap.objs.size + 1) scope.names []).lookup y.1).isSome = true) := fun ⟨n, v⟩ hy => by
    rcases S.par n (List.of_mem_zip hy).1 with q | q
    · exact .inl q
    · exact .inr ⟨q, PySem.W.cellsFrom_some _ _ _ (.inl q)⟩
  refine codeAny_call_function hr.depth (KX _ _ lk) rfl S.co S.gen rfl (PySem.W.codeRec_of KX hcd) (hb _ _ _ _ ?_)
  refine wpAny_newFunctionEnv_cells S.kind hkind fun env he s1 x => ?_
  subst he
  refine ⟨lim.keeps x.toInCall.keep, codeAny_func ?_⟩
  obtain ⟨t, ht, hq⟩ := hbody A outer s H vs Q E (hr.deeper _) hsp
  have I : Inv (cxOf CX P w K mg base N qual scope f cdv A outer s H E) [] (start N vs) H s1 := inv_start S hr.hd e0 hl r x
  refine wpAny_mono (ht [] s1 (start N vs) H _ I hq) (fun fl s' hs => ?_) fun e s' hs => hs
  have fin : ∀ {σ' : St} {H' : Hp} {v : V} {u : Value}, Inv (cxOf CX P w K mg base N qual scope f cdv A outer s H E) [] σ' H' s' → RelV v u → Q v H' → CE outer P w H s Q u s' :=
    fun {σ' H' v u} J rv q => ⟨v, H', J.os, J.bare, J.base, J.hok, rv, q⟩
  cases fl with
  | ret u =>
    obtain ⟨v, σ', H', J, rv, q⟩ := hs
    exact fin J rv q
  | next =>
    obtain ⟨σ', H', J, q⟩ := hs
    exact fin (v := V.non) (u := Value.none) J rfl q
  | brk =>
    obtain ⟨_, _, _, q⟩ := hs
    exact False.elim q
  | cont =>
    obtain ⟨_, _, _, q⟩ := hs
    exact False.elim q
end L2

namespace L2
open PySem PySem.Spec PyProof.Rows
section
variable {X : Cx} {x : Str} {p pos : Pos} {e : Expr} {es : List Expr} {t : TA} {id T : String} {r : List V → Hp → VK → Prop}

def tCB (r : List V → Hp → VK → Prop) (t : TA) : TE := fun σ H Q => t σ H fun vs H1 => r vs H1 Q
/-- f(e, ..), f a built-in function -/
theorem pe_callB (hc : CallR X (.builtin id) r) (hg : Gl X x) (hm : X.mg x = none) (hv : bootBuiltins x = some (.builtin id)) (ha : PA X (e :: es) t) (hn : x ≠ "__name__" := by decide) (hdb : (x == ("__debug__" : Str)) = false := by decide)
    (he : starEach (e :: es) X.env = (false, eval e X.env) :: starEach es X.env := by rfl) (hpl : (backTo pos (starEach es X.env)).any (·.1) = false := by rfl) : PE X (.Call (.Name x p) (e :: es) [] pos) (tCB r t) := by
  intro pins s σ H Q I h
  refine wpAny_Call_Name_kw (ld_blt I hg hm hv ?_ hn hdb)
  exact PyProof.Rows.callWith_builtin1 (thn (ha pos pins s σ H _ I h) fun us s1 ⟨vs, H1, I1, r1, q1⟩ => hc pins s1 σ H1 vs us Q I1 r1 q1) he hpl
/-- T(e, ..), T a built-in type -/
theorem pe_callTy (hc : CallR X (.type T) r) (hg : Gl X x) (hm : X.mg x = none) (hv : bootBuiltins x = some (.type T)) (ha : PA X (e :: es) t) (hn : x ≠ "__name__" := by decide) (hdb : (x == ("__debug__" : Str)) = false := by decide)
    (he : starEach (e :: es) X.env = (false, eval e X.env) :: starEach es X.env := by rfl) (hpl : (backTo pos (starEach es X.env)).any (·.1) = false := by rfl) : PE X (.Call (.Name x p) (e :: es) [] pos) (tCB r t) := by
  intro pins s σ H Q I h
  refine wpAny_Call_Name_kw (ld_blt I hg hm hv ?_ hn hdb)
  exact PyProof.Rows.callWith_type1 (thn (ha pos pins s σ H _ I h) fun us s1 ⟨vs, H1, I1, r1, q1⟩ => hc pins s1 σ H1 vs us Q I1 r1 q1) he hpl
end
end L2

namespace HT
open PySem PyProof.Rows

/-- t < u of tuples of ints -/
def lexLt : List Int → List Int → Bool
  | [], [] => false
  | [], _ :: _ => true
  | _ :: _, [] => false
  | x :: xs, y :: ys => if x = y then lexLt xs ys else decide (x < y)
section
open PySem.SeqAt
open PySem.AutoSeq1 (wpAny_loadPart')
open PySem.MeetsSeq PySem.MeetsSeq2 PySem.MeetsSeq3

end

section
variable {prog : Program} {w : World} {A : Around} {E : Value → Shared → Prop} {s : Shared}

/-! ### t[a:b], not the whole -/
/-- a slice's bound as a place among n (d where it is left out) -/
def sIx (n d : Nat) : Option Int → Nat
  | none => d
  | some v => if v < 0 then (v + (n : Int)).toNat else min v.toNat n
theorem sIx_none (n d : Nat) : sIx n d none = d := rfl
theorem sIx_nat (n d k : Nat) : sIx n d (some (k : Int)) = min k n := by
  show (if (k : Int) < 0 then ((k : Int) + (n : Int)).toNat else min (k : Int).toNat n) = min k n
  rw [if_neg (by omega), Int.toNat_natCast]
theorem sIx_le (n d : Nat) (hd : d ≤ n) (o : Option Int) : sIx n d o ≤ n := by
  cases o with
  | none => exact hd
  | some v =>
    show (if v < 0 then (v + (n : Int)).toNat else min v.toNat n) ≤ n
    by_cases hv : v < 0
    · rw [if_pos hv]; omega
    · rw [if_neg hv]; exact Nat.min_le_right _ _
end
end HT

namespace L2
open PySem PySem.Spec PyProof.Rows

/-! ### the parts of a slice -/
abbrev TO := St → Hp → (Option Int → Hp → Prop) → Prop
/-- a slice's part (left out, or an int) -/
def PO (X : Cx) (e : Option Expr) (t : TO) : Prop :=
  ∀ (pins : List (Addr × Obj)) (s : Shared) (σ : St) (H : Hp) (Q : Option Int → Hp → Prop), Inv X pins σ H s → t σ H Q →
    wpAny (model X.prog X.w) X.A (evalPart e X.env) (fun u s' => ∃ o H', Inv X pins σ H' s' ∧ IsPart u o ∧ Q o H') X.xe s
def tNoPart : TO := fun _ H Q => Q none H
def tPart (t : TE) : TO := fun σ H Q => t σ H fun x H1 => ∃ i, x = .int i ∧ Q (some i) H1

section
variable {X : Cx} {e : Expr} {te : TE} {lo hi : Option Expr} {tl th : TO} {pos p2 : Pos}

theorem po_none : PO X none tNoPart := by
  intro pins s σ H Q I h
  rw [evalPart_none]
  exact wpAny_pure ⟨none, H, I, .none, h⟩
theorem po_some (h : PE X e te) : PO X (some e) (tPart te) := by
  intro pins s σ H Q I hw
  rw [evalPart_some]
  refine thn (h pins s σ H _ I hw) fun u s1 ⟨x, H1, I1, r1, q1⟩ => ?_
  obtain ⟨i, rfl, q⟩ := q1
  obtain ⟨t, rfl⟩ := r1
  exact ⟨some i, H1, I1, .int i t, q⟩

/-- what a slice of a value is, by values: the slice object stands at sl -/
def SlR (X : Cx) (r : V → Option Int → Option Int → Hp → VK → Prop) : Prop :=
  ∀ (pins : List (Addr × Obj)) (s : Shared) (σ : St) (H : Hp) (x : V) (v vl vu : Value) (lo hi : Option Int) (sl : Addr) (Q : VK), Inv X pins σ H s → RelV x v → s.heap.IsSliceOf sl vl vu .none → IsPart vl lo → IsPart vu hi → r x lo hi H Q →
    ∃ T id, typeLookup (.type T) "__getitem__" = pure (some (.builtin id)) ∧ s.TypeIs v T ∧ wpAny (model X.prog X.w) X.A (getItem v (.ref sl)) (EP X pins σ Q) X.xe s
theorem SlR.or {r r' : V → Option Int → Option Int → Hp → VK → Prop} (h : SlR X r) (h' : SlR X r') : SlR X (fun x lo hi H Q => r x lo hi H Q ∨ r' x lo hi H Q) := by
  intro pins s σ H x v vl vu lo hi sl Q I rx hs pl pu q
  rcases q with q | q
  · exact h pins s σ H x v vl vu lo hi sl Q I rx hs pl pu q
  · exact h' pins s σ H x v vl vu lo hi sl Q I rx hs pl pu q
def tSl (r : V → Option Int → Option Int → Hp → VK → Prop) (te : TE) (tl th : TO) : TE := fun σ H Q => te σ H fun x H1 => tl σ H1 fun l H2 => th σ H2 fun u H3 => r x l u H3 Q
/-- a[lo:hi], any a -/
theorem pe_slice {r : V → Option Int → Option Int → Hp → VK → Prop} (hr : SlR X r) (he : PE X e te) (hl : PO X lo tl) (hu : PO X hi th) : PE X (.Subscript e (.Slice lo hi none p2) pos) (tSl r te tl th) := by
  intro pins s σ H Q I h
  refine Subscript_ (thn (he pins s σ H _ I h) fun v s1 ⟨x, H1, I1, r1, q1⟩ => ?_)
  refine wpAny_Slice (thn (hl pins s1 σ H1 _ I1 q1) fun vl s2 ⟨l, H2, I2, pl, q2⟩ => thn (hu pins s2 σ H2 _ I2 q2) fun vu s3 ⟨u, H3, I3, pu, q3⟩ => ?_)
  rw [evalPart_none]
  refine wpAny_pure ?_
  have I4 : Inv X pins σ H3 { s3 with heap := s3.heap.push { cls := .type "slice", data := .fields #[vl, vu, .none] } } := I3.kept (t' := s3.toks) fun b ob q => Heap.get?_push_of_some _ q
  obtain ⟨T, id, hT, ht, hg⟩ := hr pins { s3 with heap := s3.heap.push { cls := .type "slice", data := .fields #[vl, vu, .none] } } σ H3 x v vl vu l u s3.heap.objs.size Q I4 r1 (Heap.IsSliceOf.new ..) pl pu q3
  show wpAny (model X.prog X.w) X.A (subscriptTail e (.Slice lo hi none p2) v (.ref s3.heap.objs.size)) (EP X pins σ Q) X.xe { s3 with heap := s3.heap.push { cls := .type "slice", data := .fields #[vl, vu, .none] } }
  exact tail_any (ops := [.ref s3.heap.objs.size, v]) ht hT hg (by with_unfolding_all rfl)

/-- the items of xs[lo:hi] -/
def cutV (xs : List V) (lo hi : Option Int) : List V := (xs.drop (HT.sIx xs.length 0 lo)).take (HT.sIx xs.length xs.length hi - HT.sIx xs.length 0 lo)
theorem cutV_length (xs : List V) (lo hi : Option Int) : (cutV xs lo hi).length ≤ xs.length := by
  unfold cutV
  rw [List.length_take, List.length_drop]
  omega
/-- t[lo:hi], not the whole of it (the whole would be t itself) -/
def rSlT (K : PySem.W.Frag) : V → Option Int → Option Int → Hp → VK → Prop := fun x lo hi H Q => ∃ a xs, x = .ref a ∧ SqT K H a xs ∧
  ¬ (HT.sIx xs.length 0 lo = 0 ∧ HT.sIx xs.length xs.length hi = xs.length) ∧ ∀ p, H p = none → Q (.ref p) (upd H p (.tup (cutV xs lo hi)))
/-! ### t < u, t + u -/
def rLtT (K : PySem.W.Frag) : R2 := fun x y H Q => ∃ a b ns ms, x = .ref a ∧ y = .ref b ∧ SqT K H a (ns.map V.int) ∧ SqT K H b (ms.map V.int) ∧ Q (.bl (HT.lexLt ns ms)) H
/-- t + u, t not empty: u empty gives t itself -/
def rCatT (K : PySem.W.Frag) : R2 := fun x y H Q => ∃ a b xs ys, x = .ref a ∧ y = .ref b ∧ SqT K H a xs ∧ SqT K H b ys ∧ xs ≠ [] ∧ xs.length + ys.length ≤ sizeLine ∧
  (ys = [] → Q (.ref a) H) ∧ (ys ≠ [] → ∀ p, H p = none → Q (.ref p) (upd H p (.tup (xs ++ ys))))
end
end L2

namespace L2
open PySem PySem.Spec PyProof.Rows

/-! ### places -/
/-- the place that an index of any sign means -/
def ixN (n : Nat) (i : Int) : Option Nat := if 0 ≤ i then (if i < n then some i.toNat else none) else if -(n : Int) ≤ i then some (i + n).toNat else none
def atI {α : Type} (xs : List α) (i : Int) : Option α := (ixN xs.length i).bind fun j => xs[j]?
theorem ixN_seq {n : Nat} {i : Int} {j : Nat} (h : ixN n i = some j) : seqIndex? i n = some j ∧ j < n ∧ -(n : Int) ≤ i ∧ i < n := by
  unfold ixN at h
  by_cases h0 : 0 ≤ i
  · rw [if_pos h0] at h
    by_cases h1 : i < n
    · rw [if_pos h1] at h
      have e : i.toNat = j := Option.some.inj h
      exact ⟨by rw [seqIndex_of h0 h1, e], by omega, by omega, h1⟩
    · rw [if_neg h1] at h; cases h
  · rw [if_neg h0] at h
    by_cases h1 : -(n : Int) ≤ i
    · rw [if_pos h1] at h
      have e : (i + n).toNat = j := Option.some.inj h
      exact ⟨by rw [seqIndex_neg (by omega) h1, e], by omega, h1, by omega⟩
    · rw [if_neg h1] at h; cases h
theorem atI_get {α : Type} {xs : List α} {i : Int} {v : α} (h : atI xs i = some v) : ∃ j, seqIndex? i xs.length = some j ∧ xs[j]? = some v ∧ j < xs.length ∧ -(xs.length : Int) ≤ i ∧ i < xs.length := by
  unfold atI at h
  cases e : ixN xs.length i with
  | none => rw [e] at h; cases h
  | some j =>
    rw [e] at h
    obtain ⟨h1, h2, h3, h4⟩ := ixN_seq e
    exact ⟨j, h1, h, h2, h3, h4⟩
theorem atI_nat {α : Type} {xs : List α} {j : Nat} {v : α} (h : xs[j]? = some v) : atI xs (j : Int) = some v := by
  have hj : j < xs.length := (List.getElem?_eq_some_iff.mp h).1
  have e : ixN xs.length (j : Int) = some j := by
    unfold ixN
    rw [if_pos (by omega), if_pos (by omega)]; simp
  unfold atI; rw [e]; exact h
theorem atI_last {α : Type} (xs : List α) (v : α) : atI (xs ++ [v]) (-1) = some v := by
  have hl : (xs ++ [v]).length = xs.length + 1 := by simp
  have e : ixN (xs ++ [v]).length (-1) = some xs.length := by
    unfold ixN
    rw [hl, if_neg (by decide), if_pos (by omega)]
    congr 1
    omega
  unfold atI
  rw [e]
  show (xs ++ [v])[xs.length]? = some v
  simp

/-! ### what may be subscripted -/
/-- what stands as an index of a plain subscript -/
def PlainIx (b : Expr) : Prop := ∀ o i, subscripted b false o i = operate [o, i] (getItem o i)
/-- a subscript by values -/
def IxR (X : Cx) (r : R2) : Prop :=
  ∀ (value slice : Expr) (pins : List (Addr × Obj)) (s : Shared) (σ : St) (H : Hp) (x y : V) (v u : Value) (Q : VK), Inv X pins σ H s → RelV x v → RelV y u → r x y H Q →
    subscripted slice false v u = operate [v, u] (getItem v u) → wpAny (model X.prog X.w) X.A (subscriptTail value slice v u) (EP X pins σ Q) X.xe s
/-- a call of a builtin's method by values: the receiver, the arguments -/
def MtR (X : Cx) (id : String) (r : V → List V → Hp → VK → Prop) : Prop :=
  ∀ (pins : List (Addr × Obj)) (s : Shared) (σ : St) (H : Hp) (x : V) (xs : List V) (v : Value) (us : List Value) (Q : VK), Inv X pins σ H s → RelV x v → Vals xs us → r x xs H Q →
    wpAny (model X.prog X.w) X.A (call (.builtin id) (v :: us)) (EP X pins σ Q) X.xe s
section
variable {X : Cx} {a b : Expr} {ta tb : TE} {pos : Pos}
theorem IxR.or {r r' : R2} (h : IxR X r) (h' : IxR X r') : IxR X (fun x y H Q => r x y H Q ∨ r' x y H Q) := by
  intro value slice pins s σ H x y v u Q I rx ry q hs
  rcases q with q | q
  · exact h value slice pins s σ H x y v u Q I rx ry q hs
  · exact h' value slice pins s σ H x y v u Q I rx ry q hs
theorem MtR.or {id : String} {r r' : V → List V → Hp → VK → Prop} (h : MtR X id r) (h' : MtR X id r') : MtR X id (fun x xs H Q => r x xs H Q ∨ r' x xs H Q) := by
  intro pins s σ H x xs v us Q I rx rs q
  rcases q with q | q
  · exact h pins s σ H x xs v us Q I rx rs q
  · exact h' pins s σ H x xs v us Q I rx rs q
/-- a[b] -/
theorem pe_ix {r : R2} (hr : IxR X r) (ha : PE X a ta) (hb : PE X b tb) (hs : PlainIx b) : PE X (.Subscript a b pos) (tOp r ta tb) := by
  intro pins s σ H Q I h
  exact Subscript_ (binT ha hb I h fun v u s2 x y H2 I2 rx ry q => hr a b pins s2 σ H2 x y v u Q I2 rx ry q (hs _ _))

def rIxL (K : PySem.W.Frag) : R2 := fun x y H Q => ∃ p xs i v, x = .ref p ∧ y = .int i ∧ SqL K H p xs ∧ atI xs i = some v ∧ Q v H
def rIxT (K : PySem.W.Frag) : R2 := fun x y H Q => ∃ p xs i v, x = .ref p ∧ y = .int i ∧ SqT K H p xs ∧ atI xs i = some v ∧ Q v H
def rIxS : R2 := fun x y H Q => ∃ z i c, x = .str z ∧ y = .int i ∧ z.length ≤ sizeLine ∧ atI z.cps.toList i = some c ∧ Q (.str ⟨#[c]⟩) H
theorem ix_list : IxR X (rIxL X.K) := by
  intro value slice pins s σ H x y v u Q I rx ry h hs
  obtain ⟨p, xs, i, z, rfl, rfl, hq, he, q⟩ := h
  cases rx
  obtain ⟨t, rfl⟩ := ry
  obtain ⟨its, r, pl, hz⟩ := I.list hq
  obtain ⟨j, h1, h2, h3, h4, h5⟩ := atI_get he
  obtain ⟨w, ew, rw'⟩ := r.get h2
  have hl := r.length
  have hn := line63
  have fin : EP X pins σ Q w s := ⟨z, H, I, rw', q⟩
  by_cases h0 : 0 ≤ i
  · have hj : i.toNat = j := by
      rw [seqIndex_of h0 h5] at h1
      exact Option.some.inj h1
    exact item_listR pl.isList h0 (by omega) (by rw [hj]; simpa using ew) fin hs
  · have hj : (i + (its.toArray.size : Int)).toNat = j := by
      rw [seqIndex_neg (by omega) h4] at h1
      rw [List.size_toArray, ← hl]
      exact Option.some.inj h1
    exact subscriptTail_builtinR (x := w) pl.isList.typeIs slot_list_getitem.lookup
      (wpAny_getItem_list_neg (Q := fun r s' => r = w ∧ EP X pins σ Q r s') pl.isList (by omega) (by rw [List.size_toArray] <;> omega) (by omega) (by rw [hj]; simpa using ew) ⟨rfl, fin⟩) hs
theorem ix_tup : IxR X (rIxT X.K) := by
  intro value slice pins s σ H x y v u Q I rx ry h hs
  obtain ⟨p, xs, i, z, rfl, rfl, hq, he, q⟩ := h
  cases rx
  obtain ⟨t, rfl⟩ := ry
  obtain ⟨its, r, pl, hz⟩ := I.tuple hq
  obtain ⟨j, h1, h2, h3, h4, h5⟩ := atI_get he
  obtain ⟨w, ew, rw'⟩ := r.get h2
  have hl := r.length
  have hn := line63
  have fin : EP X pins σ Q w s := ⟨z, H, I, rw', q⟩
  exact subscriptTail_builtinR (x := w) pl.typeIs slot_tuple_getitem.lookup
    (getItem_tuple (j := j) (Q := fun r s' => r = w ∧ EP X pins σ Q r s') pl (by omega) (by omega) (by rw [List.size_toArray, ← hl]; exact h1) (by simpa using ew) ⟨rfl, fin⟩) hs
theorem ix_str : IxR X rIxS := by
  intro value slice pins s σ H x y v u Q I rx ry h hs
  obtain ⟨z, i, c, rfl, rfl, hz, he, q⟩ := h
  obtain ⟨t, rfl⟩ := rx
  obtain ⟨t', rfl⟩ := ry
  obtain ⟨j, h1, h2, h3, h4, h5⟩ := atI_get he
  have hl : z.cps.toList.length = z.length := by simp [Str.length]
  rw [hl] at h1 h4 h5
  have hn := line63
  exact tail_any (typeIs_str s z t) slot_str_getitem.lookup (getItem_str (c := c) (by
    have e1 : decide (i < -(2 ^ 63 : Int)) = false := decide_eq_false (by omega)
    have e2 : decide (i ≥ 2 ^ 63) = false := decide_eq_false (by omega)
    rw [e1, e2, Bool.or_false]) (by rw [h1]; simpa using h2) ⟨.str ⟨#[c]⟩, H, I.tok _, ⟨_, rfl⟩, q⟩) hs
/-- list, tuple or str -/
def rIx (K : PySem.W.Frag) : R2 := fun x y H Q => rIxL K x y H Q ∨ rIxT K x y H Q ∨ rIxS x y H Q
/-! ### xs[i] = v, any sign -/
theorem Inv.lst {pins : List (Addr × Obj)} {σ : St} {H : Hp} {s : Shared} {p : Addr} {xs : List V} (I : Inv X pins σ H s) (h : H p = some (.lst xs)) :
    ∃ (its : List Value) (n : Nat), Vals xs its ∧ s.heap.get? p = some { cls := .type "list", data := .seq its.toArray n } ∧ xs.length ≤ sizeLine := by
  obtain ⟨z, its, n, r, e⟩ := I.hok p _ h
  exact ⟨its, n, r, e, z⟩
def rSetL : V → V → V → Hp → (Hp → Prop) → Prop := fun o i v H Q => ∃ p xs k j, o = .ref p ∧ i = .int k ∧ H p = some (.lst xs) ∧ ixN xs.length k = some j ∧ Q (upd H p (.lst (xs.set j v)))
/-! ### slices -/
theorem slice_bounds (lo hi : Option Int) (n : Nat) : (sliceBounds lo hi none n).1 = ((HT.sIx n 0 lo : Nat) : Int) ∧ (sliceBounds lo hi none n).2.1 = ((HT.sIx n n hi : Nat) : Int) ∧ (sliceBounds lo hi none n).2.2 = 1 := by
  refine ⟨?_, ?_, rfl⟩
  · cases lo with
    | none => simp [sliceBounds, HT.sIx]
    | some i =>
      simp only [sliceBounds, HT.sIx, Option.getD_none, show (1 : Int) > 0 by decide, if_true]
      by_cases h : i < 0
      · simp only [h, if_true] <;> omega
      · simp only [h, if_false] <;> omega
  · cases hi with
    | none => simp [sliceBounds, HT.sIx]
    | some i =>
      simp only [sliceBounds, HT.sIx, Option.getD_none, show (1 : Int) > 0 by decide, if_true]
      by_cases h : i < 0
      · simp only [h, if_true] <;> omega
      · simp only [h, if_false] <;> omega
theorem slicePick_cut (its : List Value) (lo hi : Option Int) : slicePick its.toArray lo hi none = ((its.drop (HT.sIx its.length 0 lo)).take (HT.sIx its.length its.length hi - HT.sIx its.length 0 lo)).toArray := by
  obtain ⟨h1, h2, h3⟩ := slice_bounds lo hi its.toArray.size
  unfold slicePick
  rw [h1, h2, h3]
  simp only [sliceRange_one, pick_run, List.size_toArray] <;> rfl
/-- xs[lo:hi] of a list: a new list -/
def rSlL (K : PySem.W.Frag) : V → Option Int → Option Int → Hp → VK → Prop := fun x lo hi H Q => ∃ a xs, x = .ref a ∧ SqL K H a xs ∧ ∀ p, H p = none → Q (.ref p) (upd H p (.lst (cutV xs lo hi)))
theorem sl_list : SlR X (rSlL X.K) := by
  intro pins s σ H x v vl vu lo hi sl Q I rx hs pl pu h
  obtain ⟨a, xs, rfl, hx, q⟩ := h
  cases rx
  obtain ⟨its, r, ht, hz⟩ := I.list hx
  have hlen := r.length
  refine ⟨"list", _, slot_list_getitem.lookup, ht.isList.typeIs, ?_⟩
  refine wpAny_getItem_list_slice ht.isList hs pl pu .none (by simp) ?_ (by rw [List.size_toArray] <;> omega)
  rw [slicePick_cut, ← hlen]
  refine ⟨.ref s.heap.objs.size, _, I.laid (t' := s.toks) (o := .lst (cutV xs lo hi)) (fun b ob q => Heap.get?_push_of_some _ q) (Nat.le_refl _) ?_, rfl, q _ (I.hok.fresh (Nat.le_refl _))⟩
  exact ⟨Nat.le_trans (cutV_length xs lo hi) hz, _, 0, (r.drop (HT.sIx xs.length 0 lo)).take (HT.sIx xs.length xs.length hi - HT.sIx xs.length 0 lo), Heap.get?_push_size _ rfl⟩

/-! ### in, not in: flat items -/
def flatV : V → Bool
  | .non => true
  | .bl _ => true
  | .int _ => true
  | .str _ => true
  | _ => false
/-- == of flat values -/
def eqV : V → V → Bool
  | .non, .non => true
  | .bl a, .bl b => a == b
  | .bl a, .int b => (if a then 1 else 0) == b
  | .int a, .bl b => a == (if b then 1 else 0)
  | .int a, .int b => a == b
  | .str a, .str b => a == b
  | _, _ => false
theorem eqAt_V {A : Around} {s : Shared} {y x : V} {u v : Value} (ry : RelV y u) (rx : RelV x v) (fy : flatV y = true) (fx : flatV x = true) : SeqAt.EqAt A s u v (eqV y x) := by
  cases y with
  | non =>
    cases ry
    cases x with
    | non => cases rx; exact SeqAt.EqAt.same _
    | bl b => cases rx; exact SeqAt.EqAt.none_bool b
    | int b => obtain ⟨t, rfl⟩ := rx; exact SeqAt.EqAt.none_int b t
    | str b => obtain ⟨t, rfl⟩ := rx; exact SeqAt.EqAt.none_str b t
    | _ => exact absurd (show false = true from fx) Bool.false_ne_true
  | bl a =>
    cases ry
    cases x with
    | non => cases rx; exact SeqAt.EqAt.bool_none a
    | bl b => cases rx; exact SeqAt.EqAt.bool_bool a b
    | int b => obtain ⟨t, rfl⟩ := rx; exact SeqAt.EqAt.bool_int a b t
    | str b => obtain ⟨t, rfl⟩ := rx; exact SeqAt.EqAt.bool_str a b t
    | _ => exact absurd (show false = true from fx) Bool.false_ne_true
  | int a =>
    obtain ⟨t', rfl⟩ := ry
    cases x with
    | non => cases rx; exact SeqAt.EqAt.int_none a t'
    | bl b => cases rx; exact SeqAt.EqAt.int_bool a t' b
    | int b => obtain ⟨t, rfl⟩ := rx; exact SeqAt.EqAt.int_int a t' b t
    | str b => obtain ⟨t, rfl⟩ := rx; exact SeqAt.EqAt.int_str a t' b t
    | _ => exact absurd (show false = true from fx) Bool.false_ne_true
  | str a =>
    obtain ⟨t', rfl⟩ := ry
    cases x with
    | non => cases rx; exact SeqAt.EqAt.str_none a t'
    | bl b => cases rx; exact SeqAt.EqAt.str_bool a t' b
    | int b => obtain ⟨t, rfl⟩ := rx; exact SeqAt.EqAt.str_int a t' b t
    | str b => obtain ⟨t, rfl⟩ := rx; exact SeqAt.EqAt.str_str a t' b t
    | _ => exact absurd (show false = true from fx) Bool.false_ne_true
  | _ => exact absurd (show false = true from fy) Bool.false_ne_true
/-- the items' answers, read off the values (a value's own answer does not lean on its token) -/
def eqU (x : V) (u : Value) : Bool := match u with
  | .none => eqV .non x
  | .bool b => eqV (.bl b) x
  | .int i _ => eqV (.int i) x
  | .str z _ => eqV (.str z) x
  | _ => false
theorem eqU_of {x y : V} {u : Value} (r : RelV y u) (f : flatV y = true) : eqU x u = eqV y x := by
  cases y with
  | non => cases r; rfl
  | bl b => cases r; rfl
  | int i => obtain ⟨t, rfl⟩ := r; rfl
  | str z => obtain ⟨t, rfl⟩ := r; rfl
  | _ => exact absurd (show false = true from f) Bool.false_ne_true
theorem any_eqU {x : V} : ∀ {xs : List V} {us : List Value}, Vals xs us → xs.all flatV = true → us.any (eqU x) = xs.any fun y => eqV y x
  | _, _, .nil, _ => rfl
  | y :: xs, u :: us, .cons r t, f => by
    rw [List.all_cons, Bool.and_eq_true] at f
    rw [List.any_cons, List.any_cons, eqU_of r f.1, any_eqU t f.2]
theorem mem_eqAt {A : Around} {s : Shared} {x : V} {v : Value} (rx : RelV x v) (fx : flatV x = true) : ∀ {xs : List V} {us : List Value}, Vals xs us → xs.all flatV = true → ∀ u ∈ us, SeqAt.EqAt A s u v (eqU x u)
  | _, _, .nil, _ => fun u hu => by cases hu
  | y :: xs, u :: us, .cons r t, f => fun u' hu => by
    rw [List.all_cons, Bool.and_eq_true] at f
    rcases List.mem_cons.mp hu with rfl | hu
    · rw [eqU_of r f.1]; exact eqAt_V r rx f.1 fx
    · exact mem_eqAt rx fx t f.2 u' hu
def inV (x : V) (xs : List V) : Bool := xs.any fun y => eqV y x
/-- x in a list or tuple of flat items -/
def rIn (K : PySem.W.Frag) (neg : Bool) : R2 := fun x y H Q => ∃ p xs, y = .ref p ∧ (SqL K H p xs ∨ SqT K H p xs) ∧ flatV x = true ∧ xs.all flatV = true ∧ Q (.bl (if neg then !inV x xs else inV x xs)) H
theorem op_in_seq : OpR X (compareOp .In) (rIn X.K false) := by
  intro pins s σ H x y v u Q I rx ry h
  obtain ⟨p, xs, rfl, hq, fx, fs, q⟩ := h
  cases ry
  rcases hq with hq | hq
  · obtain ⟨its, r, pl, hz⟩ := I.list hq
    refine SeqAt.in_listAt (eqU x) pl.isList (fun w hw => mem_eqAt rx fx r fs w (by simpa using hw)) ⟨.bl _, H, I, rfl, ?_⟩
    rw [show its.toArray.any (eqU x) = its.any (eqU x) by simp, any_eqU r fs]
    exact q
  · obtain ⟨its, r, pl, hz⟩ := I.tuple hq
    refine SeqAt.in_tupleAt (eqU x) pl (fun w hw => mem_eqAt rx fx r fs w (by simpa using hw)) ⟨.bl _, H, I, rfl, ?_⟩
    rw [show its.toArray.any (eqU x) = its.any (eqU x) by simp, any_eqU r fs]
    exact q
/-! ### len, list(x), tuple(x) of any list or tuple that is read -/
theorem call_len_seq : CallR X (.builtin "len") (fun xs H Q => ∃ p ys, xs = [.ref p] ∧ (SqL X.K H p ys ∨ SqT X.K H p ys) ∧ Q (.int ys.length) H) := by
  intro pins s σ H xs us Q I r h
  obtain ⟨p, ys, rfl, hq, q⟩ := h
  obtain ⟨u, rfl, rx⟩ := vals1 r
  cases rx
  have hn := line63
  rcases hq with hq | hq
  · obtain ⟨its, r', pl, hz⟩ := I.list hq
    have hlen := r'.length
    exact Calls.call_len_list pl.isList (by simp only [List.size_toArray] <;> omega) ⟨.int ys.length, H, I.tok _, ⟨s.toks + 1, by rw [List.size_toArray, hlen]⟩, q⟩
  · obtain ⟨its, r', pl, hz⟩ := I.tuple hq
    have hlen := r'.length
    exact len_tuple pl (by simp only [List.size_toArray] <;> omega) ⟨.int ys.length, H, I.tok _, ⟨s.toks + 1, by rw [List.size_toArray, hlen]⟩, q⟩
theorem call_len_str : CallR X (.builtin "len") (fun xs H Q => ∃ z, xs = [.str z] ∧ z.length ≤ sizeLine ∧ Q (.int z.length) H) := by
  intro pins s σ H xs us Q I r h
  obtain ⟨z, rfl, hz, q⟩ := h
  obtain ⟨u, rfl, t, rfl⟩ := vals1 r
  have hn := line63
  exact len_str (by omega) ⟨.int z.length, H, I.tok _, ⟨_, rfl⟩, q⟩
theorem CallR.or {f : Value} {r r' : List V → Hp → VK → Prop} (h : CallR X f r) (h' : CallR X f r') : CallR X f (fun xs H Q => r xs H Q ∨ r' xs H Q) := by
  intro pins s σ H xs us Q I rs q
  rcases q with q | q
  · exact h pins s σ H xs us Q I rs q
  · exact h' pins s σ H xs us Q I rs q
/-! ### the call of a builtin's method: o.m(..) -/
/-- the value is of that builtin type -/
def tyV (K : PySem.W.Frag) (T : String) (x : V) (H : Hp) : Prop := match x with
  | .str _ => T = "str"
  | .int _ => T = "int"
  | .ref p => (T = "list" ∧ ∃ xs, SqL K H p xs) ∨ (T = "tuple" ∧ ∃ o, K.lookup p = some o ∧ o.cls = .type "tuple" ∧ o.dict = none) ∨
      (T = "dict" ∧ ((∃ kvs, H p = some (.dK kvs)) ∨ ∃ kvs, H p = some (.dT kvs))) ∨ (T = "set" ∧ ∃ S n, H p = some (.set S n))
  | _ => False
theorem tyV_is {pins : List (Addr × Obj)} {σ : St} {H : Hp} {s : Shared} {T : String} {x : V} {v : Value} (I : Inv X pins σ H s) (r : RelV x v) (ty : tyV X.K T x H) :
    s.TypeIs v T ∧ ∀ a, v = .ref a → ∃ ob, s.heap.get? a = some ob ∧ ob.dict = none := by
  cases x with
  | str z =>
    obtain ⟨t, rfl⟩ := r
    cases (show T = "str" from ty)
    exact ⟨typeIs_str s z t, fun _ e => nomatch e⟩
  | int i =>
    obtain ⟨t, rfl⟩ := r
    cases (show T = "int" from ty)
    exact ⟨typeIs_int s i t, fun _ e => nomatch e⟩
  | ref p =>
    cases r
    rcases ty with ⟨rfl, xs, hq⟩ | ⟨rfl, o, hk, hc, hd⟩ | ⟨rfl, hk⟩ | ⟨rfl, S, n, hk⟩
    · obtain ⟨its, _, pl, _⟩ := I.list hq
      refine ⟨pl.isList.typeIs, fun a e => ?_⟩
      cases e
      obtain ⟨o, n, e, c, hd, _⟩ := pl
      exact ⟨o, e, hd⟩
    · refine ⟨⟨o, I.kIn p o hk, hc⟩, fun a e => ?_⟩
      cases e
      exact ⟨o, I.kIn _ o hk, hd⟩
    · have z : ∃ o, s.heap.get? p = some o ∧ o.ExactDict := by
        rcases hk with ⟨kvs, hk⟩ | ⟨kvs, hk⟩
        · obtain ⟨_, _, _, _, o, _, _, e, ex, _⟩ := I.hok p _ hk
          exact ⟨o, e, ex⟩
        · obtain ⟨_, _, _, _, o, _, _, e, ex, _⟩ := I.hok p _ hk
          exact ⟨o, e, ex⟩
      obtain ⟨o, e, ex⟩ := z
      refine ⟨⟨o, e, ex.1⟩, fun a e2 => ?_⟩
      cases e2
      exact ⟨o, e, ex.2.1⟩
    · obtain ⟨o, _, _, _, e, ex, _⟩ := I.hok p _ hk
      refine ⟨⟨o, e, ex.1⟩, fun a e2 => ?_⟩
      cases e2
      exact ⟨o, e, ex.2.1⟩
  | _ => exact False.elim ty
def tBM0 (K : PySem.W.Frag) (T : String) (r : V → List V → Hp → VK → Prop) (to : TE) : TE := fun σ H Q => to σ H fun x H1 => tyV K T x H1 ∧ r x [] H1 Q
def tBM (K : PySem.W.Frag) (T : String) (r : V → List V → Hp → VK → Prop) (to : TE) (t : TA) : TE := fun σ H Q => to σ H fun x H1 => tyV K T x H1 ∧ t σ H1 fun xs H2 => r x xs H2 Q
variable {o e : Expr} {es : List Expr} {to : TE} {t : TA} {name : Str} {apos cpos : Pos} {T id : String} {r : V → List V → Hp → VK → Prop}
theorem pe_bm0 (pa : PlainAttrs T) (slot : Slot T name id) (hty : typeOf (.builtin id) = pure (.type "method_descriptor")) (hm : MtR X id r) (ho : PE X o to)
    (hbase : attributeBase o name X.env (eval o X.env) = eval o X.env := by rfl) (hline : (apos.endLine == cpos.line) = true := by rfl) : PE X (.Call (.Attribute o name apos) [] [] cpos) (tBM0 X.K T r to) := by
  intro pins s σ H Q I h
  refine wpAny_Call_method0_late hbase hline (thn (ho pins s σ H _ I h) fun v s1 ⟨x, H1, I1, r1, ty, q1⟩ => ?_)
  obtain ⟨h1, h2⟩ := tyV_is I1 r1 ty
  exact ⟨T, id, pa, slot, hty, h1, h2, Calls.callWith_builtin rfl (PySem.evalArgs_none (hm pins s1 σ H1 x [] v [] Q I1 r1 .nil q1))⟩
theorem pe_bm (pa : PlainAttrs T) (slot : Slot T name id) (hty : typeOf (.builtin id) = pure (.type "method_descriptor")) (hm : MtR X id r) (ho : PE X o to) (ha : PA X (e :: es) t)
    (hbase : attributeBase o name X.env (eval o X.env) = eval o X.env := by rfl)
    (hfew : ((backTo cpos (starEach (e :: es) X.env)).all (fun x => !x.1) && (backToKw cpos (keywordEach [] X.env)).all (fun x => x.1.isSome)
      && decide ((e :: es).length + ([] : List Keyword).length + (if ([] : List Keyword).isEmpty then 0 else 1) < 30)) = true := by rfl)
    (hline : (apos.endLine == cpos.line) = true := by rfl) (hs : starEach (e :: es) X.env = (false, eval e X.env) :: starEach es X.env := by rfl) (hplain : (backTo cpos (starEach es X.env)).any (·.1) = false := by rfl) :
    PE X (.Call (.Attribute o name apos) (e :: es) [] cpos) (tBM X.K T r to t) := by
  intro pins s σ H Q I h
  refine wpAny_Call_method_late hbase hfew hline rfl (thn (ho pins s σ H _ I h) fun v s1 ⟨x, H1, I1, r1, ty, q1⟩ => ?_)
  obtain ⟨h1, h2⟩ := tyV_is I1 r1 ty
  refine ⟨T, id, pa, slot, hty, h1, h2, ?_⟩
  have hA := ha cpos pins s1 σ H1 _ I1 q1
  rw [hs] at hA ⊢
  refine Calls.callWith_builtin (by show (false || (backTo cpos (starEach es X.env)).any (·.1)) = false; rw [hplain] <;> rfl) (Calls.evalArgs_plain ?_)
  exact thn hA fun us s2 ⟨vs, H2, I2, r2, q2⟩ => hm pins s2 σ H2 x vs v us Q I2 r1 r2 q2
/- xs.append(e), list.index on a module's tuple .. are MtR facts of 06m -/
end
end L2

namespace L2
open PySem PySem.Spec PyProof.Rows

def MtM (X : Cx) (id : String) (r : V → List V → Hp → VK → Prop) : Prop :=
  ∀ (pins : List (Addr × Obj)) (s : Shared) (σ : St) (H : Hp) (x : V) (xs : List V) (v : Value) (us : List Value) (Q : VK), Inv X pins σ H s → RelV x v → Vals xs us → r x xs H Q →
    wpAny (model X.prog X.w) X.A (call (.builtin id) (v :: us)) (EP X pins σ Q) X.xe s

/-! ### lists of values -/
theorem Vals.one : ∀ {x : V} {us : List Value}, Vals [x] us → ∃ u, us = [u] ∧ RelV x u
  | _, _, .cons r .nil => ⟨_, rfl, r⟩
theorem Vals.two : ∀ {x y : V} {us : List Value}, Vals [x, y] us → ∃ u v, us = [u, v] ∧ RelV x u ∧ RelV y v
  | _, _, _, .cons r (.cons q .nil) => ⟨_, _, rfl, r, q⟩
theorem Vals.zero : ∀ {us : List Value}, Vals [] us → us = []
  | _, .nil => rfl
theorem Vals.dropLast {xs : List V} {us : List Value} (h : Vals xs us) : Vals xs.dropLast us.dropLast := by
  induction h with
  | nil => exact .nil
  | cons r t ih =>
    cases t with
    | nil => exact .nil
    | cons q t' => exact .cons r ih
theorem Vals.eraseIdx : ∀ {xs : List V} {us : List Value} (i : Nat), Vals xs us → Vals (xs.eraseIdx i) (us.eraseIdx i)
  | _, _, _, .nil => .nil
  | _, _, 0, .cons _ t => t
  | _, _, i + 1, .cons r t => .cons r (Vals.eraseIdx i t)
theorem Vals.reverse {xs : List V} {us : List Value} (h : Vals xs us) : Vals xs.reverse us.reverse := by
  induction h with
  | nil => exact .nil
  | cons r t ih => rw [List.reverse_cons, List.reverse_cons]; exact Vals.append ih (.cons r .nil)
theorem erase_last {α : Type} (l : List α) : l.eraseIdx (l.length - 1) = l.dropLast := by
  induction l with
  | nil => rfl
  | cons a r ih =>
    cases r with
    | nil => rfl
    | cons b r =>
      have e : (a :: b :: r).length - 1 = ((b :: r).length - 1) + 1 := by
        have h1 : (a :: b :: r).length = r.length + 2 := rfl
        have h2 : (b :: r).length = r.length + 1 := rfl
        omega
      rw [e, List.eraseIdx_cons_succ, ih]
      all_goals rfl
section
variable {X : Cx} {pins : List (Addr × Obj)} {σ : St} {H : Hp} {s : Shared} {l b : Addr} {xs ys zs : List V}

/-! ### the two steps: a tracked list is rewritten, a new list is laid -/
theorem Inv.lset {its its' : List Value} {n : Nat} {f : Array Value → Array Value} {t' : Nat} (I : Inv X pins σ H s) (hH : H l = some (.lst xs))
    (e : s.heap.get? l = some { cls := .type "list", data := .seq its.toArray n }) (hf : f its.toArray = its'.toArray) (hv : Vals ys its') (hz : ys.length ≤ sizeLine) :
    Inv X pins σ (upd H l (.lst ys)) { s with heap := s.heap.update l (Obj.mapSeq f), toks := t' } := by
  have q := PySem.IsL.update e f
  rw [hf] at q
  refine I.write (x := l) (e := l) (by rw [hH]; exact trivial) (.inl rfl) (fun b' u hb hu => (Heap.get?_update_other s.heap (Obj.mapSeq f) (Ne.symm hb)).trans hu) ⟨_, q⟩ ?_
  exact ⟨hz, its', _, hv, q⟩
theorem Inv.lnew {its : List Value} {t' : Nat} (I : Inv X pins σ H s) (hv : Vals ys its) (hz : ys.length ≤ sizeLine) :
    Inv X pins σ (upd H s.heap.objs.size (.lst ys)) { s with heap := s.heap.push { cls := .type "list", data := .seq its.toArray }, toks := t' } :=
  I.laid (fun _ _ q => Heap.get?_push_of_some _ q) (Nat.le_refl _) ⟨hz, its, 0, hv, Heap.get?_push_size _ rfl⟩
theorem Inv.fresh (I : Inv X pins σ H s) : H s.heap.objs.size = none := I.hok.fresh (Nat.le_refl _)
theorem Inv.lstM (I : Inv X pins σ H s) (hH : H l = some (.lst xs)) : xs.length ≤ sizeLine ∧ ∃ (its : List Value) (n : Nat), Vals xs its ∧ xs.length = its.length ∧ s.heap.get? l = some { cls := .type "list", data := .seq its.toArray n } := by
  obtain ⟨z, its, n, r, e⟩ := I.hok l _ hH
  exact ⟨z, its, n, r, r.length, e⟩

theorem notLongL {n : Nat} (h : n ≤ sizeLine) : Builtin.List.listTooLong n = false := by
  unfold Builtin.List.listTooLong
  exact decide_eq_false (by omega)
end

section
variable {X : Cx}

/-! ### methods -/
def rAppend : V → List V → Hp → VK → Prop := fun x vs H Q => ∃ l xs y, x = .ref l ∧ vs = [y] ∧ H l = some (.lst xs) ∧ xs.length < sizeLine ∧ Q .non (upd H l (.lst (xs ++ [y])))
theorem mt_append : MtM X "list.append" rAppend := by
  intro pins s σ H x vs v us Q I rx rv h
  obtain ⟨l, xs, y, rfl, rfl, hH, hz, q⟩ := h
  cases rx
  obtain ⟨u, rfl, ru⟩ := rv.one
  obtain ⟨z, its, n, r, hl, e⟩ := I.lstM hH
  refine call_meets F.slot_list_append ⟨_, e, rfl⟩ F.entry_list_append (F.args_list_append_2 _ _) (PySem.list_append l its.toArray n u (by rw [List.size_toArray]; omega)) ⟨e, ?_⟩
  refine ⟨.non, _, I.lset (its' := its ++ [u]) hH e (by simp) (r.append (.cons ru .nil)) ?_, rfl, q⟩
  rw [List.length_append, List.length_singleton]
  omega

def rExtend : V → List V → Hp → VK → Prop := fun x vs H Q => ∃ l b xs zs, x = .ref l ∧ vs = [.ref b] ∧ H l = some (.lst xs) ∧ H b = some (.lst zs) ∧ xs.length + zs.length ≤ sizeLine ∧ Q .non (upd H l (.lst (xs ++ zs)))
def rPop : V → List V → Hp → VK → Prop := fun x vs H Q => ∃ l xs y, x = .ref l ∧ vs = [] ∧ H l = some (.lst xs) ∧ xs[xs.length - 1]? = some y ∧ Q y (upd H l (.lst xs.dropLast))
theorem mt_pop : MtM X "list.pop" rPop := by
  intro pins s σ H x vs v us Q I rx rv h
  obtain ⟨l, xs, y, rfl, rfl, hH, hy, q⟩ := h
  cases rx
  have hus := rv.zero
  subst hus
  obtain ⟨z, its, n, r, hl, e⟩ := I.lstM hH
  obtain ⟨u, hu, ru⟩ := r.get hy
  have hy' : its.toArray[its.toArray.size - 1]? = some u := by
    show its.toArray[its.length - 1]? = some u
    rw [← Array.getElem?_toList, ← hl]
    exact hu
  refine call_meets F.slot_list_pop ⟨_, e, rfl⟩ F.entry_list_pop (F.args_list_pop_1 _) (MeetsSeq.list_pop_last l its.toArray n u hy' (by rw [List.size_toArray]; omega)) ⟨e, ?_⟩
  refine ⟨y, _, I.lset (its' := its.dropLast) hH e ?_ r.dropLast ?_, ru, q⟩
  · show its.toArray.eraseIdxIfInBounds (its.toArray.size - 1) = its.dropLast.toArray
    rw [List.size_toArray, List.eraseIdxIfInBounds_toArray, erase_last]
  · rw [List.length_dropLast]
    omega

def rPopAt : V → List V → Hp → VK → Prop := fun x vs H Q => ∃ l xs i k y, x = .ref l ∧ vs = [.int i] ∧ H l = some (.lst xs) ∧ -(2 ^ 63) ≤ i ∧ i < 2 ^ 63 ∧ seqIndex? i xs.length = some k ∧ xs[k]? = some y ∧ Q y (upd H l (.lst (xs.eraseIdx k)))
def rReverse : V → List V → Hp → VK → Prop := fun x vs H Q => ∃ l xs, x = .ref l ∧ vs = [] ∧ H l = some (.lst xs) ∧ Q .non (upd H l (.lst xs.reverse))
def rClear : V → List V → Hp → VK → Prop := fun x vs H Q => ∃ l xs, x = .ref l ∧ vs = [] ∧ H l = some (.lst xs) ∧ Q .non (upd H l (.lst []))
/-! ### list + list, list += list, list * int -/
def rCat : R2 := fun x y H Q => ∃ l b xs zs, x = .ref l ∧ y = .ref b ∧ H l = some (.lst xs) ∧ H b = some (.lst zs) ∧ xs.length + zs.length ≤ sizeLine ∧ ∀ p, H p = none → Q (.ref p) (upd H p (.lst (xs ++ zs)))
theorem op_cat : OpR X (binaryOp .Add) rCat := by
  intro pins s σ H x y v u Q I rx ry h
  obtain ⟨l, b, xs, zs, rfl, rfl, hH, hB, hz, q⟩ := h
  cases rx
  cases ry
  obtain ⟨z, its, n, r, hl, e⟩ := I.lstM hH
  obtain ⟨z2, its2, n2, r2, hl2, e2⟩ := I.lstM hB
  refine PySem.P.add_list e e2 ?_ (by rw [List.size_toArray, List.size_toArray]; omega)
  have ea : its.toArray ++ its2.toArray = (its ++ its2).toArray := by simp
  rw [ea]
  exact ⟨.ref _, _, I.lnew (t' := s.toks) (r.append r2) (by rw [List.length_append]; omega), rfl, q _ I.fresh⟩
/-- a list times an int (a negative one is nothing) -/
def rRep : R2 := fun x y H Q => ∃ l k xs, x = .ref l ∧ y = .int k ∧ H l = some (.lst xs) ∧ -(2 ^ 63) ≤ k ∧ k < 2 ^ 63 ∧ xs.length * k.toNat ≤ sizeLine ∧
  ∀ p, H p = none → Q (.ref p) (upd H p (.lst (List.replicate k.toNat xs).flatten))
/-! ### del xs[i] -/
end

/-! ### xs[a:b] = ys -/
section
variable {prog : Program} {w : World} {A : Around} {E : Value → Shared → Prop} {s : Shared}
theorem bounds_run {a c n : Nat} (hac : a ≤ c) (hc : c ≤ n) : sliceBounds (some (a : Int)) (some (c : Int)) none n = ((a : Int), (c : Int), 1) := by
  simp only [sliceBounds, Option.getD_none]
  have h1 : ¬ ((a : Int) < 0) := by omega
  have h2 : ¬ ((c : Int) < 0) := by omega
  simp only [h1, h2, if_false, show (1 : Int) > 0 by decide, if_true]
  congr 1
  · omega
  · congr 1; omega
set_option maxRecDepth 100000 in
/-- list.__setitem__ with a slice of step one and another list -/
theorem setItem_slice {l b sl : Addr} {items new : Array Value} {n n2 : Nat} {vl vu : Value} {a c : Nat} {Q : Unit → Shared → Prop}
    (e : s.heap.get? l = some { cls := .type "list", data := .seq items n }) (e2 : s.heap.get? b = some { cls := .type "list", data := .seq new n2 }) (hne : l ≠ b)
    (hs : s.heap.IsSliceOf sl vl vu .none) (pl : IsPart vl (some (a : Int))) (pu : IsPart vu (some (c : Int))) (hac : a ≤ c) (hc : c ≤ items.size)
    (hsz : items.size + new.size ≤ sizeLine) (h : Q () { s with heap := s.heap.update l (Obj.mapSeq fun xs => xs.extract 0 a ++ new ++ xs.extract c xs.size) }) :
    wpAny (model prog w) A (setItem (.ref l) (.ref sl) (.ref b)) Q E s := by
  have hl : s.heap.IsList l items := PySem.IsL.isList e
  have hb : s.heap.IsList b new := PySem.IsL.isList e2
  obtain ⟨os, hos, hcs, hds⟩ := id hs
  have hTs : s.TypeIs (.ref sl) "slice" := ⟨os, hos, hcs⟩
  have hstep : ¬ ((rawPart none == rawInt 0) = true) := Bool.false_ne_true
  have hsame : Builtin.List.listSameRef (.ref l) (.ref b) = false := by
    unfold Builtin.List.listSameRef
    exact beq_eq_false_iff_ne.mpr hne
  have hmax : (max (a : Int) (c : Int)).toNat = c := by omega
  have hz' : ((fun xs : Array Value => xs.extract 0 a ++ new ++ xs.extract c xs.size) items).size ≤ sizeLine + 1 := by
    simp only [Array.size_append, Array.size_extract]
    omega
  unfold setItem
  try with_reducible refine wpAny_holding ?_
  first | refine wpAny_bind (wpAny_pure ?_) | skip
  refine wpAny_bind (wpAny_sequenceKey hl.typeIs (by decide) ?_)
  refine wpAny_bind (wpAny_callSpecial?_slot (name := Str.ofString "__setitem__") hl.typeIs slot_list_setitem
    (wpAny_call_entry slot_list_setitem hl.typeIs entry_list_setitem ?_ (args_list_setitem _ _ _)))
  show wpAny _ _ (Builtin.List.listSubscript? (.ref sl) >>= _) _ _ s
  refine wpAny_bind ?_
  unfold Builtin.List.listSubscript?
  refine wpAny_bind (wpAny_specialOf hTs slice_no_index ?_)
  simp only [Option.isNone_none, if_true]
  refine wpAny_pure ?_
  show wpAny _ _ (typeOf (.ref sl) >>= _) _ _ s
  refine wpAny_bind (wpAny_typeOf hTs ?_)
  first
    | rw [if_neg (by decide)]
    | refine PySem.W.KFB.if_not (by decide) ?_
  rw [listSliceParts_eq]
  refine wpAny_bind (wpAny_bind (wpAny_field hos hds (x := .none) rfl (wpAny_bind (wpAny_listPart .none ?_))))
  rw [if_neg hstep]
  refine wpAny_bind (wpAny_field hos hds (x := vl) rfl (wpAny_bind (wpAny_listPart pl ?_)))
  refine wpAny_bind (wpAny_field hos hds (x := vu) rfl (wpAny_bind (wpAny_listPart pu (wpAny_pure ?_))))
  first
    | simp only [hsame, Bool.false_eq_true, if_false]
    | refine PySem.W.KFB.if_not hsame ?_
    | (dsimp only
       rw [if_neg (by rw [hsame]; exact Bool.false_ne_true)])
  refine wpAny_bind (m := Builtin.List.listAllItems (.ref b) "must assign iterable to extended slice") ?_
  unfold Builtin.List.listAllItems
  refine wpAny_bind (wpAny_typeOf hb.typeIs ?_)
  first
    | refine PySem.W.KFB.if_so (by decide) ?_
    | rw [if_pos (by decide)]
    | simp only [beq_self_eq_true, Bool.true_or, if_true]
  unfold Builtin.List.listItems
  refine wpAny_bind (wpAny_seqItems e2 rfl (wpAny_pure ?_))
  refine wpAny_bind (wpAny_bind (wpAny_seqItems e rfl (wpAny_pure ?_)))
  refine wpAny_bind (wpAny_of_eq ((sliceIndices_raw (some (a : Int)) (some (c : Int)) none items.size (by simp)).trans (congrArg (pure : Int × Int × Int → Sem (Int × Int × Int)) (bounds_run hac hc))) ?_)
  show wpAny _ _ (if ((1 : Int) == 1) = true then _ else _) _ _ s
  rw [if_pos (by decide)]
  refine wpAny_bind (wpAny_rule ?_)
  first
    | simp only [notLongL hsz, Bool.false_eq_true, if_false]
    | refine PySem.W.KFB.if_not (notLongL hsz) ?_
  first | refine wpAny_bind (wpAny_pure ?_) | skip
  show wpAny _ _ (updateSeq l (fun xs => xs.extract 0 ((a : Int)).toNat ++ new ++ xs.extract (max (a : Int) (c : Int)).toNat xs.size) >>= _) _ _ s
  rw [hmax, Int.toNat_natCast]
  refine wpAny_bind (wpAny_updateSeq (hz := Nat.le_trans (Nat.le_add_right _ _) hsz) (_hz' := hz') e rfl ?_)
  refine wpAny_bind (wpAny_letGo ?_)
  first
    | exact wpAny_bind (wpAny_pure (wpAny_pure ⟨.none, rfl, wpAny_pure h⟩))
    | exact wpAny_pure ⟨.none, rfl, wpAny_pure h⟩
end

section
variable {X : Cx}
end
end L2

namespace Att
open PySem PySem.W PySem.Calls PyProof.Rows

/-! ### the script -/
theorem ints_of_wellAll {P : Params} {h : Heap} : ∀ (ns : List Int) (vs : List Value), WellAll P h vs (ns.map WData.int) → IntsAre vs ns := by
  intro ns
  induction ns with
  | nil =>
    intro vs w
    rw [List.map_nil] at w
    cases w
    exact .nil
  | cons n ns ih =>
    intro vs w
    rw [List.map_cons] at w
    cases w with
    | cons a b =>
      cases a
      exact .cons _ _ (ih _ b)

theorem script_of {l : OpenLaw} {n : Nat} (hn : l.most = some n) {P : Params} {h : Heap} {args : List WData} {vals : List Value}
    (hpre : l.row.toRowW.claim.pre args = true) (hwl : WellAll P h vals args) :
    ∃ a vs ns, vals = [Value.ref a] ∧ args = [WData.list (ns.map WData.int)] ∧ h.get? a = some { cls := .type "list", data := .seq vs.toArray } ∧ IntsAre vs ns ∧ ns.length ≤ n := by
  have hsh : WShape.hasAll [] args [.list .int] = true := (pre_splitW hpre).1
  have hc : l.pre.holds [] { args := args } = true := (pre_splitW hpre).2
  obtain ⟨d, r, rfl, h1, h2⟩ := hasAllW_cons hsh
  obtain rfl := hasAllW_nil h2
  obtain ⟨xs, rfl, h3⟩ := hasW_list h1
  obtain ⟨ns, rfl⟩ := items_int h3
  have hlen : ns.length ≤ n := by
    unfold OpenLaw.pre at hc
    have h4 : (WTm.not (.lt (.lit (.int (n : Int))) (.len (.arg 0)))).holds [] { args := [.list (ns.map .int)] } = true := by
      have h4 := (holds_andW hc).1
      rw [hn] at h4
      exact h4
    have h5 := condW_of h4 (w_not (w_lt w_lit (w_len_list (w_arg rfl))))
    rw [List.length_map] at h5
    refine Nat.le_of_not_lt fun q => ?_
    have q' : (n : Int) < ((ns.length : Nat) : Int) := by omega
    first
      | (rw [decide_eq_true q'] at h5; exact absurd h5 (by decide))
      | (simp at h5; omega)
  cases hwl with
  | cons w1 w2 =>
    cases w2
    cases w1 with
    | list ho hall => exact ⟨_, _, ns, rfl, rfl, ho, ints_of_wellAll ns _ hall, hlen⟩

theorem post_true (l : OpenLaw) (args : List WData) : l.row.toRowW.claim.post args (.bool true) args = true :=
  postW_of (r := l.row.toRowW) (X := (true == true))
    (show WShape.has [] (.bool true) .bool = true by first | rfl | decide | simp [WShape.has, WShape.arms, WShape.armsAll])
    (show (WTm.eq .res (.lit (.bool true))).value [] { args := args, res := some (.bool true), after := args } = some (.bool (true == true)) from w_eq_bool (w_res rfl) w_lit) rfl

/-! ### the attachment: holds_open's last premise (the goal 'hc' behind k_head) from a wpAny of the law's body -/
/-- the same from a codeAny of the CALL (for a layer whose function contracts speak of calls) -/
theorem attach_call {l : OpenLaw} {n : Nat} {q : Program} {loose : List Str} {XP : (Str → Option Value) → Heap → Prop} {YP : World → Heap → Prop} {d : DefRec}
    (hn : l.most = some n) (hdf : d.params.defaults = [])
    (call : ∀ (w : World) (s₀ s₁ : Shared) (mg mb : Str → Option Value) (fa : Addr) (o : Obj) (pm cd doc : Value) (a : Addr) (vs : List Value) (ns : List Int),
      Ground q loose [] XP w s₀ mg mb s₁.heap → YP w s₁.heap →
      s₁.heap.get? fa = some o → o.data = .func (docDef d.name d.params d.body d.scope pm cd doc) → s₁.heap.CodeRec cd d.name → mg d.name = some (.ref fa) →
      s₁.heap.get? a = some { cls := .type "list", data := .seq vs.toArray } → IntsAre vs ns → ns.length ≤ n → s₁.gens = #[] →
      codeAny (model l.prog w) callerA (.call (.ref fa) ⟨[.ref a], []⟩) (fun r s' => r = .ok (.ret (.bool true)) ∧ OldK s₁.heap s'.heap ∧ s'.os = s₁.os ∧ AllBare s'.gens) s₁) :
    WalkO q loose XP YP l.row.toRowW d [] (fun f vs => PySem.call f vs) := by
  intro w s₀ s₁ mg mb G Y fa o pm cd doc dV kV ho hd hcd hD hmg hg args vals as hpre hlay hrd hwl hlo
  obtain rfl : dV = .none := Dflts.none hD hdf
  obtain rfl : kV = .none := Dflts.noKw hD
  obtain ⟨a, vs, ns, rfl, rfl, hobj, hints, hlen⟩ := script_of hn hpre hwl
  refine enter_call (codeAny_mono (call w s₀ s₁ mg mb fa o pm cd doc a vs ns G Y ho (fd_plain hd) hcd hmg hobj hints hlen hg) fun r s' hq => ?_)
  obtain ⟨rfl, h2, h3, h4⟩ := hq
  exact ⟨.inl ⟨.bool true, .bool true, [], rfl, fun _ => rfl, .bool true, post_true l _, fun _ => ⟨List.Pairwise.nil, fun _ hm => (nomatch hm)⟩⟩, h2, h3, h4⟩

/-! ### rules over ANY heap (no ledger) from facts about the written part K: the library's own take a ledger (News) for what they write -/
section
variable {prog : Program} {w : World} {A : Around} {E : Value → Shared → Prop} {s : Shared} {K : Frag}

/-! the whole heap as the ledger: makes every rule that writes through a ledger a rule over any heap -/
def noObjs (h : Heap) : Heap := { h with objs := #[] }
def ledger (h : Heap) (L d : Addr) : List (Addr × Obj) := (List.range h.objs.size).filterMap fun a => if a = L ∨ a = d then none else (h.get? a).map fun o => (a, o)
end
end Att

namespace L2
open PySem PySem.Spec PyProof.Rows

theorem vals_ints : ∀ {vs : List Value} {ns : List Int}, IntsAre vs ns → Vals (ns.map V.int) vs
  | _, _, .nil => .nil
  | _, _, .cons n t h => .cons ⟨t, rfl⟩ (vals_ints h)

/-- nothing is tracked but the script, known to the object (or it is an object of the module) -/
def Only (H : Hp) : Prop := ∀ b, H b = none ∨ ∃ o xs, H b = some (.frz o (.lst xs))

/-- THE HEAD: the law's promise, at the heap behind the top. F, the promise of the law's def, may use that base is part of the heap (so K.In base, base.Ns mainGlobals mg stand in Mod) -/
theorem law_call {P : Program} {w : World} {K : PySem.W.Frag} {mg mb : Str → Option Value} {CX : CXT} {k : Nat} {fa a : Addr} {fd : FuncData} {x : Str} {sp : Sp} {s₁ : Shared} {vs : List Value} {ns : List Int}
    (KX : K.In s₁.heap) (hns : s₁.heap.Ns mainGlobals mg) (hb : s₁.heap.Ns builtinsNs mb) (hbb : ∀ x : Str, x ≠ "__name__" → mb x = bootBuiltins x) (hlim : s₁.heap.NoLimit) (hg : s₁.gens = #[])
    (ha : s₁.heap.get? a = some { cls := .type "list", data := .seq vs.toArray }) (hi : IntsAre vs ns) (hl : ns.length ≤ sizeLine) (hr : Room k callerA)
    (F : ∀ base : Heap, K.In base → base.Ns mainGlobals mg → FnOk P w K mg base CX k fa fd [x] sp) (hbind : ∀ (s : Shared) (u : Value), BindsTo s fd ⟨[u], []⟩ [(x, u)])
    (hsp : ∀ H : Hp, Only H → SqL K H a (ns.map V.int) → sp [.ref a] H (fun v _ => v = .bl true) fun _ _ _ => False)
    (hCX : ∀ H e s', CX [] H s₁ (fun _ _ _ => False) e s' → False) :
    codeAny (model P w) callerA (.call (.ref fa) ⟨[.ref a], []⟩) (fun r s' => r = .ok (.ret (.bool true)) ∧ OldK s₁.heap s'.heap ∧ s'.os = s₁.os ∧ AllBare s'.gens) s₁ := by
  have rv := vals_ints hi
  have lenV := hi.length
  -- from an abstract heap in which nothing but the script may be tracked
  have core : ∀ H : Hp, Only H → SqL K H a (ns.map V.int) → HOk P w H s₁.heap → (∀ b, H b ≠ none → b = a) → (H a ≠ none → K.lookup a = none) →
      codeAny (model P w) callerA (.call (.ref fa) ⟨[.ref a], []⟩) (fun r s' => r = .ok (.ret (.bool true)) ∧ OldK s₁.heap s'.heap ∧ s'.os = s₁.os ∧ AllBare s'.gens) s₁ := by
    intro H hO hS hok hA hK
    have base_of : ∀ {b : Addr} {o : Obj}, s₁.heap.get? b = some o → H b = none → (hidT s₁.heap H).get? b = some o := fun e n => hidT_get e n
    have noA : ∀ {b : Addr} {o : Obj} {es : Array DictEntry} {ep : Nat}, s₁.heap.get? b = some o → o.data = .dict es ep → H b = none := fun {b o es ep} e d => by
      cases q : H b with
      | none => rfl
      | some u =>
        have e' : b = a := hA b (by rw [q]; simp)
        subst e'
        rw [ha] at e; cases e
        have d' : Data.seq vs.toArray _ = Data.dict es ep := d
        cases d'
    have nsK : ∀ {b : Addr} {m : Str → Option Value}, s₁.heap.Ns b m → (hidT s₁.heap H).Ns b m := fun {b m} ⟨o, es, ep, e, d, r⟩ => ⟨o, es, ep, base_of e (noA e d), d, r⟩
    have hKb : K.In (hidT s₁.heap H) := fun b o e => base_of (KX b o e) (by
      cases q : H b with
      | none => rfl
      | some u =>
        have e' : b = a := hA b (by rw [q]; simp)
        subst e'
        rw [hK (by rw [q]; simp)] at e; cases e)
    have hM : Mod K mg (hidT s₁.heap H) := ⟨hKb, nsK hns, ⟨mb, nsK hb, hbb⟩, let ⟨mc, h1, h2⟩ := hlim; ⟨mc, nsK h1, h2⟩⟩
    have e0 : Env0 P w K mg (hidT s₁.heap H) callerA [] s₁ H := ⟨rfl, hM, fun b o e => of_hidT e, Nat.le_of_eq (hidT_size _ _), trivial, fun b hb => absurd (show b ∈ ([] : List Addr) from hb) (by simp), hok, .of_eq hg⟩
    refine codeAny_mono ((F _ hKb (nsK hns)).run callerA [] s₁ H ⟨[.ref a], []⟩ [.ref a] [.ref a] _ _ hr e0 (hbind s₁ (.ref a)) (.cons rfl .nil) (hsp H hO hS)) fun r s' h => ?_
    cases r with
    | error e => exact (hCX H e s' h).elim
    | ok fl =>
      cases fl with
      | next => exact False.elim h
      | brk => exact False.elim h
      | cont => exact False.elim h
      | ret u =>
        obtain ⟨v, H', os, bare, un, hok', r', q⟩ := h
        have q' : v = .bl true := q
        subst q'
        obtain rfl : u = Value.bool true := r'
        refine ⟨rfl, OldK.of_keep fun b o e => ?_, os, bare⟩
        cases q : H b with
        | none => exact un.keep b o e q (by intro z; exact absurd (show b ∈ ([] : List Addr) from z) (by simp)) (by simp)
        | some u =>
          rcases hO b with z | ⟨ob, xs, z⟩
          · rw [q] at z; cases z
          · have z2 := un.frzs b ob _ z
            obtain ⟨e1, _⟩ := hok b _ z
            obtain ⟨e2, _⟩ := hok' b _ z2
            rw [e] at e1; cases e1
            exact e2
  cases hk : K.lookup a with
  | some o =>
    -- the script is one of the module's own objects
    have e := KX a o hk
    rw [ha] at e
    cases e
    refine core (fun _ => none) (fun _ => .inl rfl) (.inr ⟨_, vs.toArray, _, hk, rfl, rfl, rfl, by rw [List.size_toArray, lenV]; exact hl, by simpa using rv⟩) (fun b u z => by have z' : (none : Option HO) = some u := z; cases z') (fun b z => absurd rfl z) fun z => absurd rfl z
  | none =>
    refine core (fun b => if b = a then some (.frz { cls := .type "list", data := .seq vs.toArray } (.lst (ns.map V.int))) else none) (fun b => ?_) (.inl (.inr ⟨{ cls := .type "list", data := .seq vs.toArray }, if_pos rfl⟩)) (fun b u z => ?_) (fun b z => ?_) fun _ => hk
    · by_cases hb : b = a
      · exact .inr ⟨_, _, if_pos hb⟩
      · exact .inl (if_neg hb)
    · by_cases hb : b = a
      · have z' := (if_pos hb).symm.trans z
        cases z'
        subst hb
        exact ⟨ha, by rw [List.length_map]; exact hl, vs, _, rv, ha⟩
      · have z' := (if_neg hb).symm.trans z
        cases z'
    · by_cases hb : b = a
      · exact hb
      · exact absurd (if_neg hb) z
end L2

namespace L2
open PySem PySem.Spec PyProof.Rows

abbrev KOf {K : PySem.W.Frag} {h : Heap} (_ : K.In h) : PySem.W.Frag := K

/-- the goal that k_head leaves (case hc), from the law's promise. F gives the function object fd (K's own) once, then the promise over every base -/
theorem walk_of {l : PySem.W.OpenLaw} {n k : Nat} {q : Program} {loose : List Str} {XP : (Str → Option Value) → Heap → Prop} {YP : World → Heap → Prop} {d : DefRec} {K : Params → PySem.W.Frag} {CX : World → CXT} {sp : World → Sp} {x : Str}
    (hn : l.most = some n) (hn2 : n ≤ sizeLine) (hdf : d.params.defaults = []) (hr : Room k callerA)
    (hY : ∀ (w : World) (h : Heap), YP w h → (K w.params).In h)
    (F : ∀ (w : World) (mg : Str → Option Value) (fa : Addr) (h : Heap), (K w.params).In h → h.Ns mainGlobals mg → mg d.name = some (.ref fa) →
      ∃ fd : FuncData, (∀ (s : Shared) (u : Value), BindsTo s fd ⟨[u], []⟩ [(x, u)]) ∧
        ∀ base : Heap, (K w.params).In base → base.Ns mainGlobals mg → FnOk l.prog w (K w.params) mg base (CX w) k fa fd [x] (sp w))
    (hsp : ∀ (w : World) (H : Hp) (a : Addr) (ns : List Int), ns.length ≤ n → Only H → SqL (K w.params) H a (ns.map V.int) → sp w [.ref a] H (fun v _ => v = .bl true) fun _ _ _ => False)
    (hCX : ∀ (w : World) (H : Hp) (s : Shared) (e : Value) (s' : Shared), CX w [] H s (fun _ _ _ => False) e s' → False) :
    PySem.W.WalkO q loose XP YP l.row.toRowW d [] (fun f vs => PySem.call f vs) := by
  refine Att.attach_call hn hdf fun w s₀ s₁ mg mb fa o pm cd doc a vs ns G Y ho hd hcd hmg hobj hints hlen hg => ?_
  have KX := hY w _ Y
  obtain ⟨fd, hb, hF⟩ := F w mg fa _ KX G.T.g hmg
  exact law_call KX G.T.g G.T.b G.T.builtins G.T.nolimit hg hobj hints (Nat.le_trans hlen hn2) hr hF hb (fun H hO hS => hsp w H a ns hlen hO hS) fun H e s' => hCX w H s₁ e s'
end L2

/- THE LAST THEOREM (shape; LID, My.* are yours):
   My.Adr: a structure of the addresses that your layer names (classes, functions); My.Txt K t: a structure (Prop) of the equations over K;
   My.txt_mk : {K} {implicit addresses ..} (e1 : nsIn K mainGlobals "law" = some (some (.ref f))) (e2 : K.lookup f = some ⟨oc, od, .func (fnOf "law" "law" params body scope dV kV doc pm an cdv ct), sl⟩) (e3 : codeIn K cdv "law" = true) .. : ∃ t, My.Txt K t

set_option maxRecDepth 100000 in
set_option maxHeartbeats 0 in
theorem PySem.Challenge.cw_LID_holds : PySem.Challenge.rw_LID.Holds := by
  w_on; o_law; k_head; (case hw => w_witness2)
  k_fill
  refine L2.walk_of (l := PySem.Challenge.rw_LID) (n := 63) (k := 40) (x := "script") (CX := fun w => ..) (sp := fun _ => My.sp_law) rfl (by decide) rfl ⟨rfl, by decide, by decide⟩ (fun w h Y => PySem.W.kIn_of Y) ?F ?S ?C
  case F =>
    intro w mg fa h KX G hmg
    have T : ∃ t, My.Txt (L2.KOf KX) t := by
      dsimp only [L2.KOf]                          -- K must stand as «<heap const> w.params» for k_is
      refine' My.txt_mk ?e1 ?e2 ?e3 ..
      (case e1 => PySem.W.k_is)                    -- in the order: a name -> its address -> its object -> its parts
      (case e2 => PySem.W.k_is)
      ..
    obtain ⟨t, T⟩ := T
    have e0 := hmg.symm.trans (PySem.W.mg_of KX G T.law)
    cases e0                                       -- fa is the law's own address
    exact ⟨_, fun s u => .of_eq rfl, fun base kb nb => My.law_fn T kb nb⟩     -- if «.of_eq rfl» comes too early: refine' ⟨_, ?b, fun base kb nb => My.law_fn T kb nb⟩; exact fun s u => .of_eq rfl
  case S => exact fun w H a ns hl hO hS => ..
  case C => exact ..
(the tactic k_is has no namespace: write k_is) -/

/-! SHORT WORDS over the layer: a def of the text, its body, what a loop and a test want. -/
namespace L2
open PySem PySem.Spec PyProof.Rows

/-! ### the text by places -/
/-- the j-th statement of a class's body -/
def inClass (s : Stmt) (j : Nat) : Stmt := match s with
  | .ClassDef _ _ _ body _ _ _ _ _ _ _ => body.getD j (.Pass ⟨0, 0, 0, 0⟩)
  | _ => .Pass ⟨0, 0, 0, 0⟩
def defArgs (s : Stmt) : Arguments := match s with
  | .FunctionDef _ a _ _ _ _ _ _ _ _ => a
  | _ => { posonlyargs := [], args := [], vararg := none, kwonlyargs := [], kw_defaults := [], kwarg := none, defaults := [] }
def defBody (s : Stmt) : List Stmt := match s with
  | .FunctionDef _ _ b _ _ _ _ _ _ _ => b
  | _ => []
def defScope (s : Stmt) : Scope := match s with
  | .FunctionDef _ _ _ _ _ _ sc _ _ _ => sc
  | _ => { kind := .function, names := [], isGenerator := false, isCoroutine := false }

/-! ### no exception leaves a def -/
abbrev CX0 : CXT := fun _ _ _ _ _ _ => False
abbrev E0 : XK := fun _ _ _ => False
theorem pass0 {X : Cx} : Passes CX0 X E0 := fun _ _ _ _ _ _ _ h => h.elim

/-! ### a def (or method) of the text as it stands behind the top -/
structure Fun (K : PySem.W.Frag) (x qual : Str) (st : Stmt) (f : Addr) (fd : FuncData) : Prop where
  ex : ∃ (oc : Value) (od : Option Addr) (kV doc pm : Value) (an : Option Addr) (cdv ct : Value) (osl : Array (Option Value)),
    fd = PySem.W.fnOf x qual (defArgs st) (defBody st) (defScope st) .none kV doc pm an cdv ct ∧ K.lookup f = some ⟨oc, od, .func fd, osl⟩ ∧ PySem.W.codeIn K cdv qual = true
  kp : PySem.W.keepIn K (.ref f) = true
section
variable {P : Program} {w : World} {K : PySem.W.Frag} {mg : Str → Option Value} {base : Heap}
/-- THE RULE for a def: its body as a term of rules, and the reading of that term -/
theorem Fun.ok {x qual : Str} {st : Stmt} {f : Addr} {fd : FuncData} {N ps : List Str} {k : Nat} {sp : Sp} (F : Fun K x qual st f fd) (S : FnScope N ps (defScope st)) (len : ∀ vs H Q E, sp vs H Q E → vs.length = ps.length)
    (hbody : ∀ (cdv : Value) (A : Around) (outer : List Env) (s : Shared) (H : Hp) (vs : List V) (Q : VK) (E : XK), Room k (A.deeper (envOfC qual (defScope st) s.heap.objs.size f cdv)) → sp vs H Q E →
      ∃ t, PSs (cxOf CX0 P w K mg base N qual (defScope st) f cdv A outer s H E).nox (defBody st) t ∧ t { nx := fun _ H' => Q .non H', rt := Q } (start N vs) H) : FnOk P w K mg base CX0 (k + 1) f fd ps sp := by
  obtain ⟨oc, od, kV, doc, pm, an, cdv, ct, osl, rfl, lk, hcd⟩ := F.ex
  refine fn_of lk hcd S len fun A outer s H vs Q E hr hsp => ?_
  obtain ⟨t, h, q⟩ := hbody cdv A outer s H vs Q E hr hsp
  exact ⟨t, h.nox, q⟩
/-- how its arguments bind (no defaults): h is «fun _ _ _ _ _ _ us hl => match us, hl with | [_, _], _ => rfl», one _ a parameter -/
theorem Fun.binds {x qual : Str} {st : Stmt} {f : Addr} {fd : FuncData} {ps : List Str} (F : Fun K x qual st f fd)
    (h : ∀ (kV doc pm : Value) (an : Option Addr) (cdv ct : Value) (us : List Value), us.length = ps.length → bindArgs (PySem.W.fnOf x qual (defArgs st) (defBody st) (defScope st) .none kV doc pm an cdv ct) ⟨us, []⟩ = pure (ps.zip us)) : Binds K fd ps [] := by
  obtain ⟨oc, od, kV, doc, pm, an, cdv, ct, osl, rfl, lk, hcd⟩ := F.ex
  exact .all (h kV doc pm an cdv ct)
theorem fun_mk {x qual : Str} {st : Stmt} {f : Addr} {oc : Value} {od an : Option Addr} {osl : Array (Option Value)} {kV doc pm cdv ct : Value} (l : K.lookup f = some ⟨oc, od, .func (PySem.W.fnOf x qual (defArgs st) (defBody st) (defScope st) .none kV doc pm an cdv ct), osl⟩)
    (c : PySem.W.codeIn K cdv qual = true) (k : PySem.W.keepIn K (.ref f) = true) : Fun K x qual st f (PySem.W.fnOf x qual (defArgs st) (defBody st) (defScope st) .none kV doc pm an cdv ct) := ⟨⟨oc, od, kV, doc, pm, an, cdv, ct, osl, rfl, l, c⟩, k⟩
end
theorem small1000 {n : Nat} (h : n ≤ 1000) : n < sizeLine := Nat.lt_of_le_of_lt h (by decide)

/-! ### expressions in short: the name that stands in the i-th slot -/
section
variable {X : Cx}
theorem pv (i : Nat) {x : Str} {pos : Pos} (hN : X.N[i]? = some x := by rfl) (hv : Vis X.env.scope x := by first | exact Or.inl rfl | exact Or.inr (Or.inl rfl) | exact Or.inr (Or.inr rfl)) (hd : (x == ("__debug__" : Str)) = false := by decide)
    (hcd : (x == ("__classdict__" : Str)) = false := by decide) : PE X (.Name x pos) (tVar i) := pe_var hN hv hd hcd
end

/-! ### tests -/
theorem iteF {A B : Prop} (h : B) : if false = true then A else B := by
  rw [if_neg Bool.false_ne_true]
  exact h
theorem iteT {A B : Prop} (h : A) : if true = true then A else B := by
  rw [if_pos rfl]
  exact h
theorem ite2 {c A B : Prop} [Decidable c] (h1 : c → A) (h2 : ¬ c → B) : if c then A else B := by
  by_cases h : c
  · rw [if_pos h]
    exact h1 h
  · rw [if_neg h]
    exact h2 h
theorem iteNS {c A B : Prop} [Decidable c] (hc : c) (h : B) : if (!decide c) = true then A else B := by
  rw [decide_eq_true hc]
  exact iteF h

/-! ### heaps -/
/-- all that was tracked is as it was -/
def Same (H H' : Hp) : Prop := ∀ b o, H b = some o → H' b = some o
theorem Same.refl (H : Hp) : Same H H := fun _ _ h => h
theorem Same.trans {H H1 H2 : Hp} (a : Same H H1) (b : Same H1 H2) : Same H H2 := fun c o h => b c o (a c o h)
theorem Same.free {H H' : Hp} (e : Same H H') {l : Addr} (h : H' l = Option.none) : H l = Option.none := by
  cases q : H l with
  | none => rfl
  | some o =>
    rw [e l o q] at h
    cases h
theorem Same.seq {K : PySem.W.Frag} {H H' : Hp} {a : Addr} {xs : List V} (e : Same H H') (h : SqL K H a xs) : SqL K H' a xs := by
  rcases h with (h | ⟨o, h⟩) | h
  · exact .inl (.inl (e _ _ h))
  · exact .inl (.inr ⟨o, e _ _ h⟩)
  · exact .inr h

end L2

namespace NN
/-- a figure's code -/
def fig (c : Nat) : Bool := decide (48 ≤ c) && decide (c ≤ 57)
def step (n c : Nat) : Nat := 10 * n + (c - 48)
def val (cs : List Nat) : Nat := cs.foldl step 0
/-- the codes of a number's figures -/
def figs (n : Nat) : List Nat := (Nat.toDigits 10 n).map Char.toNat
theorem fig_iff {c : Nat} : fig c = true ↔ 48 ≤ c ∧ c ≤ 57 := by
  unfold fig
  rw [Bool.and_eq_true, decide_eq_true_eq, decide_eq_true_eq]
theorem digit_code : ∀ d : Nat, d < 10 → (Nat.digitChar d).toNat = d + 48 := by decide
theorem figs_one {d : Nat} (h : d < 10) : figs d = [d + 48] := by
  unfold figs
  rw [Nat.toDigits_of_lt_base h]
  show [(Nat.digitChar d).toNat] = _
  rw [digit_code d h]
theorem figs_more {m d : Nat} (hm : 0 < m) (hd : d < 10) : figs (10 * m + d) = figs m ++ [d + 48] := by
  have t : Nat.toDigits 10 m ++ Nat.toDigits 10 d = Nat.toDigits 10 (10 * m + d) := Nat.toDigits_append_toDigits (by decide) hm hd
  unfold figs
  rw [← t, List.map_append]
  have q := figs_one hd
  unfold figs at q
  rw [q]
theorem figs_zero : figs 0 = [48] := by decide
/-- a number's line: the codes of str(number) -/
def line (i : Int) : List Nat := if i < 0 then 45 :: figs i.natAbs else figs i.natAbs
def bare (cs : List Nat) : List Nat := if cs.head? = some 45 then cs.drop 1 else cs
/-- what is_number answers, what the law answers -/
def isNum (cs : List Nat) : Bool := decide (cs = [48]) || (decide (bare cs ≠ []) && (bare cs).all fig && !decide ((bare cs).head? = some 48))
def lawNum (cs : List Nat) : Bool := (bare cs).all fig && (decide (bare cs ≠ []) && decide (line (if bare cs ≠ cs then 0 - (val (bare cs) : Int) else (val (bare cs) : Int)) = cs))
end NN

set_option Elab.async false
set_option linter.all false
set_option maxRecDepth 100000
set_option maxHeartbeats 1000000
/-! Own rules beside the layer: a text walked sign by sign, its slices and methods, all(..), isinstance, a list comprehension. -/
namespace L2
open PySem PySem.Spec PyProof.Rows

/-! ### a text, sign by sign -/
def Its (z : Str) : It := ⟨fun i _ => i < z.cps.size, fun i H x H' => H' = H ∧ ∃ c, z.cps[i]? = some c ∧ x = .str ⟨#[c]⟩, fun i _ => z.cps.size ≤ i⟩
theorem turn_str {P : Program} {w : World} {K : PySem.W.Frag} {tg : Expr} (it : Addr) (z : Str) (t : Tok) (T : String) (hT : T = "str_ascii_iterator" ∨ T = "str_iterator") :
    Turn P w K tg (Its z) [it] it (fun i h => h.IsStrIter it T z t i) where
  mem := by simp
  obj := fun i h st b hb => by
    have e : b = it := by simpa using hb
    subst e
    obtain ⟨o, e, c, d⟩ := st
    exact ⟨o, e, fun v z => by rw [d] at z; cases z⟩
  keep := fun i h h' st k => let ⟨o, ho, r⟩ := st; ⟨o, k it (by simp) o ho, r⟩
  item := by
    intro X hP hw hK hc i pins s σ H E I hf st hg
    subst hP hw hK
    have hi : i < z.cps.size := hg
    obtain ⟨f0, f1, f2, f3, f4, f5⟩ := hf it (by simp)
    rcases hT with rfl | rfl
    · refine wpAny_pyNext_ascii_item st (c := z.cps[i]) (by simp [hi]) fun h' st' sb => ?_
      have I1 : Inv X pins σ H { s with heap := h', toks := s.toks + 1 } := I.turned (t' := s.toks + 1) (fun b o hb e => (sb.2 b hb).trans e) f0 f1 f3 f4 f5
      obtain ⟨o, e, c, d⟩ := id st'
      exact ⟨_, rfl, go_of (s := { s with heap := h', toks := s.toks + 1 }) e c d (by decide) ⟨.str ⟨#[z.cps[i]]⟩, H, I1, ⟨_, rfl⟩, ⟨rfl, _, by simp [hi], rfl⟩, st', fun b hb => (hf b hb).1⟩⟩
    · refine wpAny_pyNext_wide_item st (c := z.cps[i]) (by simp [hi]) fun h' st' sb => ?_
      have I1 : Inv X pins σ H { s with heap := h', toks := s.toks + 1 } := I.turned (t' := s.toks + 1) (fun b o hb e => (sb.2 b hb).trans e) f0 f1 f3 f4 f5
      obtain ⟨o, e, c, d⟩ := id st'
      exact ⟨_, rfl, go_of (s := { s with heap := h', toks := s.toks + 1 }) e c d (by decide) ⟨.str ⟨#[z.cps[i]]⟩, H, I1, ⟨_, rfl⟩, ⟨rfl, _, by simp [hi], rfl⟩, st', fun b hb => (hf b hb).1⟩⟩
  done := by
    intro X hP hw hK hc i pins s σ H E I hf st hg
    subst hP hw hK
    have hi : z.cps.size ≤ i := hg
    obtain ⟨f0, f1, f2, f3, f4, f5⟩ := hf it (by simp)
    rcases hT with rfl | rfl
    · exact wpAny_pyNext_ascii_end (I.ok.hd hc) st (by simp; omega) fun h' eb => ⟨rfl, I.turned (t' := s.toks) (fun b o hb e => eb b o hb e) f0 f1 f3 f4 f5⟩
    · exact wpAny_pyNext_wide_end (I.ok.hd hc) st (by simp; omega) fun h' eb => ⟨rfl, I.turned (t' := s.toks) (fun b o hb e => eb b o hb e) f0 f1 f3 f4 f5⟩
  self := fun _ _ _ _ _ st h => by
    rcases hT with rfl | rfl
    · exact wpAny_pyIter_striter_ascii st h
    · exact wpAny_pyIter_striter_wide st h
section
variable {X : Cx} {tg : Expr}
def iStr (tl : TE) : TI := fun σ H R => tl σ H fun x H1 => ∃ z, x = .str z ∧ R (Its z) H1
theorem pi_str {l : Expr} {tl : TE} (hl : PE X l tl) : PI X tg l (iStr tl) := by
  intro pins s σ H R I h
  refine thn (hl pins s σ H _ I h) fun v s1 ⟨x, H1, I1, r1, q1⟩ => ?_
  obtain ⟨z, e, q⟩ := q1
  subst e
  obtain ⟨t, rfl⟩ := r1
  have fin : ∀ (T : String) (ob : Obj), (T = "str_ascii_iterator" ∨ T = "str_iterator") → (s1.heap.push ob).IsStrIter s1.heap.objs.size T z t 0 → PIE X pins σ tg R (.ref s1.heap.objs.size) { s1 with heap := s1.heap.push ob } := fun T ob hT st => by
    refine ⟨s1.heap.objs.size, [s1.heap.objs.size], _, _, H1, rfl, I1.kept (t' := s1.toks) fun b o e => Heap.get?_push_of_some _ e, turn_str _ z t T hT, st, fun b hb => ?_, q⟩
    have e : b = s1.heap.objs.size := by simpa using hb
    subst e
    exact I1.fpOk (Nat.le_refl _) (I1.hok.fresh (Nat.le_refl _))
  cases ha : z.cps.all (· < 128)
  · exact wpAny_pyIter_wide ha (fin _ _ (.inr rfl) ⟨_, Heap.get?_push_size _ rfl, rfl, rfl⟩)
  · exact wpAny_pyIter_ascii ha (fin _ _ (.inl rfl) ⟨_, Heap.get?_push_size _ rfl, rfl, rfl⟩)
end
/-! ### a text's slice -/
section
variable {X : Cx}
def rSlS : V → Option Int → Option Int → Hp → VK → Prop := fun x lo hi H Q => ∃ z, x = .str z ∧ z.length ≤ sizeLine ∧ Q (.str (Txt.slice z lo hi)) H
theorem part_of {v : Value} {o : Option Int} (p : IsPart v o) : ∃ q : Option (Int × Tok), v = partValue q ∧ q.map (·.1) = o := by
  cases p with
  | none => exact ⟨none, rfl, rfl⟩
  | int i t => exact ⟨some (i, t), rfl, rfl⟩
theorem sl_str : SlR X rSlS := by
  intro pins s σ H x v vl vu lo hi sl Q I rx hs pl pu h
  obtain ⟨z, rfl, hz, q⟩ := h
  obtain ⟨t, rfl⟩ := rx
  obtain ⟨ql, rfl, rfl⟩ := part_of pl
  obtain ⟨qu, rfl, rfl⟩ := part_of pu
  obtain ⟨o, ho, hc, hd⟩ := hs
  refine ⟨"str", _, F.slot_str_getitem.lookup, typeIs_str _ _ _, wpAny_getItem_str_slice (l := ql) (u := qu) (st := none) ⟨o, ho, hc, hd⟩ rfl ?_⟩
  exact post_val_or_str ⟨Nat.le_trans (Txt.slice_le z _ _) hz, fun t' k => ⟨.str _, H, I.tok _, ⟨_, rfl⟩, q⟩⟩

/-! ### methods of a text -/
def rStart : V → List V → Hp → VK → Prop := fun x vs H Q => ∃ z y, x = .str z ∧ vs = [.str y] ∧ Q (.bl (Txt.startswith z y)) H
theorem mt_start : MtR X "str.startswith" rStart := by
  intro pins s σ H x vs v us Q I rx rv h
  obtain ⟨z, y, rfl, rfl, q⟩ := h
  obtain ⟨t, rfl⟩ := rx
  obtain ⟨u, rfl, t', rfl⟩ := Vals.one rv
  exact SC.startswith ⟨.bl _, H, I, rfl, q⟩
def rIndexS : V → List V → Hp → VK → Prop := fun x vs H Q => ∃ z y i rest, x = .str z ∧ vs = [.str y] ∧ Builtin.Str.occurrences z y 0 z.length 1 = i :: rest ∧ Q (.int (i : Nat)) H
/-! ### all(a list of bools) -/
def boolOf : V → Bool
  | .bl b => b
  | _ => false
theorem call_all (hh : X.calm = true) : CallR X (.builtin "all") (fun xs H Q => ∃ a ys, xs = [.ref a] ∧ SqL X.K H a ys ∧ (∀ y ∈ ys, ∃ b, y = .bl b) ∧ Q (.bl (ys.all boolOf)) H) := by
  intro pins s σ H xs us Q I r h
  obtain ⟨a, ys, rfl, hq, hb, q⟩ := h
  obtain ⟨u, rfl, rx⟩ := vals1 r
  cases rx
  obtain ⟨its, rv, p, hz⟩ := I.list hq
  refine call_all_walk (wpAny_pyIter_list p.isList ?_)
  have hne : a ≠ s.heap.objs.size := by
    obtain ⟨o, e, _⟩ := p.isList
    exact Nat.ne_of_lt (Heap.lt_size e)
  have hl := rv.length
  have get : ∀ (i : Nat) (v : Value), its.toArray[i]? = some v → ∃ y b, ys[i]? = some y ∧ y = .bl b ∧ v = .bool b := fun i v e => by
    have hi : i < its.length := by
      have e' : its[i]? = some v := by simpa using e
      exact (List.getElem?_eq_some_iff.mp e').1
    have hy : ys[i]? = some (ys[i]'(by omega)) := List.getElem?_eq_getElem (by omega)
    obtain ⟨w, ew, rw'⟩ := rv.get hy
    have e' : its[i]? = some v := by simpa using e
    rw [ew] at e'
    cases e'
    obtain ⟨b, eb⟩ := hb _ (List.getElem_mem (l := ys) (n := i) (by omega))
    rw [eb] at rw'
    exact ⟨_, b, hy, eb, rw'⟩
  refine ⟨s.heap.objs.size, _, _, its.toArray.size, _, _, fun i => boolOf (ys.getD i .non), rfl, Walks.list (A := X.A.in1) (show X.A.in1.handled = none from I.ok.hd hh) s.heap.objs.size a hne its.toArray, ⟨⟨_, Heap.get?_push_size _ rfl, rfl, rfl⟩, p.isList.at fun o e => Heap.get?_push_of_some _ e⟩, ?_, ?_⟩
  · intro i v s' Q' E' hP hQ
    obtain ⟨y, b, hy, rfl, rfl⟩ := get i v hP
    refine wpAny_truthy_bool ?_
    have e : boolOf (ys.getD i .non) = b := by rw [List.getD_eq_getElem?_getD, hy]; rfl
    rw [← e]
    exact hQ
  · intro h' tk hk
    have e : (List.range its.toArray.size).all (fun i => boolOf (ys.getD i .non)) = ys.all boolOf := by
      rw [List.size_toArray, ← hl]
      exact all_range ys
    rw [e]
    exact ⟨.bl _, H, I.kept (h' := h') (t' := tk) fun b o e => hk b o (by simp; exact Nat.ne_of_lt (Heap.lt_size e)) (Heap.get?_push_of_some _ e), rfl, q⟩
where
  all_range : ∀ ys : List V, (List.range ys.length).all (fun i => boolOf (ys.getD i .non)) = ys.all boolOf := fun ys => by
    rw [Bool.eq_iff_iff, List.all_eq_true, List.all_eq_true]
    constructor
    · intro h y hy
      obtain ⟨i, hi, e⟩ := List.getElem_of_mem hy
      have q := h i (List.mem_range.mpr hi)
      rw [List.getD_eq_getElem?_getD, List.getElem?_eq_getElem hi] at q
      rw [← e]
      exact q
    · intro h i hi
      have hi' := List.mem_range.mp hi
      rw [List.getD_eq_getElem?_getD, List.getElem?_eq_getElem hi']
      exact h _ (List.getElem_mem hi')

/-! ### isinstance(x, T), T a built-in type -/
theorem call_isinst {b : Bool} {T : String} {t : Value} (hk : PySem.W.kitOne X.K t (.type T) = some b) : CallR X (.builtin "isinstance") (fun xs H Q => ∃ x, xs = [x, .ty T] ∧ TyOf X.K H x t ∧ Q (.bl b) H) := by
  intro pins s σ H xs us Q I r h
  obtain ⟨x, rfl, ty, q⟩ := h
  obtain ⟨u, v, rfl, ru, rv⟩ := Vals.two r
  cases rv
  exact isinst_ok I ru ty hk fun tk => ⟨.bl b, H, I.tok _, rfl, q⟩
end
end L2

set_option Elab.async false
set_option linter.all false
set_option maxRecDepth 100000
set_option maxHeartbeats 1000000
/-! A list comprehension [e for x in ..] within a def's body. -/
namespace L2
open PySem PySem.Spec PyProof.Rows

/-- an object that stands untracked, younger than the entry, is tracked from here on -/
theorem Inv.track {X : Cx} {pins : List (Addr × Obj)} {σ : St} {H : Hp} {s : Shared} {D : Addr} {o : HO} (I : Inv X pins σ H s) (hn : H D = none) (h1 : D ∈ X.ex ∨ X.s₀.heap.objs.size ≤ D) (hL : D ≠ X.env.locals)
    (h2 : ∀ x c, X.env.cells.lookup x = some c → c ≠ D) (h3 : ∀ p ∈ X.pn ++ pins, p.1 ≠ D) (new : ObjOk X.prog X.w (upd H D o) s.heap D o) : Inv X pins σ (upd H D o) s := by
  have nit : ∀ b u, H b = some u → b ≠ D := fun b u e z => by rw [z, hn] at e; cases e
  have key := I.step (g' := s.gens) (t' := s.toks) (d' := s.drawn) (h' := s.heap) (H' := upd H D o) (ch := [D]) (fun b hb => ?_) (fun b ob _ _ _ e _ => e) (fun b ob _ _ _ e _ => ⟨ob.slots, e⟩) (fun b ob hc e n => ?_)
    (fun b ob _ e => ⟨ob, e⟩) (fun b xs e => ?_) (fun b ob u e => ?_) (fun b ps e => ⟨#[], ?_⟩) (fun m hm => hm) (fun b u e => ?_) I.bare
  · exact key
  · have e : b = D := by simpa using hb
    subst e
    exact ⟨h1, hL, h2, h3⟩
  · rw [upd_ne (fun z => hc (by simp [z]))]; exact n
  · rw [upd_ne (nit b _ e)]; exact e
  · rw [upd_ne (nit b _ e)]; exact e
  · rw [upd_ne (nit b _ e), e]; simp
  · by_cases hb : b = D
    · subst hb; rw [upd_same] at e; cases e; exact new
    · rw [upd_ne hb] at e
      refine (I.hok b u e).stay (fun c v _ q => q) (fun c q => ?_) fun c xs q => ?_
      · rw [upd_ne (nit c _ q)]; exact q
      · rw [upd_ne (nit c _ q)]; exact q

/-- the context of a comprehension's block -/
def cxComp (X : Cx) (s : Shared) (H : Hp) (C : Addr) (N : List Str) (scope : Scope) (cl : List (Str × Addr)) (fp : List Addr) : Cx where
  prog := X.prog
  w := X.w
  K := X.K
  mg := X.mg
  base := X.base
  A := X.A
  N := N
  s₀ := s
  H₀ := H
  env := compEnvC scope cl C X.env
  outer := X.stack
  stack := X.stack
  ex := fp
  fn := fun _ => false
  calm := X.calm
  pn := []
  xe := fun _ _ => False

/-- what of the text a comprehension must have: x its variable, fr its free names, js their slots in the def -/
structure CompScope (X : Cx) (scope : Scope) (cl : List (Str × Addr)) (x : Str) (js : List Nat) (fr : List Str) : Prop where
  clos : closureFor scope X.env = pure cl
  kind : scope.kind = .function
  nocell : ∀ y ∈ scope.names, y.2 ≠ .cell
  names : ∀ y ∈ scope.names, y.2 = .local → scope.names.lookup y.1 = some .local
  var : scope.names.lookup x = some .local
  sub : ∀ y c, cl.lookup y = some c → X.env.cells.lookup y = some c
  has : ∀ y, ((relabel scope X.env).names.lookup y = some .cell ∨ (relabel scope X.env).names.lookup y = some .free) → ∃ c, cl.lookup y = some c
  nd : (x :: fr).Nodup
  len : js.length = fr.length
  free : ∀ (k : Nat) (y : Str), fr[k]? = some y → ∃ j, js[k]? = some j ∧ X.N[j]? = some y ∧ Vis X.env.scope y ∧ (X.env.kindOf y = some .cell ∨ X.env.kindOf y = some .free) ∧
    ((relabel scope X.env).names.lookup y = some .cell ∨ (relabel scope X.env).names.lookup y = some .free)

/-- the block's slots: the variable, then the free names as they stand -/
def compSt (js : List Nat) (σ : St) : St := js.map fun j => (σ[j]?).getD none
def tComp (wi : TI) (js : List Nat) (te : TE) : TE := fun σ H Q => wi σ H fun J H1 => ∃ W : Nat → Nat → List V → Hp → Prop, (∃ m, W 0 m [] H1) ∧ ∀ i m ys H, W i m ys H →
  (J.stop i H ∧ ys.length ≤ sizeLine ∧ ∀ p, H p = none → Q (.ref p) (upd H p (.lst ys))) ∨
  (J.go i H ∧ ys.length < sizeLine ∧ ∀ x H', J.yld i H x H' → te (some x :: compSt js σ) H' fun v H2 => ∃ m', m' < m ∧ W (i + 1) m' (ys ++ [v]) H2)

/-- one turn of the loop, whatever the target -/
theorem compLoop_any {prog : Program} {w : World} {A : Around} {R : Result → Shared → Prop} {s : Shared} {elt target iter : Expr} {scope : Scope} {pos : Pos} {it acc : Value} {env : Env} (J : Nat → Shared → Prop)
    (turn : ∀ n s, J n s → wpAny (model prog w) A (pyNext it) (fun r s₁ => match r with
      | none => R (.ok .next) s₁
      | some v => wpAny (model prog w) A (letOwnedTupleGo target it v) (fun _ s₁' => wpAny (model prog w) A (assign target env v) (fun _ s₂ => wpAny (model prog w) A (eval elt env) (fun x s₃ =>
          wpAny (model prog w) A (call (.builtin "list.append") [acc, x]) (fun _ s₄ => ∃ m, m < n ∧ J m s₄) (fun _ _ => False) s₃) (fun _ _ => False) s₂) (fun _ _ => False) s₁') (fun _ _ => False) s₁) (fun _ _ => False) s)
    (n : Nat) (h : J n s) : codeAny (model prog w) A (.compLoop (.ListComp elt [⟨target, iter, [], 0⟩] scope pos) 0 it acc env) R s := by
  refine codeAny_loop rfl J (fun n s hI => ?_) n h
  show wpAny _ _ ((compTurn (.ListComp elt [⟨target, iter, [], 0⟩] scope pos) 0 it acc env).onRaise (fun x => do noteFrame x env; theTreesLotGoes x)) _ _ s
  refine wpAny_noted ?_
  rw [compTurn_list1]
  refine wpAny_bind (wpAny_standAt (wpAny_bind (wpAny_mono (turn n s hI) (fun r s₁ h₁ => ?_) fun _ _ h' => h'.elim)))
  cases r with
  | none => exact wpAny_pure h₁
  | some v =>
    refine wpAny_bind (wpAny_mono h₁ (fun _ s₁' h₁' => ?_) fun _ _ h' => h'.elim)
    exact wpAny_bind (wpAny_mono h₁' (fun _ s₂ h₂ => wpAny_bind (wpAny_bind (wpAny_mono h₂ (fun x s₃ h₃ => wpAny_bind (wpAny_mono h₃
      (fun _ s₄ h₄ => wpAny_pure (wpAny_pure ⟨rfl, h₄⟩)) fun _ _ h' => h'.elim)) fun _ _ h' => h'.elim))) fun _ _ h' => h'.elim)

section
variable {X : Cx} {pins : List (Addr × Obj)} {σ : St} {H : Hp} {s : Shared} {scope : Scope} {cl : List (Str × Addr)} {x : Str} {js : List Nat} {fr : List Str} {fp : List Addr} {C : Addr}
theorem CompScope.ok (S : CompScope X scope cl x js fr) (I : Inv X pins σ H s) (hf : ∀ b ∈ fp, FpOk X pins H b) (hlt : ∀ b ∈ fp, b < s.heap.objs.size) (hC : s.heap.objs.size ≤ C) : (cxComp X s H C (x :: fr) scope cl fp).Ok := by
  have cellLt : ∀ y c, cl.lookup y = some c → c < s.heap.objs.size := fun y c e => by
    obtain ⟨v, z⟩ := I.cell y c (S.sub y c e)
    exact z.lt
  refine ⟨I.ok.mod, S.kind, I.ok.glob, I.ok.blt, hC, fun y z c h1 h2 => I.ok.inj y z c (S.sub y c h1) (S.sub z c h2), fun y hy => S.has y hy, fun y c h => (by cases h), I.ok.hd, I.ok.frames, .inl rfl, fun b hb => ?_, I.bs,
    Nat.le_trans I.ok.bsz I.sz, fun b o e hb => ?_, fun b hb hb' => ?_, I.stack, I.stkFree⟩
  · exact ⟨Nat.ne_of_lt (Nat.lt_of_lt_of_le (hlt b hb) hC), fun y c e => (hf b hb).2.2.2.2.1 y c (S.sub y c e)⟩
  · rcases (hf b hb).2.2.2.1 with z | z
    · exact I.ok.noex b o e z
    · exact absurd (Nat.lt_of_lt_of_le (Heap.lt_size e) (Nat.le_trans I.ok.bsz z)) (Nat.lt_irrefl _)
  · rcases List.mem_cons.mp (I.stkSub b hb') with z | z
    · exact (hf b hb).2.1 z
    · exact (hf b hb).2.2.1 z
theorem CompScope.start (S : CompScope X scope cl x js fr) (I : Inv X pins σ H s) (hf : ∀ b ∈ fp, FpOk X pins H b) (hlt : ∀ b ∈ fp, b < s.heap.objs.size) (hC : s.heap.objs.size ≤ C) {h' : Heap} {t' : Nat}
    (k : ∀ b o, s.heap.get? b = some o → h'.get? b = some o) (hns : ∃ m, h'.Ns C m) : Inv (cxComp X s H C (x :: fr) scope cl fp) [] (none :: compSt js σ) H { s with heap := h', toks := t' } := by
  refine ⟨S.ok I hf hlt hC, rfl, I.bare, Un.kept k, ?_, fun y c e => ?_, I.hok.fresh hC, fun y c e => I.freeC y c (S.sub y c e), fun p hp => absurd (show p ∈ ([] : List (Addr × Obj)) from hp) (by simp), I.hok.kept k, ?_⟩
  · obtain ⟨m, hn⟩ := hns
    refine ⟨m, hn, fun i y v e1 e2 _ => ?_⟩
    cases i with
    | zero => simp at e2
    | succ i =>
      have e1' : fr[i]? = some y := e1
      obtain ⟨j, hj, hN, hv, ho, hi⟩ := S.free i y e1'
      have e2' : (compSt js σ)[i]? = some (some v) := by simpa using e2
      unfold compSt at e2'
      rw [List.getElem?_map, hj] at e2'
      have e2'' : (σ[j]?).getD none = some v := Option.some.inj e2'
      have e3 : σ[j]? = some (some v) := by
        cases q : σ[j]? with
        | none => rw [q] at e2''; cases e2''
        | some w => rw [q] at e2''; exact congrArg some e2''
      obtain ⟨mo, _, hl⟩ := I.loc
      obtain ⟨u, r, l⟩ := hl j y v hN e3 hv
      refine ⟨u, r, ?_⟩
      rcases l with ⟨z, _⟩ | ⟨_, c, hc, hcell⟩
      · rcases ho with ho | ho
        · rw [ho] at z; cases z
        · rw [ho] at z; cases z
      · obtain ⟨c', hc'⟩ := S.has y hi
        have e : c' = c := by
          have q := S.sub y c' hc'
          rw [hc] at q
          exact (Option.some.inj q).symm
        subst e
        obtain ⟨o, hoc, hod⟩ := hcell
        exact .inr ⟨hi, c', hc', o, k _ o hoc, hod⟩
  · obtain ⟨v, o, ho, hd⟩ := I.cell y c (S.sub y c e)
    exact ⟨v, o, k _ o ho, hd⟩
  · show (none :: compSt js σ).length = (x :: fr).length
    unfold compSt
    rw [List.length_cons, List.length_cons, List.length_map, S.len]

/-- behind the block: the def's own state -/
theorem CompScope.back (S : CompScope X scope cl x js fr) (I : Inv X pins σ H s) (hf : ∀ b ∈ fp, FpOk X pins H b) (hC : s.heap.objs.size ≤ C) {σ' : St} {pins' : List (Addr × Obj)} {H' : Hp} {s' : Shared} {h'' : Heap}
    (J : Inv (cxComp X s H C (x :: fr) scope cl fp) pins' σ' H' s') (hs : Heap.SameBut C s'.heap h'') : Inv X pins σ H' { s' with heap := h'' } := by
  have old : ∀ b o, s.heap.get? b = some o → b ≠ C := fun b o e => Nat.ne_of_lt (Nat.lt_of_lt_of_le (Heap.lt_size e) hC)
  refine I.call' (s' := { s' with heap := h'' }) (ch := fp) J.os ⟨fun b o e n hb hx => ?_, fun b o e n hb hx => ?_, fun b o e n hx => J.base.free b o e n hx, fun b o e hx => ?_, J.base.tups, J.base.frzs, J.base.tbls⟩ (fun b u e => ?_) J.bare fun b hb => ?_
  · exact (hs.2 b (old b o e)).trans (J.base.keep b o e n hb hx)
  · obtain ⟨sl, q⟩ := J.base.slot b o e n hb hx
    exact ⟨sl, (hs.2 b (old b o e)).trans q⟩
  · obtain ⟨o', q⟩ := J.base.there b o e hx
    exact ⟨o', (hs.2 b (old b o e)).trans q⟩
  · have nC : ∀ c v, H' c = some v → c ≠ C := fun c v q z => by
      have f : H' C = none := J.free
      rw [z, f] at q; cases q
    refine (J.hok b u e).stay (fun c v hc q => (hs.2 c ?_).trans q) (fun _ q => q) fun _ _ q => q
    rcases hc with z | z
    · rw [z]; exact nC b u e
    · exact nC c _ z
  · obtain ⟨_, f1, _, f3, f4, f5⟩ := hf b hb
    exact ⟨f3, f1, f4, f5⟩
end

section
variable {X : Cx} {x : Str} {px pos : Pos} {iter elt : Expr} {scope : Scope} {cl : List (Str × Addr)} {js : List Nat} {fr : List Str} {wi : TI} {te : TE}
theorem pe_comp (hc : X.calm = true) (S : CompScope X scope cl x js fr) (hi : PI X (.Name x px) iter wi) (he : ∀ (s : Shared) (H : Hp) (C : Addr) (fp : List Addr), PE (cxComp X s H C (x :: fr) scope cl fp) elt te)
    (hs : ∀ v, foldedSetIterable iter X.env v = pure v := by intro _; rfl) : PE X (.ListComp elt [⟨.Name x px, iter, [], 0⟩] scope pos) (tComp wi js te) := by
  intro pins s σ H Q I h
  rw [eval_ListComp]
  refine wpAny_comprehension_free (use := none) rfl hs S.clos S.kind S.names ?_
  refine thn (hi pins s σ H _ I h) fun v s1 h1 => thn h1 fun itv s2 h2 => ?_
  obtain ⟨it, fp, tn, J, H2, e, I2, T, st2, f2, W, ⟨m0, w0⟩, turn⟩ := h2
  subst e
  have hlt : ∀ b ∈ fp, b < s2.heap.objs.size := fun b hb => by
    obtain ⟨o, e, _⟩ := T.obj _ _ st2 b hb
    exact Heap.lt_size e
  refine wpAny_newObj_type (wpAny_newFunctionEnv S.nocell (by intro y hy; simp at hy) (fun h₁ hns₁ hsb₁ => ?_) S.kind)
  dsimp only at hns₁ hsb₁ ⊢
  generalize hH2 : s2.heap.push { cls := .type "list", dict := none, data := .seq ([] : List Value).toArray } = G2 at hns₁ hsb₁ ⊢
  have hC : G2.objs.size = s2.heap.objs.size + 1 := by rw [← hH2, Heap.size_push]
  have hDC : s2.heap.objs.size ≠ G2.objs.size := by rw [hC]; exact Nat.ne_of_lt (Nat.lt_succ_self _)
  have hCle : s2.heap.objs.size ≤ G2.objs.size := by rw [hC]; exact Nat.le_succ _
  have old : ∀ b o, s2.heap.get? b = some o → h₁.get? b = some o := fun b o e =>
    hsb₁.extBut b o (by rw [hC]; exact Nat.ne_of_lt (Nat.lt_succ_of_lt (Heap.lt_size e))) (Heap.get?_push_of_some _ (hH2 ▸ Heap.get?_push_of_some _ e))
  have hacc : h₁.get? s2.heap.objs.size = some { cls := .type "list", data := .seq ([] : List Value).toArray } := hsb₁.extBut _ _ hDC (Heap.get?_push_of_some _ (hH2 ▸ Heap.get?_push_size _ rfl))
  have J0 := S.start (C := G2.objs.size) I2 f2 hlt hCle (h' := h₁) (t' := s2.toks + ([] : List (Str × Value)).length) old ⟨_, hns₁⟩
  -- what is known of the accumulator and of the iterator's records
  have fpC : ∀ {H' : Hp}, (∀ b ∈ fp, H' b = none) → ∀ (o : Obj), ∀ b ∈ fp, FpOk (cxComp X s2 H2 G2.objs.size (x :: fr) scope cl fp) [(s2.heap.objs.size, o)] H' b := fun hn o b hb => by
    obtain ⟨_, f1, fs, _, f4, _⟩ := f2 b hb
    refine ⟨hn b hb, Nat.ne_of_lt (Nat.lt_of_lt_of_le (hlt b hb) hCle), fun z => ?_, .inl hb, fun y c e => f4 y c (S.sub y c e), fun p hp => ?_⟩
    · rcases List.mem_cons.mp (I2.stkSub b z) with q | q
      · exact f1 q
      · exact fs q
    · have e : p = (s2.heap.objs.size, o) := by
        have q : p ∈ ([] : List (Addr × Obj)) ++ [(s2.heap.objs.size, o)] := hp
        simpa using q
      rw [e]
      exact Nat.ne_of_gt (hlt b hb)
  have nofs : s2.heap.objs.size ∉ frs X.stack := fun z => by
    rcases List.mem_cons.mp (I2.stkSub _ z) with q | q
    · exact absurd I2.lt (by rw [← q]; exact Nat.lt_irrefl _)
    · exact I2.nofs (Nat.le_refl _) q
  have pinD : ∀ {σ' : St} {H' : Hp} {s' : Shared} {its : List Value} {n : Nat} {pl : List (Addr × Obj)}, Inv (cxComp X s2 H2 G2.objs.size (x :: fr) scope cl fp) pl σ' H' s' → s'.heap.get? s2.heap.objs.size = some { cls := .type "list", data := .seq its.toArray n } → H' s2.heap.objs.size = none →
      Inv (cxComp X s2 H2 G2.objs.size (x :: fr) scope cl fp) [(s2.heap.objs.size, { cls := .type "list", data := .seq its.toArray n })] σ' H' s' := fun {σ' H' s' its n pl} K1 e hn => K1.pins_of fun p hp => by
    have q : p = (s2.heap.objs.size, { cls := .type "list", data := .seq its.toArray n }) := by simpa using hp
    subst q
    exact ⟨e, hn, hDC, nofs, fun v z => by cases z⟩
  have loop : codeAny (model X.prog X.w) X.A (.compLoop (.ListComp elt [⟨.Name x px, iter, [], 0⟩] scope pos) 0 (.ref it) (.ref s2.heap.objs.size) (compEnvC scope cl G2.objs.size X.env))
      (compPost (model X.prog X.w) X.A X.xe none (EP X pins σ Q) (.ref s2.heap.objs.size) G2.objs.size) { s2 with heap := h₁, toks := s2.toks + ([] : List (Str × Value)).length } := by
    refine compLoop_any (fun n s' => ∃ i o ys its k H', Inv (cxComp X s2 H2 G2.objs.size (x :: fr) scope cl fp) [] (o :: compSt js σ) H' s' ∧ tn i s'.heap ∧ (∀ b ∈ fp, H' b = none) ∧ s'.heap.get? s2.heap.objs.size = some { cls := .type "list", data := .seq its.toArray k } ∧
      Vals ys its ∧ H' s2.heap.objs.size = none ∧ W i n ys H') ?_ m0 ⟨0, none, [], [], 0, H2, J0, T.keep _ _ _ st2 (fun b _ o e => old b o e), fun b hb => (f2 b hb).1, hacc, .nil, I2.hok.fresh (Nat.le_refl _), w0⟩
    rintro n s3 ⟨i, o3, ys, its, k, H3, I3, st3, fr3, e3, r3, n3, w3⟩
    have I3p := pinD I3 e3 n3
    rcases turn i n ys H3 w3 with ⟨stop, hz, q⟩ | ⟨go, hz, q⟩
    · refine thn (T.done (cxComp X s2 H2 G2.objs.size (x :: fr) scope cl fp) rfl rfl rfl hc i _ s3 _ H3 (fun _ _ => False) I3p (fpC fr3 _) st3 stop) fun r s4 ⟨hr, I4⟩ => ?_
      subst hr
      -- the end: the list is tracked from here on
      have f4 := I4.pin (s2.heap.objs.size, { cls := .type "list", data := .seq its.toArray k }) (List.mem_append_right _ (by simp))
      obtain ⟨m4, hn4, _⟩ := id I4.loc
      refine ⟨m4, hn4, fun h'' hs'' => ?_⟩
      have B := S.back I2 f2 hCle I4 hs''
      have eD : h''.get? s2.heap.objs.size = some { cls := .type "list", data := .seq its.toArray k } := (hs''.2 _ hDC).trans f4.1
      refine ⟨.ref s2.heap.objs.size, _, B.track (o := .lst ys) n3 (.inr I2.sz) (Nat.ne_of_gt I2.lt) (fun y c e z => ?_) (fun p hp z => ?_) ⟨hz, its, k, r3, eD⟩, rfl, q _ n3⟩
      · obtain ⟨v, q⟩ := I2.cell y c e
        exact absurd q.lt (by rw [z]; exact Nat.lt_irrefl _)
      · exact absurd (Heap.lt_size (I2.pin p hp).1) (by rw [z]; exact Nat.lt_irrefl _)
    · refine thn (T.item (cxComp X s2 H2 G2.objs.size (x :: fr) scope cl fp) rfl rfl rfl hc i _ s3 _ H3 (fun _ _ => False) I3p (fpC fr3 _) st3 go) fun r s4 ⟨u, hr, h4⟩ => ?_
      subst hr
      refine thn h4 fun _ s5 ⟨y, H5, I5, r5, y5, st5, fr5⟩ => ?_
      have I5' := I5.pinned (fp := fp) (fpC fr5 _) (T.obj _ _ st5)
      refine thn (pg_name (X := cxComp X s2 H2 G2.objs.size (x :: fr) scope cl fp) (i := 0) (pos := px) S.nd rfl (.inl (lookup_relabel_local S.var)) (.inr (lookup_relabel_local S.var)) _ s5 _ H5 y u
        (fun σ6 H6 => σ6 = some y :: compSt js σ ∧ te (some y :: compSt js σ) H6 fun v H7 => ∃ m', m' < n ∧ W (i + 1) m' (ys ++ [v]) H7) I5' r5 ⟨rfl, q y H5 y5⟩) fun _ s6 ⟨σ6, H6, I6, e6, q6⟩ => ?_
      subst e6
      refine thn (he s2 H2 G2.objs.size fp _ s6 _ H6 _ I6 q6) fun w s7 ⟨v, H7, I7, r7, m', hm, w7⟩ => ?_
      have pD := I7.pin (s2.heap.objs.size, { cls := .type "list", data := .seq its.toArray k }) (List.mem_append_right _ (List.mem_append_left _ (by simp)))
      have pB : ∀ b ∈ fp, ∀ ob, s5.heap.get? b = some ob → s7.heap.get? b = some ob ∧ H7 b = none := fun b hb ob e => by
        have z := I7.pin (b, ob) (List.mem_append_right _ (List.mem_append_right _ (mem_pinsAt hb e)))
        exact ⟨z.1, z.2.1⟩
      have neD : ∀ b ∈ fp, b ≠ s2.heap.objs.size := fun b hb => Nat.ne_of_lt (hlt b hb)
      have hl := r3.length
      have up := PySem.IsL.update pD.1 (·.push w)
      have hpush : its.toArray.push w = (its ++ [w]).toArray := by simp
      rw [hpush] at up
      refine call_meets F.slot_list_append ⟨_, pD.1, rfl⟩ F.entry_list_append (F.args_list_append_2 _ _) (PySem.list_append _ its.toArray k w (by rw [List.size_toArray]; omega)) ⟨pD.1, ?_⟩
      refine ⟨m', hm, i + 1, _, ys ++ [v], its ++ [w], _, H7, (I7.pins_of (pins' := []) fun p hp => absurd hp (by simp)).turned (t' := s7.toks) (it := s2.heap.objs.size) (fun b ob hb e => (Heap.get?_update_other _ _ (Ne.symm hb)).trans e) pD.2.1 hDC (.inr (Nat.le_refl _))
        (fun y' c e z => ?_) (fun p hp => absurd (show p ∈ ([] : List (Addr × Obj)) from hp) (by simp)), T.keep _ _ _ st5 (fun b hb ob e => (Heap.get?_update_other _ _ (Ne.symm (neD b hb))).trans (pB b hb ob e).1), fun b hb => ?_, up, r3.append (.cons r7 .nil), pD.2.1, w7⟩
      · obtain ⟨v', z'⟩ := I2.cell y' c (S.sub y' c e)
        exact absurd z'.lt (by rw [z]; exact Nat.lt_irrefl _)
      · obtain ⟨ob, e, _⟩ := T.obj _ _ st5 b hb
        exact (pB b hb ob e).2
  exact codeAny_compStart_list loop (T.self X.A 0 _ _ _ (T.keep _ _ _ st2 (fun b _ o e => old b o e)) loop)
end
end L2

set_option Elab.async false
set_option linter.all false
set_option maxRecDepth 100000
set_option maxHeartbeats 1000000
/-! Texts by their codes. -/
namespace L2
open PySem
/-- a text's codes -/
abbrev cod (z : Str) : List Nat := z.cps.toList
theorem cod_len (z : Str) : (cod z).length = z.length := Array.length_toList
theorem str_ext {a b : Str} (h : cod a = cod b) : a = b := PyProof.Rows.ext_toList h
theorem str_eq {a b : Str} : decide (V.str a = V.str b) = decide (cod a = cod b) := by
  by_cases h : cod a = cod b
  · rw [decide_eq_true h, decide_eq_true (congrArg V.str (str_ext h))]
  · rw [decide_eq_false h, decide_eq_false (fun e => h (congrArg cod (V.str.inj e)))]
theorem cod_app (a b : Str) : cod (a ++ b) = cod a ++ cod b := PySem.W.KT.app_list a b
theorem in_one (c : Nat) (a : Str) : (!(Builtin.Str.occurrences a ⟨#[c]⟩ 0 a.length 1).isEmpty) = decide (c ∈ cod a) := PySem.StrLaws.found_one a c
theorem starts_one (z : Str) (c : Nat) : Txt.startswith z ⟨#[c]⟩ = decide ((cod z).head? = some c) := by
  rw [Bool.eq_iff_iff, decide_eq_true_eq, List.head?_eq_getElem?]
  refine Iff.trans ?_ (PySem.StrLaws.subAt_one z c 0)
  unfold Txt.startswith
  rw [Bool.and_eq_true, decide_eq_true_eq]
/-- the places of a slice -/
theorem indices_gen (lo hi : Option Int) (n : Nat) : Builtin.Str.strSliceIndices lo hi 1 n = (List.range (HT.sIx n n hi - HT.sIx n 0 lo)).map fun k => HT.sIx n 0 lo + k := by
  have clip : ∀ (o : Option Int) (d : Nat), (match o with | none => (d : Int) | some i => max 0 (min (if i < 0 then i + (n : Int) else i) (n : Int))) = ((HT.sIx n d o : Nat) : Int) := fun o d => by
    cases o with
    | none => rfl
    | some v =>
      show max 0 (min (if v < 0 then v + (n : Int) else v) (n : Int)) = (((if v < 0 then (v + (n : Int)).toNat else min v.toNat n) : Nat) : Int)
      by_cases hv : v < 0
      · simp only [if_pos hv]; omega
      · simp only [if_neg hv]; omega
  have h1 : ((1 : Int) > 0) = True := by simp
  have e : Builtin.Str.strSliceIndices lo hi 1 n = sliceRange (match lo with | none => ((0 : Nat) : Int) | some i => max 0 (min (if i < 0 then i + (n : Int) else i) (n : Int)))
      (match hi with | none => ((n : Nat) : Int) | some i => max 0 (min (if i < 0 then i + (n : Int) else i) (n : Int))) 1 := by
    unfold Builtin.Str.strSliceIndices
    cases lo <;> cases hi <;> simp
  rw [e, clip lo 0, clip hi n]
  unfold sliceRange
  simp only [h1, if_true]
  have c : (if ((HT.sIx n 0 lo : Nat) : Int) < ((HT.sIx n n hi : Nat) : Int) then (((HT.sIx n n hi : Nat) : Int) - ((HT.sIx n 0 lo : Nat) : Int) + 1 - 1) / 1 else 0).toNat = HT.sIx n n hi - HT.sIx n 0 lo := by
    split
    · rw [Int.ediv_one]; omega
    · omega
  rw [c]
  refine List.map_congr_left fun k _ => ?_
  omega
/-- t[lo:hi] by its codes -/
theorem cod_slice (z : Str) (lo hi : Option Int) : cod (Txt.slice z lo hi) = ((cod z).drop (HT.sIx z.length 0 lo)).take (HT.sIx z.length z.length hi - HT.sIx z.length 0 lo) := by
  have hl := cod_len z
  have a1 : HT.sIx z.length 0 lo ≤ z.length := HT.sIx_le _ _ (Nat.zero_le _) lo
  have a2 : HT.sIx z.length z.length hi ≤ z.length := HT.sIx_le _ _ (Nat.le_refl _) hi
  unfold Txt.slice
  rw [indices_gen]
  split
  · rename_i c
    have c' : HT.sIx z.length z.length hi - HT.sIx z.length 0 lo = z.length := by simpa using c
    have e1 : HT.sIx z.length 0 lo = 0 := by omega
    have e2 : HT.sIx z.length z.length hi = z.length := by omega
    rw [e1, e2, List.drop_zero, List.take_of_length_le (by omega)]
  · show ((List.map (fun k => HT.sIx z.length 0 lo + k) (List.range (HT.sIx z.length z.length hi - HT.sIx z.length 0 lo))).filterMap (z.cps[·]?)).toArray.toList = _
    have h := PySem.StrLaws.picks (cod z) (HT.sIx z.length z.length hi - HT.sIx z.length 0 lo)
    by_cases hle : HT.sIx z.length 0 lo ≤ HT.sIx z.length z.length hi
    · have h := h (HT.sIx z.length 0 lo) (by omega)
      simpa using h
    · have e : HT.sIx z.length z.length hi - HT.sIx z.length 0 lo = 0 := by omega
      rw [e]; simp
/-- t[k:] -/
theorem cod_from (z : Str) (k : Nat) : cod (Txt.slice z (some (k : Int)) none) = (cod z).drop k := by
  have hl := cod_len z
  rw [cod_slice, HT.sIx_none, HT.sIx_nat]
  by_cases h : k ≤ z.length
  · rw [Nat.min_eq_left h, List.take_of_length_le (by rw [List.length_drop]; omega)]
  · rw [Nat.min_eq_right (by omega), List.drop_eq_nil_of_le (by omega), List.drop_eq_nil_of_le (by omega)]; simp
/-- t[:k] -/
theorem cod_to (z : Str) (k : Nat) : cod (Txt.slice z none (some (k : Int))) = (cod z).take k := by
  have hl := cod_len z
  rw [cod_slice, HT.sIx_none, HT.sIx_nat, Nat.sub_zero, List.drop_zero]
  by_cases h : k ≤ z.length
  · rw [Nat.min_eq_left h]
  · rw [Nat.min_eq_right (by omega), List.take_of_length_le (by omega), List.take_of_length_le (by omega)]
/-- t[j:k] -/
theorem cod_mid (z : Str) (j k : Nat) : cod (Txt.slice z (some (j : Int)) (some (k : Int))) = ((cod z).drop j).take (k - j) := by
  have hl := cod_len z
  rw [cod_slice, HT.sIx_nat, HT.sIx_nat]
  by_cases hj : j ≤ z.length
  · rw [Nat.min_eq_left hj]
    by_cases hk : k ≤ z.length
    · rw [Nat.min_eq_left hk]
    · rw [Nat.min_eq_right (by omega), List.take_of_length_le (by rw [List.length_drop]; omega), List.take_of_length_le (by rw [List.length_drop]; omega)]
  · rw [Nat.min_eq_right (show z.length ≤ j by omega), List.drop_eq_nil_of_le (show (cod z).length ≤ z.length by omega), List.drop_eq_nil_of_le (show (cod z).length ≤ j by omega)]; simp
/-- str(i) -/
theorem cod_str (i : Int) : cod (Str.ofString (toString i)) = NN.line i := by
  unfold NN.line NN.figs
  cases i with
  | ofNat m =>
    rw [if_neg (show ¬ (Int.ofNat m < 0) from Int.not_lt.mpr (Int.natCast_nonneg m))]
    exact PySem.W.KIN.signs_num m
  | negSucc m =>
    rw [if_pos (Int.negSucc_lt_zero m)]
    show (Str.ofString (toString (Int.negSucc m))).cps.toList = _
    rw [PyProof.Rows.signs_ofString]
    show ("-" ++ Nat.repr (m + 1)).toList.map Char.toNat = _
    rw [String.toList_append, List.map_append, Nat.toList_repr]
    rfl
end L2

/-! Things as plain data: a number, a word by its codes, a list. -/
namespace NN
inductive T where
  | int (i : Int)
  | str (cs : List Nat)
  | lst (ts : List T)
mutual
/-- the line of a thing, by its codes -/
def T.line : T → List Nat
  | .int i => NN.line i
  | .str cs => cs
  | .lst ts => 91 :: (T.join ts ++ [93])
def T.join : List T → List Nat
  | [] => []
  | [t] => t.line
  | t :: u :: r => t.line ++ 32 :: T.join (u :: r)
end
mutual
/-- how many things there are in it, itself with them -/
def T.size : T → Nat
  | .int _ => 1
  | .str _ => 1
  | .lst ts => T.sizes ts + 1
def T.sizes : List T → Nat
  | [] => 0
  | t :: r => t.size + T.sizes r
end
mutual
def T.depth : T → Nat
  | .int _ => 0
  | .str _ => 0
  | .lst ts => T.depths ts + 1
def T.depths : List T → Nat
  | [] => 0
  | t :: r => max t.depth (T.depths r)
end
mutual
def T.leaves : T → List T
  | .int i => [.int i]
  | .str cs => [.str cs]
  | .lst ts => T.leavess ts
def T.leavess : List T → List T
  | [] => []
  | t :: r => t.leaves ++ T.leavess r
end
theorem T.size_pos (t : T) : 0 < t.size := by cases t <;> simp [T.size]
theorem T.sizes_app : ∀ a b : List T, T.sizes (a ++ b) = T.sizes a + T.sizes b
  | [], b => by simp [T.sizes]
  | t :: r, b => by rw [List.cons_append, T.sizes, T.sizes, T.sizes_app r b]; omega
mutual
theorem T.depth_le : ∀ t : T, t.depth ≤ t.size
  | .int _ => by simp [T.depth]
  | .str _ => by simp [T.depth]
  | .lst ts => by have := T.depths_le ts; simp [T.depth, T.size]; omega
theorem T.depths_le : ∀ ts : List T, T.depths ts ≤ T.sizes ts
  | [] => by simp [T.depths]
  | t :: r => by have := T.depth_le t; have := T.depths_le r; simp [T.depths, T.sizes]; omega
end
end NN

/-! What the given steps build, as plain data. -/
namespace NN
/-- letters counted on: a .. z, aa .. -/
def anyWord (n : Nat) : List Nat := if h : n < 26 then [97 + n] else anyWord (n / 26 - 1) ++ [97 + n % 26]
termination_by n
decreasing_by omega
def wordOf (c : Int) : List Nat :=
  if c / 5 % 7 = 4 then anyWord ((c / 35).natAbs % 10 ^ 39)
  else (((List.range 26).map (97 + ·)).drop (c / 5 % 26).toNat).take (1 + (c / 5 + c / 31) % 4).toNat
def anyNum (c : Int) : Int := if c % 2 = 0 then c / 2 % 10 ^ 59 else -(c / 2 % 10 ^ 59)
def numberOf (c : Int) : Int := if c / 5 % 7 = 3 then anyNum (c / 10) else if c / 5 % 2 = 1 then 0 - c / 10 % 1000 else c / 10 % 1000
/-- the open lists, the innermost first -/
def push (x : T) : List (List T) → List (List T)
  | [] => []
  | r :: rest => (r ++ [x]) :: rest
def shut : List (List T) → List (List T)
  | r :: s :: rest => (s ++ [.lst r]) :: rest
  | rows => rows
def grow1 (rows : List (List T)) (c : Int) : List (List T) :=
  if c % 5 = 0 then [] :: rows
  else if c % 5 = 1 ∧ 1 < rows.length then shut rows
  else if c % 5 < 3 then push (.str (wordOf c)) rows
  else push (.int (numberOf c)) rows
def shutAll : List (List T) → List T
  | [] => []
  | [r] => r
  | r :: s :: rest => shutAll ((s ++ [.lst r]) :: rest)
termination_by rows => rows.length
def grownT (cs : List Int) : T := match shutAll (cs.foldl grow1 [[]]) with
  | [t] => t
  | r => .lst r
theorem anyWord_len : ∀ (k n : Nat), n < 26 ^ (k + 1) → (anyWord n).length ≤ k + 1
  | 0, n, h => by rw [anyWord, dif_pos (by simpa using h)]; simp
  | k + 1, n, h => by
    rw [anyWord]
    split
    · simp
    · have q := anyWord_len k (n / 26 - 1) (by
        rw [Nat.pow_succ] at h
        have : n / 26 < 26 ^ (k + 1) := Nat.div_lt_of_lt_mul (by rw [Nat.mul_comm]; exact h)
        omega)
      rw [List.length_append, List.length_singleton]
      omega
def letter (c : Nat) : Bool := decide (97 ≤ c) && decide (c ≤ 122)
theorem letter_iff {c : Nat} : letter c = true ↔ 97 ≤ c ∧ c ≤ 122 := by
  unfold letter
  rw [Bool.and_eq_true, decide_eq_true_eq, decide_eq_true_eq]
theorem anyWord_ok (n : Nat) : (anyWord n).all letter = true ∧ anyWord n ≠ [] := by
  induction n using Nat.strongRecOn with
  | _ n ih =>
    rw [anyWord]
    split
    · refine ⟨?_, by simp⟩
      rw [List.all_cons, List.all_nil, Bool.and_true, letter_iff]; omega
    · rename_i h
      have q := ih (n / 26 - 1) (by omega)
      refine ⟨?_, by simp⟩
      rw [List.all_append, q.1, Bool.true_and, List.all_cons, List.all_nil, Bool.and_true, letter_iff]; omega
/-- a word: one or more letters -/
def isWord (cs : List Nat) : Bool := decide (cs ≠ []) && cs.all letter
theorem wordOf_word (c : Int) : isWord (wordOf c) = true := by
  unfold isWord wordOf
  split
  · have q := anyWord_ok ((c / 35).natAbs % 10 ^ 39)
    rw [Bool.and_eq_true, decide_eq_true_eq]
    exact ⟨q.2, q.1⟩
  · rw [Bool.and_eq_true, decide_eq_true_eq]
    have a0 : 0 ≤ c / 5 % 26 := Int.emod_nonneg _ (by decide)
    have a1 : c / 5 % 26 < 26 := Int.emod_lt_of_pos _ (by decide)
    have b0 : 0 ≤ (c / 5 + c / 31) % 4 := Int.emod_nonneg _ (by decide)
    constructor
    · intro e
      have l := congrArg List.length e
      simp at l
      omega
    · rw [List.all_eq_true]
      intro x hx
      have m := List.mem_of_mem_drop (List.mem_of_mem_take hx)
      simp at m
      obtain ⟨y, hy, rfl⟩ := m
      rw [letter_iff]
      omega
theorem wordOf_len (c : Int) : (wordOf c).length ≤ 28 := by
  unfold wordOf
  split
  · exact anyWord_len 27 _ (Nat.lt_of_lt_of_le (Nat.mod_lt _ (by decide)) (by decide))
  · simp
    omega
theorem numberOf_small (c : Int) : (numberOf c).natAbs < 10 ^ 59 := by
  unfold numberOf anyNum
  have p : (0 : Int) < 10 ^ 59 := by decide
  split
  · have a0 : 0 ≤ c / 10 / 2 % 10 ^ 59 := Int.emod_nonneg _ (by decide)
    have a1 : c / 10 / 2 % 10 ^ 59 < 10 ^ 59 := Int.emod_lt_of_pos _ p
    split
    · omega
    · omega
  · have b0 : 0 ≤ c / 10 % 1000 := Int.emod_nonneg _ (by decide)
    have b1 : c / 10 % 1000 < 1000 := Int.emod_lt_of_pos _ (by decide)
    split
    · omega
    · omega
end NN

namespace NN
def wrows : List (List T) → Nat
  | [] => 0
  | r :: rest => T.sizes r + 1 + wrows rest
mutual
/-- leaves as they are built -/
def T.fine : T → Prop
  | .int i => i.natAbs < 10 ^ 59
  | .str cs => isWord cs = true ∧ cs.length ≤ 28
  | .lst ts => T.fines ts
def T.fines : List T → Prop
  | [] => True
  | t :: r => t.fine ∧ T.fines r
end
theorem T.fines_app : ∀ {a b : List T}, T.fines (a ++ b) ↔ T.fines a ∧ T.fines b
  | [], b => by simp [T.fines]
  | t :: r, b => by rw [List.cons_append, T.fines, T.fines, T.fines_app]; exact and_assoc.symm
def fineRows : List (List T) → Prop
  | [] => True
  | r :: rest => T.fines r ∧ fineRows rest
theorem grow1_ok {rows : List (List T)} {c : Int} (h : rows ≠ []) (hf : fineRows rows) : grow1 rows c ≠ [] ∧ wrows (grow1 rows c) ≤ wrows rows + 1 ∧ fineRows (grow1 rows c) := by
  unfold grow1
  have pu : ∀ x : T, x.size = 1 → x.fine → push x rows ≠ [] ∧ wrows (push x rows) ≤ wrows rows + 1 ∧ fineRows (push x rows) := fun x hx fx => by
    cases rows with
    | nil => exact absurd rfl h
    | cons r rest =>
      refine ⟨by simp [push], ?_, ?_⟩
      · simp only [push, wrows, T.sizes_app, T.sizes, hx]; omega
      · exact ⟨T.fines_app.mpr ⟨hf.1, fx, trivial⟩, hf.2⟩
  split
  · exact ⟨by simp, by simp [wrows, T.sizes]; omega, trivial, hf⟩
  · split
    · rename_i q
      match rows, h, hf, q with
      | r :: s :: rest, _, hf, _ =>
        refine ⟨by simp [shut], ?_, ?_⟩
        · simp only [shut, wrows, T.sizes_app, T.sizes, T.size]; omega
        · exact ⟨T.fines_app.mpr ⟨hf.2.1, hf.1, trivial⟩, hf.2.2⟩
      | [r], _, _, q => exact absurd q.2 (by simp)
    · split
      · exact pu _ rfl ⟨wordOf_word c, wordOf_len c⟩
      · exact pu _ rfl (numberOf_small c)
theorem grow_ok : ∀ (cs : List Int) {rows : List (List T)}, rows ≠ [] → fineRows rows → cs.foldl grow1 rows ≠ [] ∧ wrows (cs.foldl grow1 rows) ≤ wrows rows + cs.length ∧ fineRows (cs.foldl grow1 rows)
  | [], rows, h, hf => ⟨h, by simp, hf⟩
  | c :: cs, rows, h, hf => by
    obtain ⟨h1, h2, h3⟩ := grow1_ok (c := c) h hf
    obtain ⟨g1, g2, g3⟩ := grow_ok cs h1 h3
    refine ⟨g1, ?_, g3⟩
    rw [List.foldl_cons, List.length_cons]
    omega
theorem shutAll_ok : ∀ (n : Nat) {rows : List (List T)}, rows.length = n → rows ≠ [] → fineRows rows → T.sizes (shutAll rows) + 1 ≤ wrows rows ∧ T.fines (shutAll rows)
  | 0, rows, hn, h, _ => absurd (List.eq_nil_of_length_eq_zero hn) h
  | 1, rows, hn, h, hf => by
    match rows, hn, hf with
    | [r], _, hf => rw [shutAll]; exact ⟨by simp [wrows], hf.1⟩
  | n + 2, rows, hn, h, hf => by
    match rows, hn, hf with
    | r :: s :: rest, hn, hf =>
      rw [shutAll]
      have q := shutAll_ok (n + 1) (rows := (s ++ [.lst r]) :: rest) (by simp at hn ⊢; omega) (by simp) ⟨T.fines_app.mpr ⟨hf.2.1, (show T.fines [.lst r] from ⟨hf.1, trivial⟩)⟩, hf.2.2⟩
      refine ⟨?_, q.2⟩
      have q1 := q.1
      simp only [wrows, T.sizes_app, T.sizes, T.size] at q1 ⊢
      omega
theorem grownT_ok (cs : List Int) : (grownT cs).size ≤ cs.length + 1 ∧ (grownT cs).fine := by
  obtain ⟨g1, g2, g3⟩ := grow_ok cs (rows := [[]]) (by simp) ⟨trivial, trivial⟩
  obtain ⟨s1, s2⟩ := shutAll_ok _ rfl g1 g3
  have w : wrows [[]] = 1 := rfl
  unfold grownT
  split
  · rename_i t e
    rw [e] at s1 s2
    simp only [T.sizes] at s1
    exact ⟨by omega, s2.1⟩
  · rename_i r e
    refine ⟨?_, s2⟩
    simp only [T.size]
    omega
/-! ### a line's length -/
theorem figs_len : ∀ (k n : Nat), n < 10 ^ (k + 1) → (figs n).length ≤ k + 1
  | 0, n, h => by rw [figs_one (by simpa using h)]; simp
  | k + 1, n, h => by
    by_cases hn : n < 10
    · rw [figs_one hn]; simp
    · have e : n = 10 * (n / 10) + n % 10 := by omega
      rw [e, figs_more (by omega) (by omega), List.length_append, List.length_singleton]
      have q := figs_len k (n / 10) (by rw [Nat.pow_succ] at h; omega)
      omega
theorem line_len {i : Int} (h : i.natAbs < 10 ^ 59) : (line i).length ≤ 60 := by
  have q := figs_len 58 i.natAbs h
  unfold line
  split
  · rw [List.length_cons]; omega
  · omega
mutual
theorem T.line_le : ∀ t : T, t.fine → t.line.length + 1 ≤ 63 * t.size
  | .int i, h => by have q := line_len h; simp only [T.line, T.size]; omega
  | .str cs, h => by have q := h.2; simp only [T.line, T.size]; omega
  | .lst ts, h => by
    have q := T.join_le ts h
    simp only [T.line, T.size, List.length_cons, List.length_append, List.length_nil]
    omega
theorem T.join_le : ∀ ts : List T, T.fines ts → (T.join ts).length ≤ 63 * T.sizes ts
  | [], _ => by simp [T.join]
  | [t], h => by have q := T.line_le t h.1; simp only [T.join, T.sizes]; omega
  | t :: u :: r, h => by
    have q := T.line_le t h.1
    have q2 := T.join_le (u :: r) h.2
    have p := T.size_pos t
    simp only [T.join, T.sizes, List.length_append, List.length_cons] at q2 ⊢
    omega
end
end NN

namespace NN
def joinB : List (List Nat) → List Nat
  | [] => []
  | [x] => x
  | x :: y :: r => x ++ 32 :: joinB (y :: r)
theorem join_map : ∀ ts : List T, T.join ts = joinB (ts.map T.line)
  | [] => rfl
  | [t] => rfl
  | t :: u :: r => by
    have q := join_map (u :: r)
    rw [T.join, q]
    rfl
def wrap (r : List (List Nat)) : List Nat := 91 :: (joinB r ++ [93])
def wpush (x : List Nat) : List (List (List Nat)) → List (List (List Nat))
  | [] => []
  | r :: rest => (r ++ [x]) :: rest
def wshut : List (List (List Nat)) → List (List (List Nat))
  | r :: s :: rest => (s ++ [wrap r]) :: rest
  | rows => rows
def wgrow1 (rows : List (List (List Nat))) (c : Int) : List (List (List Nat)) :=
  if c % 5 = 0 then [] :: rows
  else if c % 5 = 1 ∧ 1 < rows.length then wshut rows
  else if c % 5 < 3 then wpush (wordOf c) rows
  else wpush (line (numberOf c)) rows
def wshutAll : List (List (List Nat)) → List (List Nat)
  | [] => []
  | [r] => r
  | r :: s :: rest => wshutAll ((s ++ [wrap r]) :: rest)
termination_by rows => rows.length
def writtenT (cs : List Int) : List Nat := match wshutAll (cs.foldl wgrow1 [[]]) with
  | [x] => x
  | r => wrap r
def mrows (rows : List (List T)) : List (List (List Nat)) := rows.map fun r => r.map T.line
end NN

set_option Elab.async false
set_option linter.all false
set_option maxRecDepth 100000
set_option maxHeartbeats 1000000
/-! Small words that every law's text uses. -/
namespace L2
open PySem
theorem same_new {H : Hp} {p : Addr} (h : H p = none) (o : HO) : Same H (upd H p o) := fun b u q => by rw [upd_ne (ne_of_none q h)]; exact q
theorem boot_all : bootBuiltins "all" = some (.builtin "all") := by decide +kernel
theorem boot_isinst : bootBuiltins "isinstance" = some (.builtin "isinstance") := by decide +kernel
theorem boot_bool : bootBuiltins "bool" = some (.type "bool") := by decide +kernel
theorem boot_str : bootBuiltins "str" = some (.type "str") := by decide +kernel
theorem boot_int : bootBuiltins "int" = some (.type "int") := by decide +kernel
theorem boot_abs : bootBuiltins "abs" = some (.builtin "abs") := by decide +kernel
theorem small {n : Nat} (h : n ≤ 1000000) : n ≤ sizeLine := Nat.le_trans h (by decide)
/-- a def's context -/
abbrev CxD (P : Program) (w : World) (K : PySem.W.Frag) (mg : Str → Option Value) (base : Heap) (N : List Str) (qual : Str) (st : Stmt) (f : Addr) (cdv : Value) (A : Around) (outer : List Env) (s : Shared) (H : Hp) (E : XK) : Cx :=
  (cxOf CX0 P w K mg base N qual (defScope st) f cdv A outer s H E).nox
/-- a text by its codes -/
abbrev tx (cs : List Nat) : Str := ⟨cs.toArray⟩
theorem cod_tx (cs : List Nat) : cod (tx cs) = cs := rfl
theorem tx_len (cs : List Nat) : (tx cs).length = cs.length := by rw [← cod_len]
theorem str_tx {z : Str} {cs : List Nat} (h : cod z = cs) : z = tx cs := str_ext h
def abc : List Nat := (List.range 26).map (97 + ·)
theorem cod_abc : cod ("abcdefghijklmnopqrstuvwxyz" : Str) = abc := by decide +kernel
theorem kit_same {K : PySem.W.Frag} (T : String) : PySem.W.kitOne K (.type T) (.type T) = some true := by
  unfold PySem.W.kitOne
  rw [if_pos (by simp)]
theorem atI_ofNat {α : Type} {xs : List α} {i : Int} (h0 : 0 ≤ i) (h1 : i.toNat < xs.length) : atI xs i = some (xs[i.toNat]) := by
  have e : i = ((i.toNat : Nat) : Int) := by omega
  have q := atI_nat (xs := xs) (j := i.toNat) (v := xs[i.toNat]) (List.getElem?_eq_getElem h1)
  rw [← e] at q
  exact q
end L2

set_option Elab.async false
set_option linter.all false
set_option maxRecDepth 100000
set_option maxHeartbeats 1000000
/-! Things in the heap. -/
namespace L2
open PySem
mutual
/-- the thing t stands at v, none of its lists at an address of L -/
def Tr (L : List Addr) (H : Hp) : NN.T → V → Prop
  | .int i, v => v = .int i
  | .str cs, v => v = .str (tx cs)
  | .lst ts, v => ∃ a vs, v = .ref a ∧ a ∉ L ∧ H a = some (.lst vs) ∧ Trs L H ts vs
def Trs (L : List Addr) (H : Hp) : List NN.T → List V → Prop
  | [], vs => vs = []
  | t :: ts, vs => ∃ v r, vs = v :: r ∧ Tr L H t v ∧ Trs L H ts r
end
mutual
theorem Tr.mono {L L' : List Addr} {H H' : Hp} (h : ∀ b o, b ∉ L → H b = some o → b ∉ L' ∧ H' b = some o) : ∀ (t : NN.T) {v : V}, Tr L H t v → Tr L' H' t v
  | .int _, _, e => by rw [Tr] at e ⊢; exact e
  | .str _, _, e => by rw [Tr] at e ⊢; exact e
  | .lst ts, _, e => by
    rw [Tr] at e ⊢
    obtain ⟨a, vs, rfl, n, ha, r⟩ := e
    obtain ⟨n', ha'⟩ := h a _ n ha
    exact ⟨a, vs, rfl, n', ha', Trs.mono h ts r⟩
theorem Trs.mono {L L' : List Addr} {H H' : Hp} (h : ∀ b o, b ∉ L → H b = some o → b ∉ L' ∧ H' b = some o) : ∀ (ts : List NN.T) {vs : List V}, Trs L H ts vs → Trs L' H' ts vs
  | [], _, e => by rw [Trs] at e ⊢; exact e
  | t :: ts, _, e => by
    rw [Trs] at e ⊢
    obtain ⟨v, r, rfl, q1, q2⟩ := e
    exact ⟨v, r, rfl, Tr.mono h t q1, Trs.mono h ts q2⟩
end
theorem Tr.same {H H' : Hp} (e : Same H H') {t : NN.T} {v : V} (h : Tr [] H t v) : Tr [] H' t v := Tr.mono (fun b o n q => ⟨n, e b o q⟩) t h
theorem Trs.same {H H' : Hp} (e : Same H H') {ts : List NN.T} {vs : List V} (h : Trs [] H ts vs) : Trs [] H' ts vs := Trs.mono (fun b o n q => ⟨n, e b o q⟩) ts h
theorem Trs.len {L : List Addr} {H : Hp} : ∀ {ts : List NN.T} {vs : List V}, Trs L H ts vs → vs.length = ts.length
  | [], _, e => by rw [Trs] at e; rw [e]; rfl
  | t :: ts, _, e => by
    rw [Trs] at e
    obtain ⟨v, r, rfl, _, q⟩ := e
    rw [List.length_cons, List.length_cons, Trs.len q]
theorem Trs.app {L : List Addr} {H : Hp} : ∀ {ts us : List NN.T} {vs ws : List V}, Trs L H ts vs → Trs L H us ws → Trs L H (ts ++ us) (vs ++ ws)
  | [], _, _, _, e, q => by rw [Trs] at e; subst e; exact q
  | t :: ts, _, _, _, e, q => by
    rw [Trs] at e
    obtain ⟨v, r, rfl, q1, q2⟩ := e
    rw [List.cons_append, List.cons_append, Trs]
    exact ⟨v, _, rfl, q1, q2.app q⟩
theorem Trs.one {L : List Addr} {H : Hp} {t : NN.T} {v : V} (h : Tr L H t v) : Trs L H [t] [v] := by
  rw [Trs]
  exact ⟨v, [], rfl, h, by rw [Trs]⟩
theorem Trs.snoc {L : List Addr} {H : Hp} {ts : List NN.T} {vs : List V} {t : NN.T} {v : V} (h : Trs L H ts vs) (q : Tr L H t v) : Trs L H (ts ++ [t]) (vs ++ [v]) := h.app (.one q)
theorem Trs.get {L : List Addr} {H : Hp} : ∀ {ts : List NN.T} {vs : List V} {i : Nat} {t : NN.T}, Trs L H ts vs → ts[i]? = some t → ∃ v, vs[i]? = some v ∧ Tr L H t v
  | [], _, _, _, _, e => by simp at e
  | t :: ts, _, i, u, e, h => by
    rw [Trs] at e
    obtain ⟨v, r, rfl, q1, q2⟩ := e
    cases i with
    | zero => simp at h; subst h; exact ⟨v, by simp, q1⟩
    | succ i =>
      obtain ⟨w, hw, q⟩ := Trs.get (i := i) q2 (by simpa using h)
      exact ⟨w, by simpa using hw, q⟩
theorem Trs.take {L : List Addr} {H : Hp} : ∀ {ts : List NN.T} {vs : List V} (n : Nat), Trs L H ts vs → Trs L H (ts.take n) (vs.take n)
  | [], _, n, e => by rw [Trs] at e; subst e; simp [Trs]
  | t :: ts, _, 0, e => by simp [Trs]
  | t :: ts, _, n + 1, e => by
    rw [Trs] at e
    obtain ⟨v, r, rfl, q1, q2⟩ := e
    rw [List.take_succ_cons, List.take_succ_cons, Trs]
    exact ⟨v, _, rfl, q1, q2.take n⟩
theorem Trs.drop {L : List Addr} {H : Hp} : ∀ {ts : List NN.T} {vs : List V} (n : Nat), Trs L H ts vs → Trs L H (ts.drop n) (vs.drop n)
  | [], _, n, e => by rw [Trs] at e; subst e; simp [Trs]
  | t :: ts, _, 0, e => e
  | t :: ts, _, n + 1, e => by
    rw [Trs] at e
    obtain ⟨v, r, rfl, q1, q2⟩ := e
    rw [List.drop_succ_cons, List.drop_succ_cons]
    exact q2.drop n
/-- an address that was not tracked may be written -/
theorem Same.upd {H H' : Hp} (e : Same H H') {a : Addr} (h : H a = none) (o : HO) : Same H (upd H' a o) := fun b u q => by
  rw [upd_ne (ne_of_none q h)]
  exact e b u q

/-! ### the open lists -/
def Opn (L : List Addr) (H : Hp) : List (List NN.T) → List Addr → Prop
  | [], as => as = []
  | r :: rest, as => ∃ a bs vs, as = a :: bs ∧ H a = some (.lst vs) ∧ Trs L H r vs ∧ Opn L H rest bs
theorem Opn.mono {L L' : List Addr} {H H' : Hp} (h : ∀ b o, b ∉ L → H b = some o → b ∉ L' ∧ H' b = some o) : ∀ {rows : List (List NN.T)} {as : List Addr}, (∀ a ∈ as, H' a = H a) → Opn L H rows as → Opn L' H' rows as
  | [], _, _, e => e
  | r :: rest, _, ha, e => by
    obtain ⟨a, bs, vs, rfl, e1, e2, e3⟩ := e
    exact ⟨a, bs, vs, rfl, (ha a (by simp)).trans e1, e2.mono h, Opn.mono h (fun b hb => ha b (by simp [hb])) e3⟩
theorem Opn.len {L : List Addr} {H : Hp} : ∀ {rows : List (List NN.T)} {as : List Addr}, Opn L H rows as → as.length = rows.length
  | [], _, e => by have e : _ = [] := e; rw [e]; rfl
  | r :: rest, _, e => by
    obtain ⟨a, bs, vs, rfl, _, _, e3⟩ := e
    rw [List.length_cons, List.length_cons, e3.len]
/-- H₀: the heap ahead; the list of the open lists stands at R, they at as (the innermost first) -/
structure Grw (H₀ H : Hp) (R : Addr) (rows : List (List NN.T)) (as : List Addr) : Prop where
  same : Same H₀ H
  new : ∀ a ∈ R :: as, H₀ a = none
  nd : (R :: as).Nodup
  at_ : H R = some (.lst (as.reverse.map V.ref))
  opn : Opn (R :: as) H rows as
section
variable {H₀ H : Hp} {R : Addr} {rows : List (List NN.T)} {as : List Addr}
theorem Grw.open_ (g : Grw H₀ H R rows as) {p : Addr} (hp : H p = none) : Grw H₀ (upd (upd H p (.lst [])) R (.lst (as.reverse.map V.ref ++ [.ref p]))) R ([] :: rows) (p :: as) := by
  have hR : R ≠ p := fun e => by rw [← e, g.at_] at hp; cases hp
  have hA : ∀ {rows : List (List NN.T)} {bs : List Addr}, Opn (R :: as) H rows bs → ∀ a ∈ bs, ∃ vs, H a = some (.lst vs) := by
    intro rows
    induction rows with
    | nil => intro bs e a ha; have e : bs = [] := e; rw [e] at ha; simp at ha
    | cons r rest ih =>
      intro bs e a ha
      obtain ⟨b, cs, vs, rfl, e1, _, e3⟩ := e
      rcases List.mem_cons.mp ha with z | z
      · exact ⟨vs, by rw [z]; exact e1⟩
      · exact ih e3 a z
  have hne : ∀ a ∈ as, a ≠ p := fun a ha e => by
    obtain ⟨vs, q⟩ := hA g.opn a ha
    rw [e, hp] at q; cases q
  have nd := g.nd
  rw [List.nodup_cons] at nd
  refine ⟨(g.same.trans (same_new hp _)).upd (g.new R (by simp)) _, fun a ha => ?_, ?_, ?_, ?_⟩
  · rcases List.mem_cons.mp ha with z | z
    · rw [z]; exact g.new R (by simp)
    · rcases List.mem_cons.mp z with z | z
      · rw [z]; exact g.same.free hp
      · exact g.new a (by simp [z])
  · rw [List.nodup_cons, List.nodup_cons]
    refine ⟨fun m => ?_, fun m => hne p m rfl, nd.2⟩
    rcases List.mem_cons.mp m with z | z
    · exact hR z
    · exact nd.1 z
  · rw [upd_same]; simp
  · refine ⟨p, as, [], rfl, ?_, by rw [Trs], g.opn.mono (fun b o n q => ?_) fun a ha => ?_⟩
    · rw [upd_ne (Ne.symm hR), upd_same]
    · have bR : b ≠ R := fun e => n (by simp [e])
      have bp : b ≠ p := fun e => by rw [e, hp] at q; cases q
      refine ⟨fun m => ?_, by rw [upd_ne bR, upd_ne bp]; exact q⟩
      rcases List.mem_cons.mp m with z | z
      · exact bR z
      · rcases List.mem_cons.mp z with z | z
        · exact bp z
        · exact n (by simp [z])
    · have aR : a ≠ R := fun e => nd.1 (by rw [← e]; exact ha)
      rw [upd_ne aR, upd_ne (hne a ha)]
theorem Opn.get {L : List Addr} {H : Hp} : ∀ {rows : List (List NN.T)} {bs : List Addr}, Opn L H rows bs → ∀ a ∈ bs, ∃ vs, H a = some (.lst vs)
  | [], _, e, a, ha => by have e : _ = [] := e; rw [e] at ha; simp at ha
  | r :: rest, _, e, a, ha => by
    obtain ⟨b, cs, vs, rfl, e1, _, e3⟩ := e
    rcases List.mem_cons.mp ha with z | z
    · exact ⟨vs, by rw [z]; exact e1⟩
    · exact Opn.get e3 a z
theorem Grw.later {H₂ : Hp} (g : Grw H₀ H R rows as) (e : Same H H₂) : Grw H₀ H₂ R rows as :=
  ⟨g.same.trans e, g.new, g.nd, e _ _ g.at_, g.opn.mono (fun b o n q => ⟨n, e b o q⟩) fun a ha => by
    obtain ⟨vs, q⟩ := g.opn.get a ha
    rw [q, e _ _ q]⟩
/-- the innermost list -/
theorem Grw.last (g : Grw H₀ H R rows as) (h : rows ≠ []) : ∃ r rest a bs vs, rows = r :: rest ∧ as = a :: bs ∧ H a = some (.lst vs) ∧ Trs (R :: as) H r vs ∧ Opn (R :: as) H rest bs := by
  cases rows with
  | nil => exact absurd rfl h
  | cons r rest =>
    obtain ⟨a, bs, vs, e, e1, e2, e3⟩ := g.opn
    exact ⟨r, rest, a, bs, vs, rfl, e, e1, e2, e3⟩
theorem Grw.push {t : NN.T} {x : V} {r : List NN.T} {rest : List (List NN.T)} {a : Addr} {bs : List Addr} {vs : List V} (g : Grw H₀ H R (r :: rest) (a :: bs)) (ha : H a = some (.lst vs)) (hx : Tr (R :: a :: bs) H t x) :
    Grw H₀ (upd H a (.lst (vs ++ [x]))) R (NN.push t (r :: rest)) (a :: bs) := by
  have nd := g.nd
  rw [List.nodup_cons, List.nodup_cons] at nd
  have aR : a ≠ R := fun e => nd.1 (by simp [e])
  obtain ⟨a', bs', vs', e, e1, e2, e3⟩ := g.opn
  cases e
  rw [ha] at e1
  cases e1
  have keep : ∀ b o, b ∉ R :: a :: bs → H b = some o → b ∉ R :: a :: bs ∧ upd H a (.lst (vs ++ [x])) b = some o := fun b o n q => ⟨n, by rw [upd_ne (fun e => n (by simp [e]))]; exact q⟩
  refine ⟨g.same.upd (g.new a (by simp)) _, g.new, g.nd, ?_, ?_⟩
  · rw [upd_ne (Ne.symm aR)]; exact g.at_
  · refine ⟨a, bs, vs ++ [x], rfl, upd_same, ?_, e3.mono keep fun b hb => ?_⟩
    · exact (e2.mono keep).snoc (hx.mono keep)
    · exact upd_ne fun e => nd.2.1 (by rw [← e]; exact hb)
theorem Grw.shut {r s : List NN.T} {rest : List (List NN.T)} {a b : Addr} {cs : List Addr} {ws : List V} (g : Grw H₀ H R (r :: s :: rest) (a :: b :: cs)) (hb : H b = some (.lst ws)) :
    Grw H₀ (upd (upd H R (.lst ((b :: cs).reverse.map V.ref))) b (.lst (ws ++ [.ref a]))) R (NN.shut (r :: s :: rest)) (b :: cs) := by
  have nd := g.nd
  rw [List.nodup_cons, List.nodup_cons, List.nodup_cons] at nd
  obtain ⟨n1, n2, n3, n4⟩ := nd
  have bR : b ≠ R := fun e => n1 (by simp [e])
  have aR : a ≠ R := fun e => n1 (by simp [e])
  have ab : a ≠ b := fun e => n2 (by simp [e])
  obtain ⟨a', bs', vs, e, e1, e2, b', cs', ws', e', f1, f2, f3⟩ := g.opn
  cases e
  cases e'
  rw [hb] at f1
  cases f1
  have keep : ∀ x o, x ∉ R :: a :: b :: cs → H x = some o → x ∉ R :: b :: cs ∧ upd (upd H R (.lst ((b :: cs).reverse.map V.ref))) b (.lst (ws ++ [.ref a])) x = some o := fun x o n q => by
    refine ⟨fun m => n ?_, ?_⟩
    · rcases List.mem_cons.mp m with z | z
      · simp [z]
      · exact List.mem_cons_of_mem _ (List.mem_cons_of_mem _ z)
    · rw [upd_ne (fun e => n (by simp [e])), upd_ne (fun e => n (by simp [e]))]; exact q
  refine ⟨(g.same.upd (g.new R (by simp)) _).upd (g.new b (by simp)) _, fun x hx => g.new x ?_, ?_, ?_, ?_⟩
  · rcases List.mem_cons.mp hx with z | z
    · simp [z]
    · exact List.mem_cons_of_mem _ (List.mem_cons_of_mem _ z)
  · rw [List.nodup_cons, List.nodup_cons]
    exact ⟨fun m => n1 (List.mem_cons_of_mem _ m), n3, n4⟩
  · rw [upd_ne (Ne.symm bR), upd_same]
  · refine ⟨b, cs, ws ++ [.ref a], rfl, upd_same, ?_, f3.mono keep fun x hx => ?_⟩
    · refine (f2.mono keep).snoc ?_
      rw [Tr]
      refine ⟨a, vs, rfl, fun m => ?_, ?_, e2.mono keep⟩
      · rcases List.mem_cons.mp m with z | z
        · exact aR z
        · exact n2 z
      · rw [upd_ne ab, upd_ne aR]; exact e1
    · have xb : x ≠ b := fun e => n3 (by rw [← e]; exact hx)
      have xR : x ≠ R := fun e => n1 (by rw [← e]; simp [hx])
      rw [upd_ne xb, upd_ne xR]
end
/-- the one thing, or the list of them -/
def oneOr : List NN.T → NN.T
  | [t] => t
  | r => .lst r
theorem grownT_eq (cs : List Int) : NN.grownT cs = oneOr (NN.shutAll (cs.foldl NN.grow1 [[]])) := by
  unfold NN.grownT
  cases NN.shutAll (cs.foldl NN.grow1 [[]]) with
  | nil => rfl
  | cons t r => cases r <;> rfl
theorem ite_and {c1 c2 : Bool} {U A B : Prop} (hU : (if c2 = true then A else B) → U) (h : if (c1 && c2) = true then A else B) : if c1 = true then U else (if false = true then A else B) := by
  cases c1 with
  | true => rw [Bool.true_and] at h; rw [if_pos rfl]; exact hU h
  | false => rw [Bool.false_and] at h; rw [if_neg (by decide)]; exact h
/-- lengths -/
theorem len_sizes : ∀ ts : List NN.T, ts.length ≤ NN.T.sizes ts
  | [] => by simp [NN.T.sizes]
  | t :: r => by have q := len_sizes r; have p := NN.T.size_pos t; simp [NN.T.sizes]; omega
theorem len_wrows : ∀ rows : List (List NN.T), rows.length ≤ NN.wrows rows
  | [] => by simp [NN.wrows]
  | r :: rest => by have q := len_wrows rest; simp [NN.wrows]; omega
end L2

set_option Elab.async false
set_option linter.all false
set_option maxRecDepth 100000
set_option maxHeartbeats 1000000
namespace L2
open PySem PySem.Spec PyProof.Rows
section
variable {X : Cx}
/-- xs != [], xs == [] -/
def rNil (neg : Bool) (K : PySem.W.Frag) : R2 := fun x y H Q => ∃ a b xs, x = .ref a ∧ y = .ref b ∧ SqL K H a xs ∧ SqL K H b [] ∧ Q (.bl (if neg then !decide (xs = []) else decide (xs = []))) H
end
theorem list_cases_last {α : Type} (l : List α) : l = [] ∨ ∃ a x, l = a ++ [x] := by
  cases h : l.reverse with
  | nil => left; rw [← List.reverse_reverse l, h]; rfl
  | cons x r => right; exact ⟨r.reverse, x, by rw [← List.reverse_reverse l, h, List.reverse_cons]⟩
end L2
namespace L2
open PySem PySem.Spec PyProof.Rows
end L2

set_option Elab.async false
set_option linter.all false
set_option maxRecDepth 100000
set_option maxHeartbeats 1000000
namespace L2
open PySem PySem.Spec PyProof.Rows
section
variable {X : Cx}
/-- sep.join(a list of texts) -/
def rJoin (K : PySem.W.Frag) : V → List V → Hp → VK → Prop := fun x vs H Q => ∃ (sep : Str) (a : Addr) (zs : List Str), x = .str sep ∧ vs = [.ref a] ∧ SqL K H a (zs.map V.str) ∧ sep.length ≤ 16 ∧ (zs.map (·.length)).sum + zs.length ≤ 1048576 ∧ Q (.str (Txt.join sep zs)) H
theorem strs_of : ∀ {zs : List Str} {us : List Value}, Vals (zs.map V.str) us → StrsAre us zs
  | [], _, r => by rw [List.map_nil] at r; cases r; exact .nil
  | z :: zs, _, r => by
    rw [List.map_cons] at r
    cases r with
    | cons r1 r2 =>
      obtain ⟨t, rfl⟩ := r1
      exact .cons z t (strs_of r2)
theorem mt_join : MtR X "str.join" (rJoin X.K) := by
  intro pins s σ H x vs v us Q I rx rv h
  obtain ⟨sep, a, zs, rfl, rfl, ha, h16, hw, q⟩ := h
  obtain ⟨t, rfl⟩ := rx
  obtain ⟨u, rfl, ru⟩ := Vals.one rv
  cases ru
  obtain ⟨its, r, p, _⟩ := I.list ha
  exact join_listW p.isList (by simpa using strs_of r) h16 hw fun t' k => ⟨.str _, H, I.tok _, ⟨_, rfl⟩, q⟩
end
theorem cod_join (css : List (List Nat)) : cod (Txt.join " " (css.map tx)) = NN.joinB css := by
  have e : ∀ zs : List Str, Txt.join " " zs = Str.join " " zs := fun zs => PySem.StrLaws.glued_eq_join " " zs
  rw [e]
  induction css with
  | nil => rfl
  | cons x r ih =>
    cases r with
    | nil => rfl
    | cons y r =>
      show cod (tx x ++ " " ++ Str.join " " ((y :: r).map tx)) = x ++ 32 :: NN.joinB (y :: r)
      rw [cod_app, cod_app, ih, List.append_assoc]
      rfl
/-- a thing's line as a leaf -/
def lf (t : NN.T) : NN.T := .str t.line
theorem Trs.leaf {L : List Addr} {H : Hp} : ∀ {r : List NN.T} {vs : List V}, Trs L H (r.map lf) vs ↔ vs = r.map fun t => V.str (tx t.line)
  | [], _ => by rw [List.map_nil, Trs]; rfl
  | t :: r, vs => by
    rw [List.map_cons, Trs, List.map_cons]
    constructor
    · rintro ⟨v, s, rfl, h1, h2⟩
      rw [lf, Tr] at h1
      rw [h1, Trs.leaf.mp h2]
    · rintro rfl
      exact ⟨_, _, rfl, by rw [lf, Tr], Trs.leaf.mpr rfl⟩
def lrows (rows : List (List NN.T)) : List (List NN.T) := rows.map fun r => r.map lf
theorem lrows_push (t : NN.T) (rows : List (List NN.T)) : lrows (NN.push t rows) = NN.push (lf t) (lrows rows) := by
  cases rows with
  | nil => rfl
  | cons r rest => simp [lrows, NN.push]
theorem fines_weight : ∀ {r : List NN.T}, NN.T.fines r → (r.map fun t => t.line.length).sum + r.length ≤ 63 * NN.T.sizes r
  | [], _ => by simp
  | t :: r, h => by
    have q := NN.T.line_le t h.1
    have q2 := fines_weight (r := r) h.2
    simp only [List.map_cons, List.sum_cons, List.length_cons, NN.T.sizes]
    omega
section
variable {H₀ H : Hp} {R : Addr} {rows : List (List NN.T)} {as : List Addr}
/-- the innermost list is dropped -/
theorem Grw.drop {r : List NN.T} {rest : List (List NN.T)} {a : Addr} {bs : List Addr} (g : Grw H₀ H R (r :: rest) (a :: bs)) : Grw H₀ (upd H R (.lst (bs.reverse.map V.ref))) R rest bs := by
  have nd := g.nd
  rw [List.nodup_cons, List.nodup_cons] at nd
  obtain ⟨n1, n2, n3⟩ := nd
  obtain ⟨a', bs', vs, e, e1, e2, e3⟩ := g.opn
  cases e
  refine ⟨g.same.upd (g.new R (by simp)) _, fun x hx => g.new x ?_, ?_, upd_same, e3.mono (fun b o n q => ?_) fun b hb => ?_⟩
  · rcases List.mem_cons.mp hx with z | z
    · simp [z]
    · simp [z]
  · rw [List.nodup_cons]
    exact ⟨fun m => n1 (List.mem_cons_of_mem _ m), n3⟩
  · have nR : b ≠ R := fun e => n (by simp [e])
    refine ⟨fun m => n ?_, by rw [upd_ne nR]; exact q⟩
    rcases List.mem_cons.mp m with z | z
    · simp [z]
    · simp [z]
  · exact upd_ne fun e => n1 (by rw [← e]; simp [hb])
end

theorem last_ref (as : List Addr) (a : Addr) : atI ((a :: as).reverse.map V.ref) (-1) = some (.ref a) := by
  rw [List.reverse_cons, List.map_append]
  exact atI_last _ _
theorem pop_last (b : Addr) (cs : List Addr) : ((b :: cs).reverse.map V.ref).dropLast = cs.reverse.map V.ref ∧ ((b :: cs).reverse.map V.ref)[((b :: cs).reverse.map V.ref).length - 1]? = some (.ref b) := by
  rw [List.reverse_cons, List.map_append]
  exact ⟨List.dropLast_concat, by simp⟩
/-- "[" + " ".join(..) + "]" -/
theorem cod_lines (r : List NN.T) : cod (Txt.join " " (r.map fun t => tx t.line)) = NN.T.join r := by
  have e : (r.map fun t => tx t.line) = (r.map NN.T.line).map tx := by rw [List.map_map]; rfl
  rw [e, cod_join, NN.join_map]
theorem wrap_text (r : List NN.T) : ("[" : Str) ++ Txt.join " " (r.map fun t => tx t.line) ++ ("]" : Str) = tx (NN.T.lst r).line := by
  refine str_tx ?_
  rw [cod_app, cod_app, cod_lines, NN.T.line]
  rfl
theorem wrap_ok {r : List NN.T} (hf : NN.T.fines r) (hs : NN.T.sizes r ≤ 300) : ((r.map fun t => tx t.line).map (·.length)).sum + (r.map fun t => tx t.line).length ≤ 1048576 ∧
    ("[" : Str).length + (Txt.join " " (r.map fun t => tx t.line)).length ≤ sizeLine ∧ (("[" : Str) ++ Txt.join " " (r.map fun t => tx t.line)).length + ("]" : Str).length ≤ sizeLine := by
  have w := fines_weight hf
  have j := NN.T.join_le r hf
  have e1 : ("[" : Str).length = 1 := by decide +kernel
  have e2 : ("]" : Str).length = 1 := by decide +kernel
  have e3 : (Txt.join " " (r.map fun t => tx t.line)).length = (NN.T.join r).length := by rw [← cod_len, cod_lines]
  have e4 : (("[" : Str) ++ Txt.join " " (r.map fun t => tx t.line)).length = 1 + (NN.T.join r).length := by rw [← cod_len, cod_app, List.length_append, cod_lines]; rfl
  refine ⟨?_, ?_, ?_⟩
  · rw [List.length_map, List.map_map]
    have e5 : (r.map ((fun z : Str => z.length) ∘ fun t => tx t.line)) = r.map fun t => t.line.length := List.map_congr_left fun t _ => tx_len t.line
    have e6 : (List.map ((fun x : Str => x.length) ∘ fun t : NN.T => tx t.line) r).sum = (r.map fun t => t.line.length).sum := congrArg List.sum e5
    rw [e6]
    omega
  · rw [e1, e3]; exact small (by omega)
  · rw [e4, e2]; exact small (by omega)
theorem log_num (c : Int) : (NN.numberOf c).natAbs.log2 < 1920 := by
  have h := NN.numberOf_small c
  by_cases h0 : (NN.numberOf c).natAbs = 0
  · rw [h0]; decide
  · rw [Nat.log2_lt h0]
    exact Nat.lt_trans h (by decide)
section
variable {H₀ H : Hp} {R : Addr}
theorem grw_start {r0 : Addr} (h0 : H r0 = none) (hR : upd H r0 (.lst []) R = none) : Grw H (upd (upd H r0 (.lst [])) R (.lst [.ref r0])) R [[]] [r0] := by
  have hRr : R ≠ r0 := fun e => by rw [e, upd_same] at hR; cases hR
  have hR0 : H R = none := by rw [upd_ne hRr] at hR; exact hR
  refine ⟨((Same.refl H).upd h0 _).upd hR0 _, fun x hx => ?_, ?_, upd_same, ?_⟩
  · rcases List.mem_cons.mp hx with z | z
    · rw [z]; exact hR0
    · have z' : x = r0 := by simpa using z
      rw [z']; exact h0
  · simp [hRr]
  · exact ⟨r0, [], [], rfl, by rw [upd_ne (Ne.symm hRr), upd_same], by rw [Trs], rfl⟩
theorem Grw.two {r s : List NN.T} {rest : List (List NN.T)} {b c : Addr} {cs : List Addr} (g : Grw H₀ H R (lrows (r :: s :: rest)) (b :: c :: cs)) :
    H b = some (.lst (r.map fun t => V.str (tx t.line))) ∧ H c = some (.lst (s.map fun t => V.str (tx t.line))) ∧ c ≠ R ∧ b ≠ R := by
  obtain ⟨_, _, vs, e0, hb, ht, _, _, ws, e1, hc, ht2, _⟩ := id g.opn
  cases e0
  cases e1
  have nd := g.nd
  rw [List.nodup_cons] at nd
  exact ⟨by rw [hb, Trs.leaf.mp ht], by rw [hc, Trs.leaf.mp ht2], fun e => nd.1 (by simp [e]), fun e => nd.1 (by simp [e])⟩
theorem Grw.shutText {r s : List NN.T} {rest : List (List NN.T)} {b c : Addr} {cs : List Addr} {ws : List V} (g : Grw H₀ H R (lrows (r :: s :: rest)) (b :: c :: cs)) (hc : H c = some (.lst ws)) :
    Grw H₀ (upd (upd H R (.lst ((c :: cs).reverse.map V.ref))) c (.lst (ws ++ [.str (tx (NN.T.lst r).line)]))) R (lrows (NN.shut (r :: s :: rest))) (c :: cs) := by
  have g1 := Grw.drop g
  have cR : c ≠ R := g.two.2.2.1
  have e : lrows (NN.shut (r :: s :: rest)) = NN.push (lf (.lst r)) (lrows (s :: rest)) := by simp [lrows, NN.shut, NN.push]
  rw [e]
  refine Grw.push g1 (by rw [upd_ne cR]; exact hc) ?_
  rw [lf, Tr]
end
end L2

set_option Elab.async false
set_option linter.all false
set_option maxRecDepth 100000
set_option maxHeartbeats 1000000
namespace L2
open PySem PySem.Spec PyProof.Rows
/-- a comprehension that names nothing of the def but its source -/
theorem comp_closed {X : Cx} {scope : Scope} {x : Str} (kind : scope.kind = .function) (hfree : ∀ y ∈ scope.names, y.2 ≠ .free) (hcell : ∀ y ∈ scope.names, y.2 ≠ .cell)
    (names : ∀ y ∈ scope.names, y.2 = .local → scope.names.lookup y.1 = some .local) (var : scope.names.lookup x = some .local) : CompScope X scope [] x [] [] := by
  have no : ∀ (y : Str) (k : NameKind), (relabel scope X.env).names.lookup y = some k → k ≠ .cell ∧ k ≠ .free := fun y k h => by
    have m := PySem.mem_of_lookup h
    have m' : (y, k) ∈ scope.names.map fun (n, k) => if (k == .free && X.env.scope.kind == .function && X.env.kindOf n == some .cell) then (n, .cell) else (n, k) := m
    obtain ⟨⟨n, k'⟩, hm, e⟩ := List.mem_map.mp m'
    have h1 := hfree _ hm
    have h2 := hcell _ hm
    have hb : (k' == NameKind.free) = false := by simpa using h1
    have e' : (n, k') = (y, k) := by
      have e2 := e
      simp only [hb, Bool.false_and, Bool.false_eq_true, if_false] at e2
      exact e2
    cases e'
    exact ⟨h2, h1⟩
  refine ⟨closureFor_none hfree, kind, hcell, names, var, fun y c h => (by cases h), fun y h => ?_, by simp, rfl, fun k y h => (by cases h)⟩
  rcases h with h | h
  · exact absurd rfl (no y _ h).1
  · exact absurd rfl (no y _ h).2
end L2

set_option Elab.async false
set_option linter.all false
set_option maxRecDepth 100000
set_option maxHeartbeats 1000000
/-! Errors of the program's own: raised, passed on, caught. -/
namespace L2
open PySem PySem.Spec PyProof.Rows
/-- an error a of the class cls is under way through the frames l; g, H: ahead; H': behind; B: all that is exactly kept from here on -/
structure Rz (P : Program) (w : World) (l : List Env) (H H' : Hp) (g : Heap) (a : Addr) (cls : Value) (B h : Heap) : Prop where
  fly : ∃ t, Heap.FlyingW B l a cls (.ref t) h
  hok : HOk P w H' B
  keep : ∀ b o, g.get? b = some o → H b = none → b ∉ frs l → B.get? b = some o
  there : ∀ b o, g.get? b = some o → b ∉ frs l → ∃ o', B.get? b = some o'
  slot : ∀ b o, g.get? b = some o → H b = none → b ∈ frs l → ∃ sl, h.get? b = some { o with slots := sl }
  free : ∀ b o, g.get? b = some o → H b = none → H' b = none
  tups : ∀ b xs, H b = some (.tup xs) → H' b = some (.tup xs)
  frzs : ∀ b o u, H b = some (.frz o u) → H' b = some (.frz o u)
  tbls : ∀ b ps, H b = some (.tbl ps) → ∃ more, H' b = some (.tbl (ps ++ more))
section
variable {P : Program} {w : World} {l : List Env} {H H' : Hp} {g : Heap} {a : Addr} {cls : Value} {B h h' : Heap}
theorem Rz.stays (r : Rz P w l H H' g a cls B h) : B.StaysIn h := let ⟨_, f⟩ := r.fly; f.1
theorem Rz.un (r : Rz P w l H H' g a cls B h) : Un (frs l) [] H H' g h where
  keep := fun b o q n hb _ => r.stays b o (r.keep b o q n hb)
  slot := fun b o q n hb _ => r.slot b o q n hb
  free := fun b o q n _ => r.free b o q n
  there := fun b o q _ => by
    by_cases hb : b ∈ frs l
    · obtain ⟨_, f⟩ := r.fly
      obtain ⟨_, o', ho, _⟩ := f.2.2.1.mem hb
      exact ⟨o', ho⟩
    · obtain ⟨o', q'⟩ := r.there b o q hb
      exact ⟨o', r.stays b o' q'⟩
  tups := r.tups
  frzs := r.frzs
  tbls := r.tbls
theorem Rz.hokAt (r : Rz P w l H H' g a cls B h) : HOk P w H' h := r.hok.kept fun b u q => r.stays b u q
/-- a station of the way -/
theorem Rz.on {l' : List Env} (r : Rz P w l H H' g a cls B h) (hl : ∀ b ∈ frs l', b ∈ frs l) (fly : ∃ t, Heap.FlyingW B l' a cls (.ref t) h') (up : h.UpToSlots h')
    (hk : ∀ b o, g.get? b = some o → b ∈ frs l → b ∈ frs l') : Rz P w l' H H' g a cls B h' where
  fly := fly
  hok := r.hok
  keep := fun b o q n hb => r.keep b o q n fun z => hb (hk b o q z)
  there := fun b o q hb => r.there b o q fun z => hb (hk b o q z)
  slot := fun b o q n hb => by
    obtain ⟨sl, e⟩ := r.slot b o q n (hl b hb)
    obtain ⟨_, f⟩ := r.fly
    obtain ⟨_, o', ho, hd⟩ := f.2.2.1.mem (hl b hb)
    rw [e] at ho
    cases ho
    obtain ⟨sl', e'⟩ := up b _ e hd
    exact ⟨sl', e'⟩
  free := r.free
  tups := r.tups
  frzs := r.frzs
  tbls := r.tbls
end
/-- how an error lies behind a call -/
def CXR (P : Program) (w : World) : CXT := fun outer H s E e s' => ∃ (a : Addr) (cls : Value) (B : Heap) (H' : Hp), e = .ref a ∧ E cls none H' ∧ s'.os = s.os ∧ AllBare s'.gens ∧ Rz P w outer H H' s.heap a cls B s'.heap
theorem CXR.no {P : Program} {w : World} {H : Hp} {s : Shared} {e : Value} {s' : Shared} (h : CXR P w [] H s (fun _ _ _ => False) e s') : False := by
  obtain ⟨_, _, _, _, _, f, _⟩ := h
  exact f
section
variable {P : Program} {w : World} {K : PySem.W.Frag} {mg : Str → Option Value} {base : Heap} {N : List Str} {qual : Str} {scope : Scope} {f : Addr} {cd : Value} {A : Around} {outer : List Env} {s : Shared} {H₀ : Hp} {E E' : XK} {pins : List (Addr × Obj)} {σ : St} {H : Hp} {s1 : Shared}
theorem frs_cons (env : Env) (l : List Env) {L : Addr} (h : env.frame = some L) : frs (env :: l) = L :: frs l := by
  unfold frs
  rw [List.filterMap_cons, h]
/-- an error made here leaves this def -/
theorem raiseR {h2 : Heap} {e : Addr} {cls : Value} {args : List Value} (I : Inv (cxOf (CXR P w) P w K mg base N qual scope f cd A outer s H₀ E) pins σ H s1) (hx : Heap.MadeExcOf s1.heap h2 e cls args) (hE : E cls none H) :
    (cxOf (CXR P w) P w K mg base N qual scope f cd A outer s H₀ E).xe (.ref e) { s1 with heap := h2 } := by
  have sub : ∀ b ∈ frs outer, b ∈ frs (envOfC qual scope s.heap.objs.size f cd :: outer) := fun b hb => by rw [frs_cons _ _ rfl]; exact List.mem_cons_of_mem _ hb
  have ahead : ∀ b o, s.heap.get? b = some o → b ∈ frs (envOfC qual scope s.heap.objs.size f cd :: outer) → b ∈ frs outer := fun b o q hb => by
    rw [frs_cons _ _ rfl] at hb
    rcases List.mem_cons.mp hb with z | z
    · exact absurd (Heap.lt_size q) (by rw [z]; exact Nat.lt_irrefl _)
    · exact z
  have ff : s1.heap.FunFrames (PySem.W.hideAll s1.heap (frs (envOfC qual scope s.heap.objs.size f cd :: outer))) (envOfC qual scope s.heap.objs.size f cd :: outer) :=
    PySem.W.funFrames_hide I.stack fun env he b hb => List.mem_filterMap.mpr ⟨env, he, hb⟩
  refine wpAny_leaves_madeW (env := envOfC qual scope s.heap.objs.size f cd) (outer := outer) I.ok.frames rfl (fun b o q => PySem.W.of_hideAll _ q) ff hx fun h' t fl _ _ up => ?_
  have u := I.base
  have inB : ∀ b o, s1.heap.get? b = some o → b ∉ frs (envOfC qual scope s.heap.objs.size f cd :: outer) → (PySem.W.hideAll s1.heap (frs (envOfC qual scope s.heap.objs.size f cd :: outer))).get? b = some o := fun b o q n => PySem.W.hideAll_get _ q n
  refine ⟨e, cls, _, H, rfl, hE, I.os, I.bare, ⟨⟨t, fl⟩, fun b u' q => ?_, fun b o q n hb => ?_, fun b o q hb => ?_, fun b o q n hb => ?_, fun b o q n => u.free b o q n (by simp [cxOf]), u.tups, u.frzs, u.tbls⟩⟩
  · refine (I.hok b u' q).stay (fun c v hc r => inB c v r fun z => ?_) (fun _ r => r) fun _ _ r => r
    have zf := I.stkFree c z
    rcases hc with hc | hc
    · rw [hc, q] at zf; cases zf
    · rw [hc] at zf; cases zf
  · exact inB b o (u.keep b o q n hb (by simp [cxOf])) fun z => hb (ahead b o q z)
  · obtain ⟨o', q'⟩ := u.there b o q (by simp [cxOf])
    exact ⟨o', inB b o' q' fun z => hb (ahead b o q z)⟩
  · obtain ⟨sl, q'⟩ := u.slot b o q n hb (by simp [cxOf])
    obtain ⟨_, o', ho', hd⟩ := I.stack.mem (sub b hb)
    rw [q'] at ho'
    cases ho'
    obtain ⟨sl', e'⟩ := up b _ (hx.keeps b _ q') hd
    exact ⟨sl', e'⟩
end
end L2

set_option Elab.async false
set_option linter.all false
set_option maxRecDepth 100000
set_option maxHeartbeats 1000000
namespace L2
open PySem PySem.Spec PyProof.Rows
/-- an own error class, by the written part -/
theorem exc_of_in {K : PySem.W.Frag} {h : Heap} {C : Addr} {bmB : List Value} {newId : String} (X : K.In h) (q : PySem.W.excIn K C bmB newId = true) :
    ∃ (bm : List Value) (N : Addr) (nm qn : Str) (bs : List Value) (hd : Bool) (sn : List Str) (sub : List Value) (ab : Bool) (col : Option Bool) (dd : Option Addr) (k0 k1 k2 k3 k5 : Option Value) (mN : Str → Option Value),
      h.get? C = some (excClassObj nm qn C N bs bm hd sn sub ab col dd k0 k1 k2 k3 k5 newId) ∧ h.Ns N mN ∧ mN "__init__" = none ∧ OwnTail h bmB bm := by
  unfold PySem.W.excIn at q
  split at q
  · rename_i dd cd sl ho
    split at q
    · rename_i C' bm k0 k1 k2 k3 n k5 hm hs
      simp only [Bool.and_eq_true, beq_iff_eq, Bool.not_eq_true'] at q
      obtain ⟨⟨⟨⟨⟨rfl, rfl⟩, hdel⟩, ht⟩, hok⟩, hni⟩ := q
      obtain ⟨nm, bs, mro, ns, qn, hd, sn, sub, ab, col, del⟩ := cd
      dsimp only at hm hdel hok hni
      subst hm hdel
      have hsl : sl = #[k0, k1, k2, k3, some (.builtin n), k5] := by
        obtain ⟨l⟩ := sl
        simp only at hs
        rw [hs]
      subst hsl
      exact ⟨bm, ns, nm, qn, bs, hd, sn, sub, ab, col, dd, k0, k1, k2, k3, k5, _, X _ _ ho, .of_isNs (PySem.W.isNs_of_in X hok), PySem.W.nsMap_none_of_in X hok hni, PySem.W.tail_of_in X ht⟩
    · cases q
  · cases q
/-- raise C(..) -/
def tRaise (E : XK) (C : Addr) (t : TA) : TS := fun _ σ H => t σ H fun vs H1 => vs.length ≤ sizeLine ∧ E (.ref C) none H1
abbrev bmV : List Value := [.type "ValueError", .type "Exception", .type "BaseException", .type "object"]
theorem ps_raise {X : Cx} {E : XK} {C : Addr} {x : Str} {np cpos pos : Pos} {e : Expr} {es : List Expr} {t : TA}
    (hx : ∀ (pins : List (Addr × Obj)) (σ : St) (H : Hp) (s1 : Shared) (h2 : Heap) (a : Addr) (args : List Value), Inv X pins σ H s1 → Heap.MadeExcOf s1.heap h2 a (.ref C) args → E (.ref C) none H → X.xe (.ref a) { s1 with heap := h2 })
    (hc : X.calm = true) (hg : Gl X x) (hm : X.mg x = some (.ref C)) (hk : PySem.W.excIn X.K C bmV "ValueError.__new__" = true) (ha : PA X (e :: es) t)
    (hs : starEach (e :: es) X.env = (false, eval e X.env) :: starEach es X.env := by rfl) (hplain : (backTo cpos (starEach (e :: es) X.env)).any (·.1) = false := by rfl)
    (hd : (x == ("__debug__" : Str)) = false := by decide) : PS X (.Raise (some (.Call (.Name x np) (e :: es) [] cpos)) none pos) (tRaise E C t) := by
  intro pins s σ H D I h
  obtain ⟨bm, N, nm, qn, bs, hdct, sn, sub, ab, col, dd, k0, k1, k2, k3, k5, mN, hC, hN, hni, TL⟩ := exc_of_in I.mod.kin hk
  refine wpAny_Raise_call_subT (C := C) (nm := nm) (q := qn) (N := N) (bs := bs) (bm := bm) (hdct := hdct) (sn := sn) (sub := sub) (ab := ab) (col := col) (dd := dd) (k0 := k0) (k1 := k1) (k2 := k2) (k3 := k3) (k5 := k5) (mN := mN)
    PySem.F.excBase_ValueError (TL.hasType (by decide)) (I.ok.hd hc) hplain hni (ld_glob I hg hm ⟨rfl, ?_⟩ hd)
  have hA := ha cpos pins s σ H _ I h
  rw [hs] at hA ⊢
  refine Calls.evalArgs_plain (thn hA fun us s2 ⟨vs, H2, I2, r2, hl, hE⟩ => ?_)
  exact ⟨rfl, by show us.length ≤ sizeLine; rw [← r2.length]; exact hl, I2.bk _ _ hC, hN.keeps I2.bk, TL.keeps I2.bk, fun h' a' m => hx pins σ H2 s2 h' a' us I2 m hE⟩

/-! ### try -/
/-- an error has come into this frame -/
def xArr (X : Cx) (pins0 : List (Addr × Obj)) (R : St → XK) (e : Value) (s' : Shared) : Prop := ∃ (σ : St) (H1 : Hp) (s1 : Shared), Inv X pins0 σ H1 s1 ∧ CXR X.prog X.w X.stack H1 s1 (R σ) e s'
abbrev Cx.tryCx (X : Cx) (pins0 : List (Addr × Obj)) (R : St → XK) : Cx := { X with pn := X.pn ++ pins0, xe := xArr X pins0 R }
abbrev Cx.held (X : Cx) (a : Addr) : Cx := { X with A := X.A.mark (some (.ref a)), calm := false, xe := fun _ _ => False }
section
variable {X : Cx} {pins0 pins : List (Addr × Obj)} {R : St → XK} {σ : St} {H : Hp} {s : Shared} {a : Addr}
theorem Inv.toTry (I : Inv X pins0 σ H s) (R : St → XK) : Inv (X.tryCx pins0 R) [] σ H s := by
  have ok := I.ok
  exact ⟨⟨ok.mod, ok.kind, ok.glob, ok.blt, ok.above, ok.inj, ok.has, ok.cab, ok.hd, ok.frames, ok.stk, ok.exf, ok.bs, ok.bsz, ok.noex, ok.exfs, ok.funs, ok.frf⟩, I.os, I.bare, I.base, I.loc, I.cell, I.free, I.freeC, fun p hp => I.pin p (by simpa using hp), I.hok, I.len⟩
theorem Inv.ofTry (I : Inv (X.tryCx pins0 R) pins σ H s) : Inv X pins0 σ H s := by
  have ok := I.ok
  exact ⟨⟨ok.mod, ok.kind, ok.glob, ok.blt, ok.above, ok.inj, ok.has, ok.cab, ok.hd, ok.frames, ok.stk, ok.exf, ok.bs, ok.bsz, ok.noex, ok.exfs, ok.funs, ok.frf⟩, I.os, I.bare, I.base, I.loc, I.cell, I.free, I.freeC, fun p hp => I.pin p (List.mem_append_left _ hp), I.hok, I.len⟩
theorem Inv.toHeld (I : Inv X pins σ H s) (a : Addr) : Inv (X.held a) pins σ H s := by
  have ok := I.ok
  exact ⟨⟨ok.mod, ok.kind, ok.glob, ok.blt, ok.above, ok.inj, ok.has, ok.cab, fun z => (by cases z), ok.frames, ok.stk, ok.exf, ok.bs, ok.bsz, ok.noex, ok.exfs, ok.funs, ok.frf⟩, I.os, I.bare, I.base, I.loc, I.cell, I.free, I.freeC, I.pin, I.hok, I.len⟩
theorem Inv.ofHeld (ok : X.Ok) (I : Inv (X.held a) pins σ H s) : Inv X pins σ H s := ⟨ok, I.os, I.bare, I.base, I.loc, I.cell, I.free, I.freeC, I.pin, I.hok, I.len⟩
theorem SP.ofTry {D : Ends} {f : Flow} {s' : Shared} (h : SP (X.tryCx pins0 R) pins D f s') : SP X pins0 D f s' := by
  cases f with
  | next => obtain ⟨σ', H', I, q⟩ := h; exact ⟨σ', H', I.ofTry, q⟩
  | brk => obtain ⟨σ', H', I, q⟩ := h; exact ⟨σ', H', I.ofTry, q⟩
  | cont => obtain ⟨σ', H', I, q⟩ := h; exact ⟨σ', H', I.ofTry, q⟩
  | ret u => obtain ⟨v, σ', H', I, r, q⟩ := h; exact ⟨v, σ', H', I.ofTry, r, q⟩
theorem SP.ofHeld {D : Ends} {f : Flow} {s' : Shared} (ok : X.Ok) (h : SP (X.held a) pins D f s') : SP X pins D f s' := by
  cases f with
  | next => obtain ⟨σ', H', I, q⟩ := h; exact ⟨σ', H', I.ofHeld ok, q⟩
  | brk => obtain ⟨σ', H', I, q⟩ := h; exact ⟨σ', H', I.ofHeld ok, q⟩
  | cont => obtain ⟨σ', H', I, q⟩ := h; exact ⟨σ', H', I.ofHeld ok, q⟩
  | ret u => obtain ⟨v, σ', H', I, r, q⟩ := h; exact ⟨v, σ', H', I.ofHeld ok, r, q⟩
end
/-- f(..) in a try: an error comes as R says -/
def tCallT (sp : Sp) (dvs : List V) (R : St → XK) (t : TA) : TE := fun σ H Q => t σ H fun vs H1 => sp (vs ++ dvs) H1 Q (R σ)
section
variable {X : Cx} {pins0 : List (Addr × Obj)} {R : St → XK} {k : Nat} {f : Addr} {fd : FuncData} {ps : List Str} {sp : Sp} {dvs : List V} {ds : List Value} {x : Str} {p pos : Pos} {e : Expr} {es : List Expr} {t : TA}
theorem run_fnT {pins : List (Addr × Obj)} {σ : St} {H : Hp} {s : Shared} {Q : VK} {us : List Value} {vs : List V} (F : FnOk X.prog X.w X.K X.mg X.base (CXR X.prog X.w) k f fd ps sp) (hr : Room k X.A) (hb : Binds X.K fd ps ds) (hd : Vals dvs ds)
    (I : Inv (X.tryCx pins0 R) pins σ H s) (r : Vals vs us) (h : sp (vs ++ dvs) H Q (R σ)) : wpAny (model X.prog X.w) X.A (call (.ref f) us) (EP (X.tryCx pins0 R) pins σ Q) (X.tryCx pins0 R).xe s := by
  have r2 : Vals (vs ++ dvs) (us ++ ds) := r.append hd
  have hl : (us ++ ds).length = ps.length := by rw [← r2.length]; exact F.len _ _ _ _ h
  refine wpAny_call (codeAny_mono (F.run X.A X.stack s H ⟨us, []⟩ (us ++ ds) (vs ++ dvs) Q (R σ) hr I.env0 (hb s us I.kIn hl) r2 h) fun r s' hq => ?_)
  cases r with
  | error e => exact ⟨σ, H, s, I.ofTry, hq⟩
  | ok fl =>
    cases fl with
    | ret u => exact I.after hq
    | next => exact False.elim hq
    | brk => exact False.elim hq
    | cont => exact False.elim hq
theorem pe_callT (F : FnOk X.prog X.w X.K X.mg X.base (CXR X.prog X.w) k f fd ps sp) (hr : Room k X.A) (hg : Gl X x) (hm : X.mg x = some (.ref f)) (hk : PySem.W.keepIn X.K (.ref f) = true) (hb : Binds X.K fd ps ds) (hd : Vals dvs ds)
    (ha : PA (X.tryCx pins0 R) (e :: es) t) (hdb : (x == ("__debug__" : Str)) = false := by decide) (he : starEach (e :: es) X.env = (false, eval e X.env) :: starEach es X.env := by rfl) (hpl : (backTo pos (starEach es X.env)).any (·.1) = false := by rfl) :
    PE (X.tryCx pins0 R) (.Call (.Name x p) (e :: es) [] pos) (tCallT sp dvs R t) := by
  intro pins s σ H Q I h
  refine wpAny_Call_Name_kw (ld_glob I hg hm ?_ hdb)
  refine PySem.W.callWith_K (h₀ := X.base) I.ok.mod.kin hk (thn (ha pos pins s σ H _ I h) fun us s1 ⟨vs, H1, I1, r, q⟩ => ⟨I1.kIn, ?_⟩) he hpl
  exact run_fnT F hr hb hd I1 r q
end
/-- behind the stations within the frame that catches -/
theorem Rz.back {X : Cx} {pins : List (Addr × Obj)} {σ : St} {H1 H' : Hp} {s1 s2 : Shared} {a : Addr} {cls : Value} {B : Heap} (I : Inv X pins σ H1 s1) (r : Rz X.prog X.w X.stack H1 H' s1.heap a cls B s2.heap) (ho : s2.os = s1.os) (hb : AllBare s2.gens) : Inv X pins σ H' s2 :=
  I.call' (ch := []) ho r.un r.hokAt hb fun b z => absurd z (by simp)
/-- a class of the chain matches -/
theorem excMatches_own {M : Model} {A : Around} {E : Value → Shared → Prop} {nm q nm' q' : Str} {C N Cb N' : Addr} {bs bm bs' bm' : List Value} {hdct hdct' : Bool} {sn sn' : List Str} {sub sub' : List Value} {ab ab' : Bool} {col col' : Option Bool} {dd dd' : Option Addr}
    {k0 k1 k2 k3 k5 j0 j1 j2 j3 j5 : Option Value} {newId newId' : String} {h : Heap} {g : Array GenState} {d : Drawn} {t : Nat} {os : OsState} {e : Addr} {oe : Obj} {b : Bool} {Q : Bool → Shared → Prop}
    (hC : h.get? C = some (excClassObj nm q C N bs bm hdct sn sub ab col dd k0 k1 k2 k3 k5 newId)) (hCb : h.get? Cb = some (excClassObj nm' q' Cb N' bs' bm' hdct' sn' sub' ab' col' dd' j0 j1 j2 j3 j5 newId')) (he : h.get? e = some oe) (hcls : oe.cls = .ref C)
    (hbase : bm'.contains (.type "BaseException") = true) (hb : (Value.ref C :: bm).contains (.ref Cb) = b) (hq : Q b ⟨h, g, d, t, os⟩) : wpAny M A (excMatches (.ref e) (.ref Cb)) Q E ⟨h, g, d, t, os⟩ := by
  have hcB : (Value.ref Cb :: bm').contains (.type "BaseException") = true := by rw [List.contains_cons, hbase, Bool.or_true]
  have f := tc_notTuple
  unfold excMatches
  repeat (first | (with_reducible refine wpAny_loadPart_at he ?_; rw [hcls]) | with_reducible refine wpAny_loadPart_at hCb ?_ | (with_reducible refine wpAny_isSubtype_exc hCb ?_; rw [hcB]) | (with_reducible refine wpAny_isSubtype_exc hC ?_; rw [hb]) | wp_step)
  all_goals first | exact hq | (cases b <;> (wp_walk; exact hq))
/-- C, the error's class, stands below Cb or is it: b -/
def below (K : PySem.W.Frag) (C Cb : Addr) : Bool := match K.lookup C with
  | some ⟨_, _, .cls cd, _⟩ => cd.mro.contains (.ref Cb)
  | _ => false
/-- try: .. except Cb: .. (one clause, no name) -/
def tTry (t : (St → XK) → TS) (u : TS) (C : Addr) : TS := fun D σ H => ∃ R : St → XK, t R D σ H ∧ ∀ σ' H' cls d, R σ' cls d H' → cls = .ref C ∧ u D σ' H'
theorem ps_try {X : Cx} {body suite : List Stmt} {b₀ : Stmt} {x : Str} {np hpos pos : Pos} {t : (St → XK) → TS} {u : TS} {C Cb : Addr} {nId nId' : String} (hst : X.stack = X.env :: X.outer) (hf : X.env.frame = some X.env.locals)
    (hb : ∀ pins0 R, PSs (X.tryCx pins0 R) body (t R)) (hs : ∀ a, PSs (X.held a) (b₀ :: suite) u) (hg : Gl X x) (hm : X.mg x = some (.ref Cb)) (hk : PySem.W.excIn X.K C bmV nId = true) (hkb : PySem.W.excIn X.K Cb bmV nId' = true) (hbel : below X.K C Cb = true)
    (hd : (x == ("__debug__" : Str)) = false := by decide) : PS X (.Try body [.ExceptHandler (some (.Name x np)) none (b₀ :: suite) hpos] [] [] pos) (tTry t u C) := by
  intro pins s σ H D I h
  obtain ⟨R, ht, hR⟩ := h
  refine wpAny_Try_except (wpAny_mono (hb pins R [] s σ H D (I.toTry R) ht) (fun f s1 q => ?_) fun e s1 q => ?_)
  · have q' := SP.ofTry q
    cases f with
    | next => exact wpAny_execs_nil q'
    | brk => exact q'
    | cont => exact q'
    | ret v => exact q'
  · obtain ⟨σ1, H1, s0, I0, a, cls, B, H', rfl, hE, ho, hbr, r⟩ := q
    obtain ⟨rfl, hu⟩ := hR σ1 H' cls none hE
    obtain ⟨t0, fl⟩ := r.fly
    rw [hst] at fl
    have fr : X.A.frames = some (X.env :: X.outer) := by rw [← hst]; exact I.ok.frames
    refine wpAny_looks_onW fr hf fl fun h4 held up4 => ?_
    refine wpAny_landsW held fun h5 fl5 up5 => ?_
    have r5 : Rz X.prog X.w X.stack H1 H' s0.heap a (.ref C) B h5 := r.on (fun _ z => z) ⟨t0, by rw [hst]; exact fl5⟩ (up4.trans up5) fun _ _ _ z => z
    have I5 : Inv X pins σ1 H' { s1 with heap := h5 } := r5.back (s2 := { s1 with heap := h5 }) I0 ho hbr
    refine wpAny_handleBy_cons (codeAny_handlers_test (ld_glob (X := X.held a) (I5.toHeld a) hg hm ?_ hd)) (by intro q; cases q)
    obtain ⟨bm, N, nm, qn, bs, hdct, sn, sub, ab, col, dd, k0, k1, k2, k3, k5, mN, hC, hN, hni, TL⟩ := exc_of_in I5.kIn hk
    obtain ⟨bm', N', nm', qn', bs', hdct', sn', sub', ab', col', dd', j0, j1, j2, j3, j5, mN', hC', hN', hni', TL'⟩ := exc_of_in I5.kIn hkb
    obtain ⟨ob, hob, hobc⟩ := fl5.there
    have hin : (Value.ref C :: bm).contains (.ref Cb) = true := by
      unfold below at hbel
      split at hbel
      · rename_i hl
        have z := I5.kIn _ _ hl
        rw [hC] at z
        cases z
        exact hbel
      · cases hbel
    refine excMatches_own (g := s1.gens) (d := s1.drawn) (t := s1.toks) (os := s1.os) hC hC' hob hobc (TL'.hasType (by decide)) hin (codeAny_handlers_suite ?_)
    refine lands_againW fl5 fun h6 fl6 up6 => ?_
    have r6 : Rz X.prog X.w X.stack H1 H' s0.heap a (.ref C) B h6 := r5.on (fun _ z => z) ⟨t0, by rw [hst]; exact fl6⟩ up6 fun _ _ _ z => z
    have I6 : Inv X pins σ1 H' { s1 with heap := h6 } := r6.back (s2 := { s1 with heap := h6 }) I0 ho hbr
    exact wpAny_mono (hs a pins _ σ1 H' D (I6.toHeld a) hu) (fun f s2 q => SP.ofHeld I.ok q) fun _ _ z => z.elim
end L2
namespace L2
open PySem PySem.Spec PyProof.Rows
section
variable {P : Program} {w : World} {K : PySem.W.Frag} {mg : Str → Option Value} {base : Heap}
/-- a def whose errors may leave it -/
theorem Fun.okR {x qual : Str} {st : Stmt} {f : Addr} {fd : FuncData} {N ps : List Str} {k : Nat} {sp : Sp} (F : Fun K x qual st f fd) (S : FnScope N ps (defScope st)) (len : ∀ vs H Q E, sp vs H Q E → vs.length = ps.length)
    (hbody : ∀ (cdv : Value) (A : Around) (outer : List Env) (s : Shared) (H : Hp) (vs : List V) (Q : VK) (E : XK), Room k (A.deeper (envOfC qual (defScope st) s.heap.objs.size f cdv)) → sp vs H Q E →
      ∃ t, PSs (cxOf (CXR P w) P w K mg base N qual (defScope st) f cdv A outer s H E) (defBody st) t ∧ t { nx := fun _ H' => Q .non H', rt := Q } (start N vs) H) : FnOk P w K mg base (CXR P w) (k + 1) f fd ps sp := by
  obtain ⟨oc, od, kV, doc, pm, an, cdv, ct, osl, rfl, lk, hcd⟩ := F.ex
  exact fn_of lk hcd S len fun A outer s H vs Q E hr hsp => hbody cdv A outer s H vs Q E hr hsp
abbrev CxR (P : Program) (w : World) (K : PySem.W.Frag) (mg : Str → Option Value) (base : Heap) (N : List Str) (qual : Str) (st : Stmt) (f : Addr) (cdv : Value) (A : Around) (outer : List Env) (s : Shared) (H : Hp) (E : XK) : Cx :=
  cxOf (CXR P w) P w K mg base N qual (defScope st) f cdv A outer s H E
end
/-- a callee that can't raise, in any context -/
theorem FnOk.calm {P : Program} {w : World} {K : PySem.W.Frag} {mg : Str → Option Value} {base : Heap} {k : Nat} {f : Addr} {fd : FuncData} {ps : List Str} {sp : Sp} (F : FnOk P w K mg base CX0 k f fd ps sp) : FnOk P w K mg base (CXR P w) k f fd ps sp :=
  ⟨F.len, fun A outer s H args us vs Q E hr e0 hb r h => codeAny_mono (F.run A outer s H args us vs Q E hr e0 hb r h) fun r s' q => by
    cases r with
    | error e => exact (show False from q).elim
    | ok fl =>
      cases fl with
      | ret u => exact q
      | next => exact q
      | brk => exact q
      | cont => exact q⟩
end L2

set_option Elab.async false
set_option linter.all false
set_option maxRecDepth 100000
set_option maxHeartbeats 4000000
/-! A caught error by its name: its class is asked. -/
namespace L2
open PySem PySem.Spec PyProof.Rows
section
variable {prog : Program} {w : World} {A : Around} {E : Value → Shared → Prop} {h : Heap} {g : Array GenState} {d : Drawn} {t : Nat} {os : OsState} {a C : Addr} {o : Obj} {K : PySem.W.Frag}
/-- an own error class's looks -/
structure ExcLk (K : PySem.W.Frag) (C : Addr) : Prop where
  ga : PySem.W.findIn K (.ref C) "__getattribute__" = some (some (.builtin "BaseException.__getattribute__"))
  gr : PySem.W.findIn K (.ref C) "__getattr__" = some none
  cl : PySem.W.findIn K (.ref C) "__class__" = some (some (.builtin "object.__class__"))
  sb : PySem.W.subIn K (.ref C) (.type "BaseException") = some true
  so : PySem.W.subIn K (.ref C) (.type "object") = some true
  cs : (PySem.W.clsIn K C).isSome = true
theorem xcls_get {R : Result → Shared → Prop} (L : ExcLk K C) (X : K.In h) (hx : h.get? a = some o) (hc : o.cls = .ref C) (hq : R (.ok (.ret (.ref C))) ⟨h, g, d, t, os⟩) :
    codeAny (model prog w) A (.call (.builtin "getset_descriptor.__get__") ⟨[.builtin "object.__class__", .ref a, .ref C], []⟩) R ⟨h, g, d, t, os⟩ := by
  have hT5 : (⟨h, g, d, t, os⟩ : Shared).TypeIs (.builtin "object.__class__") "getset_descriptor" := F.typeOf_object_class
  have f8 : PySem.W.subIn K (.ref C) (.type (".".intercalate ("object.__class__".cutAt '.').dropLast)) = some true := by rw [F.owner_object_class]; exact L.so
  refine codeAny_call_builtin F.slot_gs_get.plain F.entry_gs_get (F.slot_gs_get.check _ _ _ _ _ _ _ _ hT5 (F.args_gs_get _ _ _) ?_)
  repeat (any_goals (first | assumption | (with_reducible refine wpAny_loadPart_at hx ?_; rw [hc]) | (with_reducible refine (PySem.W.looks_subIn X f8).at ?_) | wp_step))
  refine ⟨Code.quiet_builtin _ (by decide +kernel), codeAny_builtin F.entry_object_class ?_⟩
  repeat (any_goals (first | assumption | (with_reducible refine wpAny_loadPart_at hx ?_; rw [hc]) | wp_step))
theorem xcls_entry {tk : Tok} {Q : Fin → Shared → Prop} (L : ExcLk K C) (X : K.In h) (hx : h.get? a = some o) (hc : o.cls = .ref C) (hq : Q (.done (.ret (.ref C))) ⟨h, g, d, t, os⟩) :
    wpAny (model prog w) A (Builtin.«object.__getattribute__» ⟨[.ref a, .str "__class__" tk], []⟩) Q E ⟨h, g, d, t, os⟩ := by
  have hT5 : (⟨h, g, d, t, os⟩ : Shared).TypeIs (.builtin "object.__class__") "getset_descriptor" := F.typeOf_object_class
  have f5 := F.typeOf_object_class
  have f6 := F.slot_gs_get.lookup
  have f7 := F.slot_gs_set.lookup
  repeat (any_goals (first | assumption | (with_reducible refine wpAny_loadPart_at hx ?_; rw [hc]) | (with_reducible refine (PySem.W.looks_findIn X L.cl).at ?_) | wp_step))
  refine xcls_get L X hx hc ?_
  repeat (any_goals (first | assumption | wp_step))
theorem xcls_check {M : Model} {nameV : Value} {Q : Unit → Shared → Prop} (L : ExcLk K C) (X : K.In h) (hx : h.get? a = some o) (hc : o.cls = .ref C) (hq : Q () ⟨h, g, d, t, os⟩) : wpAny M A (checkBuiltinCall "BaseException.__getattribute__" ⟨[.ref a, nameV], []⟩) Q E ⟨h, g, d, t, os⟩ := by
  have hk : builtinKind "BaseException.__getattribute__" = some .slot := by decide +kernel
  have hsplit : splitId "BaseException.__getattribute__" = some ("BaseException", "__getattribute__") := by decide +kernel
  have ha := F.args_bexc_ga (.ref a) nameV
  simp only [checkBuiltinCall, hk, hsplit]
  refine wpAny_bind ?_
  · unfold isInstance
    repeat (first | (with_reducible refine wpAny_loadPart_at hx ?_; rw [hc]) | (with_reducible refine (PySem.W.looks_subIn X L.sb).at ?_) | wp_step)
    exact hq
theorem xcls_call {tk : Tok} {R : Result → Shared → Prop} (L : ExcLk K C) (X : K.In h) (hx : h.get? a = some o) (hc : o.cls = .ref C) (hq : R (.ok (.ret (.ref C))) ⟨h, g, d, t, os⟩) :
    codeAny (model prog w) A (.call (.builtin "BaseException.__getattribute__") ⟨[.ref a, .str "__class__" tk], []⟩) R ⟨h, g, d, t, os⟩ :=
  codeAny_call_builtin F.excAttr_ValueError.ga.plain F.entry_bexc_ga (xcls_check L X hx hc (xcls_entry L X hx hc hq))
theorem xcls_by {tk : Tok} {Q : Value → Shared → Prop} (L : ExcLk K C) (X : K.In h) (hx : h.get? a = some o) (hc : o.cls = .ref C) (hq : Q (.ref C) ⟨h, g, d, t, os⟩) :
    wpAny (model prog w) A (getAttrBy (.ref a) (.str "__class__" tk) false) Q E ⟨h, g, d, t, os⟩ := by
  have f3 := F.excAttr_ValueError.ga.bind (.ref a)
  have hx2 : (Value.builtin "BaseException.__getattribute__" == Value.builtin "object.__getattribute__") = false := by decide +kernel
  have hx1 : (onTheHeap (Value.ref C) && Value.builtin "BaseException.__getattribute__" == Value.builtin "object.__getattribute__") = false := by rw [hx2]; rfl
  repeat (any_goals (first | assumption | (with_reducible refine wpAny_loadPart_at hx ?_; rw [hc]) | (with_reducible refine (PySem.W.looks_findIn X L.ga).at ?_) | (with_reducible refine (PySem.W.looks_findIn X L.gr).at ?_) | wp_step))
  refine xcls_call L X hx hc ?_
  repeat (any_goals (first | assumption | wp_step))
theorem xcls_attr {Q : Option Value → Shared → Prop} (L : ExcLk K C) (X : K.In h) (hx : h.get? a = some o) (hc : o.cls = .ref C) (hq : Q (some (.ref C)) ⟨h, g, d, t + 1, os⟩) :
    wpAny (model prog w) A (getAttr? (.ref a) "__class__") Q E ⟨h, g, d, t, os⟩ := by
  unfold getAttr? getAttrBy?
  repeat (any_goals (first | assumption | with_reducible apply xcls_by L X hx hc | wp_step))
end

theorem kitx_exc {K : PySem.W.Frag} {a C : Addr} (L : ExcLk K C) : PySem.W.KitX K (.ref a) (.ref C) (fun h => ∃ o, h.get? a = some o ∧ o.cls = .ref C) where
  ty := fun M h _ ⟨o, h1, h2⟩ => h2 ▸ (PySem.W.Looks.ld h1).andThen .now
  it := fun _ _ X _ => by
    have hcD := L.cs
    unfold PySem.W.clsIn at hcD
    split at hcD
    · rename_i c' d' cd' sl' ho
      intro A' Q' E' s' k q
      unfold isType loadHead
      exact wpAny_bind (wpAny_loadPart (k _ _ (X _ _ ho)) (wpAny_pure q))
    · cases hcD
  ne := fun h tp dd its n sl X htp => by
    have hcD := L.cs
    refine Bool.eq_false_iff.mpr fun q => ?_
    have e : C = tp := Value.ref.inj (beq_iff_eq.mp q)
    subst e
    unfold PySem.W.clsIn at hcD
    split at hcD
    · rename_i c' d' cd' sl' ho
      have z := (X _ _ ho).symm.trans htp
      cases z
    · cases hcD
  ca := fun {_ _ _ _ _ s} X ⟨o, h1, h2⟩ k => by
    obtain ⟨h, g, d, t, os⟩ := s
    exact xcls_attr L X h1 h2 k
/-- isinstance(e, T), e a caught error that is pinned -/
theorem call_isx {X : Cx} {K : PySem.W.Frag} {a C : Addr} {oe : Obj} (L : ExcLk K C) (hp : (a, oe) ∈ X.pn) (hc : oe.cls = .ref C) (hK : X.K = K := by rfl) :
    CallR X (.builtin "isinstance") (fun xs H Q => ∃ (v : V) (c : Value) (b : Bool), xs = [.ref a, v] ∧ (∀ u, RelV v u → u = c) ∧ PySem.W.kitOne K (.ref C) c = some b ∧ Q (.bl b) H) := by
  subst hK
  intro pins s σ H xs us Q I r h
  obtain ⟨v, c, b, rfl, hv, hk, q⟩ := h
  obtain ⟨u, u2, rfl, ru, rv⟩ := Vals.two r
  cases ru
  cases hv u2 rv
  have p := I.pin _ (List.mem_append_left _ hp)
  exact PySem.W.kia_one (kitx_exc L) I.kIn ⟨oe, p.1, hc⟩ hk (fun z => nomatch z) fun tk => ⟨.bl b, H, I.tok _, rfl, q⟩
/-! ### except C as e -/
abbrev Cx.heldAs (X : Cx) (a : Addr) (oe : Obj) : Cx := { X with A := X.A.mark (some (.ref a)), calm := false, pn := X.pn ++ [(a, oe)], xe := fun _ _ => False }
theorem mem_held {X : Cx} {a : Addr} {oe : Obj} : (a, oe) ∈ (Cx.heldAs X a oe).pn := List.mem_append_right _ (List.mem_singleton.mpr rfl)
theorem ObjOk.got {P : Program} {w : World} {H : Hp} {h : Heap} {a : Addr} {o : HO} (x : ObjOk P w H h a o) : ∃ ob, h.get? a = some ob := by
  cases o with
  | lst xs => obtain ⟨_, _, _, _, e⟩ := x; exact ⟨_, e⟩
  | tup xs => obtain ⟨_, _, _, ob, e, _⟩ := x; exact ⟨_, e⟩
  | dK kvs => obtain ⟨_, _, _, _, o, _, _, e, _⟩ := x; exact ⟨_, e⟩
  | dT kvs => obtain ⟨_, _, _, _, o, _, _, e, _⟩ := x; exact ⟨_, e⟩
  | set S n => obtain ⟨o, _, _, _, e, _⟩ := x; exact ⟨_, e⟩
  | ins C dx fs => obtain ⟨_, _, _, e, _⟩ := x; exact ⟨_, e⟩
  | own y => exact x
  | xd fs => obtain ⟨_, ⟨_, _, _, e, _⟩, _⟩ := x; exact ⟨_, e⟩
  | rng lo hi => obtain ⟨_, _, _, e⟩ := x; exact ⟨_, e⟩
  | frz ob u => obtain ⟨e, _⟩ := x; exact ⟨_, e⟩
  | tbl ps => exact ⟨_, (show h.get? a = some _ from x)⟩
  | met f y => exact ⟨_, (show h.get? a = some _ from x)⟩
  | ext φ => obtain ⟨_, e, _⟩ := x; exact e
section
variable {X : Cx} {pins : List (Addr × Obj)} {σ : St} {H : Hp} {s : Shared} {a : Addr} {oe : Obj}
theorem Inv.toHeldAs (I : Inv X pins σ H s) (h1 : s.heap.get? a = some oe) (h2 : H a = none) (h3 : a ≠ X.env.locals) (h4 : a ∉ X.fs) (h5 : ∀ v, oe.data ≠ .cell v) : Inv (X.heldAs a oe) pins σ H s := by
  have ok := I.ok
  refine ⟨⟨ok.mod, ok.kind, ok.glob, ok.blt, ok.above, ok.inj, ok.has, ok.cab, fun z => (by cases z), ok.frames, ok.stk, ok.exf, ok.bs, ok.bsz, ok.noex, ok.exfs, ok.funs, ok.frf⟩, I.os, I.bare, I.base, I.loc, I.cell, I.free, I.freeC, fun p hp => ?_, I.hok, I.len⟩
  rcases List.mem_append.mp hp with z | z
  · rcases List.mem_append.mp z with z | z
    · exact I.pin p (List.mem_append_left _ z)
    · have e : p = (a, oe) := by simpa using z
      rw [e]
      exact ⟨h1, h2, h3, h4, h5⟩
  · exact I.pin p (List.mem_append_right _ z)
theorem Inv.ofHeldAs (ok : X.Ok) (I : Inv (X.heldAs a oe) pins σ H s) : Inv X pins σ H s :=
  ⟨ok, I.os, I.bare, I.base, I.loc, I.cell, I.free, I.freeC, fun p hp => I.pin p (by
    rcases List.mem_append.mp hp with z | z
    · exact List.mem_append_left _ (List.mem_append_left _ z)
    · exact List.mem_append_right _ z), I.hok, I.len⟩
/-- a name goes -/
theorem gone_ok {M : Model} {A : Around} {E : Value → Shared → Prop} {i : Nat} {x : Str} {pos : Pos} {Q : Unit → Shared → Prop} (I : Inv X pins σ H s) (hN : X.N.Nodup) (hi : X.N[i]? = some x) (hk : X.env.kindOf x = some .local)
    (h : ∀ s', Inv X pins (σ.set i none) H s' → Q () s') : wpAny M A (do bindName X.env x .none; unbindBehindTheSuite X.env x pos) Q E s := by
  obtain ⟨m, hn, hl⟩ := id I.loc
  have hcls : (X.env.scope.kind == .class || (X.env.scope.kind == .module && X.env.locals != X.env.globals)) = false := by rw [I.ok.kind]; rfl
  have hiσ : i < σ.length := by rw [I.len]; exact (List.getElem?_eq_some_iff.mp hi).1
  have cne := I.cne
  obtain ⟨oL, _, _, hoL, _⟩ := id hn
  refine wpAny_nameGoes_keeps hk hn hcls fun h' v hn' hs => ?_
  have tracked : HOk X.prog X.w H h' := fun b ob e => by
    have hfree := I.free
    refine (I.hok b ob e).stay (fun c w' hc q => (hs.2 c ?_).trans q) (fun _ q => q) fun _ _ q => q
    rintro rfl
    rcases hc with rfl | hc
    · rw [hfree] at e; cases e
    · rw [hfree] at hc; cases hc
  refine h _ ⟨I.ok, I.os, I.bare, ⟨fun b o e n hb hx => ?_, fun b o e n hb hx => ?_, I.base.free, fun b o e hx => ?_, I.base.tups, I.base.frzs, I.base.tbls⟩, ⟨_, hn', fun j y v' e1 e2 e3 => ?_⟩, fun y c e => ?_, I.free, I.freeC, fun p hp => ?_, tracked, by simpa using I.len⟩
  · exact (hs.2 b (Nat.ne_of_lt (Nat.lt_of_lt_of_le (Heap.lt_size e) I.ok.above))).trans (I.base.keep b o e n hb hx)
  · obtain ⟨sl, e1⟩ := I.base.slot b o e n hb hx
    exact ⟨sl, (hs.2 b (Nat.ne_of_lt (Nat.lt_of_lt_of_le (Heap.lt_size e) I.ok.above))).trans e1⟩
  · obtain ⟨o', e1⟩ := I.base.there b o e hx
    exact ⟨o', (hs.2 b (Nat.ne_of_lt (Nat.lt_of_lt_of_le (Heap.lt_size e) I.ok.above))).trans e1⟩
  · by_cases hj : j = i
    · subst hj
      rw [List.getElem?_set_self hiσ] at e2
      cases e2
    · rw [List.getElem?_set_ne (Ne.symm hj)] at e2
      obtain ⟨u', r', q⟩ := hl j y v' e1 e2 e3
      refine ⟨u', r', ?_⟩
      rcases q with ⟨k, e⟩ | ⟨k, c, e, z⟩
      · refine .inl ⟨k, ?_⟩
        have : y ≠ x := fun e => hj (nodup_ix hN e1 (e ▸ hi))
        simp [this, e]
      · exact .inr ⟨k, c, e, z.sameBut hs (cne y c e)⟩
  · obtain ⟨w', z⟩ := I.cell y c e
    exact ⟨w', z.sameBut hs (cne y c e)⟩
  · obtain ⟨e, n, ne, nf, d⟩ := I.pin p hp
    exact ⟨(hs.2 p.1 ne).trans e, n, ne, nf, d⟩
end
/-- what is wanted behind a suite whose name goes -/
abbrev Ends.gone (D : Ends) (i : Nat) : Ends := { nx := fun σ H => D.nx (σ.set i none) H, rt := D.rt, bk := fun σ H => D.bk (σ.set i none) H, ct := fun σ H => D.ct (σ.set i none) H }
/-- try: .. except Cb as x: .. -/
def tTryAs (i : Nat) (t : (St → XK) → TS) (u : Addr → TS) (C : Addr) : TS := fun D σ H => ∃ R : St → XK, t R D σ H ∧ ∀ σ' H' cls d, R σ' cls d H' → cls = .ref C ∧ ∀ a, H' a = none → u a (D.gone i) (σ'.set i (some (.ref a))) H'
theorem ps_tryAs {X : Cx} {body suite : List Stmt} {b₀ : Stmt} {x n : Str} {i : Nat} {np hpos pos : Pos} {t : (St → XK) → TS} {u : Addr → TS} {C Cb : Addr} {nId nId' : String} (hst : X.stack = X.env :: X.outer) (hf : X.env.frame = some X.env.locals)
    (hN : X.N.Nodup) (hi : X.N[i]? = some n) (hl : X.env.kindOf n = some .local)
    (hb : ∀ pins0 R, PSs (X.tryCx pins0 R) body (t R)) (hs : ∀ a oe, oe.cls = .ref C → PSs (X.heldAs a oe) (b₀ :: suite) (u a)) (hg : Gl X x) (hm : X.mg x = some (.ref Cb)) (hk : PySem.W.excIn X.K C bmV nId = true) (hkb : PySem.W.excIn X.K Cb bmV nId' = true) (hbel : below X.K C Cb = true)
    (hd : (x == ("__debug__" : Str)) = false := by decide) : PS X (.Try body [.ExceptHandler (some (.Name x np)) (some n) (b₀ :: suite) hpos] [] [] pos) (tTryAs i t u C) := by
  intro pins s σ H D I h
  obtain ⟨R, ht, hR⟩ := h
  refine wpAny_Try_except (wpAny_mono (hb pins R [] s σ H D (I.toTry R) ht) (fun f s1 q => ?_) fun e s1 q => ?_)
  · have q' := SP.ofTry q
    cases f with
    | next => exact wpAny_execs_nil q'
    | brk => exact q'
    | cont => exact q'
    | ret v => exact q'
  · obtain ⟨σ1, H1, s0, I0, a, cls, B, H', rfl, hE, ho, hbr, r⟩ := q
    obtain ⟨rfl, hu⟩ := hR σ1 H' cls none hE
    obtain ⟨t0, fl⟩ := r.fly
    rw [hst] at fl
    have fr : X.A.frames = some (X.env :: X.outer) := by rw [← hst]; exact I.ok.frames
    refine wpAny_looks_onW fr hf fl fun h4 held up4 => ?_
    refine wpAny_landsW held fun h5 fl5 up5 => ?_
    have r5 : Rz X.prog X.w X.stack H1 H' s0.heap a (.ref C) B h5 := r.on (fun _ z => z) ⟨t0, by rw [hst]; exact fl5⟩ (up4.trans up5) fun _ _ _ z => z
    have I5 : Inv X pins σ1 H' { s1 with heap := h5 } := r5.back (s2 := { s1 with heap := h5 }) I0 ho hbr
    refine wpAny_handleBy_cons (codeAny_handlers_test (ld_glob (X := X.held a) (I5.toHeld a) hg hm ?_ hd)) (by intro q; cases q)
    obtain ⟨bm, N, nm, qn, bs, hdct, sn, sub, ab, col, dd, k0, k1, k2, k3, k5, mN, hC, hNs, hni, TL⟩ := exc_of_in I5.kIn hk
    obtain ⟨bm', N', nm', qn', bs', hdct', sn', sub', ab', col', dd', j0, j1, j2, j3, j5, mN', hC', hN', hni', TL'⟩ := exc_of_in I5.kIn hkb
    obtain ⟨ob, hob, hobc⟩ := fl5.there
    have hin : (Value.ref C :: bm).contains (.ref Cb) = true := by
      unfold below at hbel
      split at hbel
      · rename_i hl
        have z := I5.kIn _ _ hl
        rw [hC] at z
        cases z
        exact hbel
      · cases hbel
    refine excMatches_own (g := s1.gens) (d := s1.drawn) (t := s1.toks) (os := s1.os) hC hC' hob hobc (TL'.hasType (by decide)) hin (codeAny_handlers_suite_as ?_)
    refine lands_againW fl5 fun h6 fl6 up6 => ?_
    have r6 : Rz X.prog X.w X.stack H1 H' s0.heap a (.ref C) B h6 := r5.on (fun _ z => z) ⟨t0, by rw [hst]; exact fl6⟩ up6 fun _ _ _ z => z
    have I6 : Inv X pins σ1 H' { s1 with heap := h6 } := r6.back (s2 := { s1 with heap := h6 }) I0 ho hbr
    obtain ⟨oe, vs, T, oT, ts, he, ⟨hcls, _⟩, hdt, _⟩ := id fl6.2.2.2
    have ha : H' a = none := by
      cases q : H' a with
      | none => rfl
      | some o =>
        obtain ⟨ob, z⟩ := (r6.hok a o q).got
        rw [fl6.2.1] at z
        cases z
    have nf : a ∉ frs (X.env :: X.outer) := fun z => by
      obtain ⟨_, o', ho', hd'⟩ := fl6.2.2.1.mem z
      rw [he] at ho'
      cases ho'
      exact hd' vs hdt
    have hfr : frs (X.env :: X.outer) = X.env.locals :: frs X.outer := by unfold frs; rw [List.filterMap_cons, hf]
    rw [hfr] at nf
    have nf' : a ≠ X.env.locals ∧ a ∉ frs X.outer := ⟨fun e => nf (by rw [e]; exact List.mem_cons_self ..), fun e => nf (List.mem_cons_of_mem _ e)⟩
    have I7 : Inv (X.heldAs a oe) pins σ1 H' { s1 with heap := h6 } := I6.toHeldAs he ha nf'.1 nf'.2 fun v z => by rw [hdt] at z; cases z
    refine store_ok (X := X.heldAs a oe) I7 hN hi (.inl hl) (v := .ref a) rfl (fun s' I8 => ?_) (.inr hl)
    refine wpAny_mono (hs a oe hcls pins _ _ H' (D.gone i) I8 (hu a ha)) (fun f s2 q => ?_) fun _ _ z => z.elim
    cases f with
    | next => obtain ⟨σ', H2, I9, q⟩ := q; exact gone_ok (I9.ofHeldAs I.ok) hN hi hl fun s3 I10 => ⟨_, H2, I10, q⟩
    | brk => obtain ⟨σ', H2, I9, q⟩ := q; exact gone_ok (I9.ofHeldAs I.ok) hN hi hl fun s3 I10 => ⟨_, H2, I10, q⟩
    | cont => obtain ⟨σ', H2, I9, q⟩ := q; exact gone_ok (I9.ofHeldAs I.ok) hN hi hl fun s3 I10 => ⟨_, H2, I10, q⟩
    | ret v => obtain ⟨v', σ', H2, I9, rv, q⟩ := q; exact gone_ok (I9.ofHeldAs I.ok) hN hi hl fun s3 I10 => ⟨v', _, H2, I10, rv, q⟩
end L2

/-! Leaves and depth of what the steps build. -/
namespace NN
def lvR : List (List T) → List T
  | [] => []
  | r :: rest => lvR rest ++ T.leavess r
def dR : List (List T) → Nat
  | [] => 0
  | r :: rest => max (dR rest) (rest.length + T.depths r)
def outR : List (List T) → Nat
  | [] => 0
  | [r] => r.length
  | r :: s :: rest => match rest with
    | [] => s.length + 1
    | _ => outR (s :: rest)
/-- the words and numbers of the steps -/
def val1 (a : List T × Nat) (c : Int) : List T × Nat :=
  if c % 5 = 0 then (a.1, a.2 + 1) else if c % 5 = 1 ∧ 0 < a.2 then (a.1, a.2 - 1)
  else if c % 5 < 3 then (a.1 ++ [.str (wordOf c)], a.2) else (a.1 ++ [.int (numberOf c)], a.2)
def deep1 (a : Nat × Nat × Nat) (c : Int) : Nat × Nat × Nat :=
  let d := if c % 5 = 0 then a.1 + 1 else if c % 5 = 1 ∧ 0 < a.1 then a.1 - 1 else a.1
  (d, max a.2.1 d, a.2.2 + if a.1 = 0 then 1 else 0)
def valuesT (cs : List Int) : List T := (cs.foldl val1 ([], 0)).1
def deepestN (cs : List Int) : Nat := let a := cs.foldl deep1 (0, 0, 0); a.2.1 + if a.2.2 = 1 then 0 else 1
mutual
theorem leaves_size : ∀ t : T, T.sizes t.leaves ≤ t.size
  | .int i => by simp [T.leaves, T.sizes, T.size]
  | .str cs => by simp [T.leaves, T.sizes, T.size]
  | .lst ts => by have := leavess_size ts; simp only [T.leaves, T.size]; omega
theorem leavess_size : ∀ ts : List T, T.sizes (T.leavess ts) ≤ T.sizes ts
  | [] => by simp [T.leavess, T.sizes]
  | t :: r => by have a := leaves_size t; have b := leavess_size r; simp only [T.leavess, T.sizes, T.sizes_app]; omega
end
end NN

/-! Parts of things, as plain data. -/
namespace NN
def partT : T → Int → Option T
  | .lst ts, i => if 0 ≤ i ∧ i < (ts.length : Int) then ts[i.toNat]? else none
  | _, _ => none
def pathT : T → List Int → Option T
  | t, [] => some t
  | t, i :: r => (partT t i).bind fun u => pathT u r
/-- the thing with u in the place that the path leads to -/
def withT : T → List Int → T → Option T
  | _, [], u => some u
  | .lst ts, i :: r, u => if 0 ≤ i ∧ i < (ts.length : Int) then (ts[i.toNat]?.bind fun x => withT x r u).map fun y => .lst (ts.set i.toNat y) else none
  | _, _ :: _, _ => none
theorem partT_lst {ts : List T} {i : Int} (h0 : 0 ≤ i) (h1 : i < (ts.length : Int)) : partT (.lst ts) i = ts[i.toNat]? := by
  show (if 0 ≤ i ∧ i < (ts.length : Int) then ts[i.toNat]? else none) = _
  rw [if_pos ⟨h0, h1⟩]
/-- a step of the walk into a thing -/
def walk1 (a : T × List Int) (c : Int) : T × List Int := match a.1 with
  | .lst (t :: ts) => (((t :: ts)[(c / 3 % ((t :: ts).length : Int)).toNat]?).getD (.int 0), a.2 ++ [c / 3 % ((t :: ts).length : Int)])
  | _ => a
def walkT (t : T) (cs : List Int) : T × List Int := cs.foldl walk1 (t, [])
/-- what is put behind the path -/
def overN (s0 : Int) : Int := if s0 / 5 % 3 = 0 then 0 else if s0 / 5 % 3 = 1 then 1 else ((anyNum s0).natAbs : Int)
def endT (u : T) (over : Int) : Int := match u with
  | .lst ts => (ts.length : Int) + over
  | _ => over
def offA (s0 : Int) (u : T) : List Int := if s0 % 5 = 1 then [-1 - overN s0] else if s0 % 5 = 2 then [endT u (overN s0)] else []
def offB (s0 : Int) : List Int := if (s0 % 5 = 1 ∨ s0 % 5 = 2) ∧ s0 / 15 % 2 = 1 then [0] else []
end NN

/-! Which lines are lines of things, and where the first fault is. -/
namespace NN
mutual
def T.wf : T → Prop
  | .int _ => True
  | .str cs => isWord cs = true
  | .lst ts => T.wfs ts
def T.wfs : List T → Prop
  | [] => True
  | t :: r => t.wf ∧ T.wfs r
end
theorem T.wfs_app : ∀ {a b : List T}, T.wfs (a ++ b) ↔ T.wfs a ∧ T.wfs b
  | [], b => by simp [T.wfs]
  | t :: r, b => by rw [List.cons_append, T.wfs, T.wfs, T.wfs_app]; exact and_assoc.symm
mutual
theorem T.fine_wf : ∀ t : T, t.fine → t.wf
  | .int _, _ => by rw [T.wf]; trivial
  | .str cs, h => by rw [T.wf]; exact h.1
  | .lst ts, h => by rw [T.wf]; exact T.fines_wf ts h
theorem T.fines_wf : ∀ ts : List T, T.fines ts → T.wfs ts
  | [], _ => by rw [T.wfs]; trivial
  | t :: r, h => by rw [T.wfs]; exact ⟨T.fine_wf t h.1, T.fines_wf r h.2⟩
end
/-- may c stand behind ahead -/
def stand (ahead : List Nat) (c : Nat) (deep : Int) : Bool :=
  if ahead.getLast? = none ∨ ahead.getLast? = some 32 ∨ ahead.getLast? = some 91 then
    (decide (c = 91) || decide (c = 45) || letter c || fig c) || (decide (ahead.getLast? = some 91) && decide (c = 93))
  else if ahead.getLast? = some 45 then decide (49 ≤ c) && decide (c ≤ 57)
  else if c = 32 ∨ c = 93 then decide (0 < deep)
  else if ahead.getLast?.any letter then letter c
  else if ahead.getLast? = some 48 ∧ ¬ ahead.dropLast.getLast?.any fig = true then false
  else ahead.getLast?.any fig && fig c
def deepBy (deep : Int) (c : Nat) : Int := deep + (if c = 91 then 1 else 0) - (if c = 93 then 1 else 0)
def dueFrom (ahead : List Nat) (deep : Int) : List Nat → Option Nat
  | [] => if 0 < deep ∨ ahead = [] ∨ ahead.getLast? = some 45 then some ahead.length else none
  | c :: r => if stand ahead c deep then dueFrom (ahead ++ [c]) (deepBy deep c) r else some ahead.length
def due (L : List Nat) : Option Nat := dueFrom [] 0 L
/-- the text ahead of an item that is to come; rows: the open lists' items, the innermost first -/
def items : List T → List Nat
  | [] => []
  | t :: r => t.line ++ 32 :: items r
def beg : List (List T) → List Nat
  | [] => []
  | r :: rest => beg rest ++ 91 :: items r
theorem items_app : ∀ a b : List T, items (a ++ b) = items a ++ items b
  | [], b => rfl
  | t :: r, b => by rw [List.cons_append, items, items, items_app r b]; simp
theorem beg_open (rows : List (List T)) : beg ([] :: rows) = beg rows ++ [91] := rfl
theorem beg_next (r : List T) (t : T) (rest : List (List T)) : beg ((r ++ [t]) :: rest) = beg (r :: rest) ++ t.line ++ [32] := by
  rw [beg, beg, items_app]
  simp [items]
theorem join_items : ∀ (r : List T) (t : T), T.join (r ++ [t]) = items r ++ t.line
  | [], t => by simp [T.join, items]
  | [u], t => by simp [T.join, items]
  | u :: v :: r, t => by
    have q := join_items (v :: r) t
    rw [List.cons_append] at q
    rw [List.cons_append, List.cons_append, T.join, q]
    simp [items]
theorem beg_shut (r : List T) (t : T) (rest : List (List T)) : beg rest ++ (T.lst (r ++ [t])).line = beg (r :: rest) ++ t.line ++ [93] := by
  rw [T.line, join_items, beg]
  simp
theorem beg_shut0 (rest : List (List T)) : beg rest ++ (T.lst []).line = beg ([] :: rest) ++ [93] := by
  rw [T.line, T.join, beg_open]
  simp
theorem last_beg : ∀ rows : List (List T), (beg rows).getLast? = none ∧ rows = [] ∨ (beg rows).getLast? = some 91 ∧ (∃ rest, rows = [] :: rest) ∨ (beg rows).getLast? = some 32 ∧ (∃ r t rest, rows = (r ++ [t]) :: rest)
  | [] => .inl ⟨rfl, rfl⟩
  | r :: rest => by
    rcases (show r = [] ∨ ∃ a x, r = a ++ [x] by
      cases h : r.reverse with
      | nil => left; rw [← List.reverse_reverse r, h]; rfl
      | cons x q => right; exact ⟨q.reverse, x, by rw [← List.reverse_reverse r, h, List.reverse_cons]⟩) with e | ⟨a, x, e⟩
    · subst e
      exact .inr (.inl ⟨by rw [beg_open, List.getLast?_append]; rfl, rest, rfl⟩)
    · subst e
      exact .inr (.inr ⟨by rw [beg_next, List.getLast?_append]; rfl, a, x, rest, rfl⟩)
/-- the last sign of a line, and the one ahead of it -/
theorem figs_snoc (n : Nat) : ∃ A d, figs n = A ++ [d + 48] ∧ d < 10 ∧ (n < 10 → A = [] ∧ d = n) ∧ (10 ≤ n → A = figs (n / 10)) := by
  by_cases h : n < 10
  · exact ⟨[], n, by rw [figs_one h]; rfl, h, fun _ => ⟨rfl, rfl⟩, fun z => by omega⟩
  · have e : n = 10 * (n / 10) + n % 10 := by omega
    refine ⟨figs (n / 10), n % 10, ?_, by omega, fun z => by omega, fun _ => rfl⟩
    have q := figs_more (m := n / 10) (d := n % 10) (by omega) (by omega)
    rw [← e] at q
    exact q
theorem figs_last (n : Nat) : ∃ c, (figs n).getLast? = some c ∧ fig c = true := by
  obtain ⟨A, d, e, hd, _⟩ := figs_snoc n
  exact ⟨d + 48, by rw [e, List.getLast?_append]; rfl, by rw [fig_iff]; omega⟩
theorem line_snoc (i : Int) : ∃ A d, line i = A ++ [d + 48] ∧ d < 10 := by
  obtain ⟨A, d, e, hd, _⟩ := figs_snoc i.natAbs
  unfold line
  split
  · exact ⟨45 :: A, d, by rw [e]; rfl, hd⟩
  · exact ⟨A, d, e, hd⟩
/-- the sign ahead of a last nought -/
theorem line_before (X : List Nat) (hX : ¬ X.getLast?.any fig = true) (i : Int) : ((X ++ line i).getLast? = some 48 ∧ ¬ (X ++ line i).dropLast.getLast?.any fig = true) ↔ i = 0 := by
  obtain ⟨A, d, e, hd, h1, h2⟩ := figs_snoc i.natAbs
  have key : ∀ Y : List Nat, ¬ Y.getLast?.any fig = true → (((Y ++ figs i.natAbs).getLast? = some 48 ∧ ¬ (Y ++ figs i.natAbs).dropLast.getLast?.any fig = true) ↔ i.natAbs = 0) := by
    intro Y hY
    rw [e, ← List.append_assoc, List.dropLast_concat, List.getLast?_append]
    by_cases h : i.natAbs < 10
    · obtain ⟨rfl, rfl⟩ := h1 h
      rw [List.append_nil]
      constructor
      · intro ⟨z, _⟩
        have z' : some (i.natAbs + 48) = some 48 := z
        have := Option.some.inj z'
        omega
      · intro z
        refine ⟨?_, hY⟩
        rw [z]; rfl
    · have hA := h2 (by omega)
      obtain ⟨c, hc, hf⟩ := figs_last (i.natAbs / 10)
      constructor
      · intro ⟨_, z⟩
        exfalso
        apply z
        rw [hA, List.getLast?_append, hc]
        exact hf
      · intro z; omega
  unfold line
  split
  · rename_i hneg
    have e2 : X ++ 45 :: figs i.natAbs = (X ++ [45]) ++ figs i.natAbs := by simp
    rw [e2, key (X ++ [45]) (by simp [fig])]
    omega
  · rw [key X hX]
    omega
/-- a figure more -/
def more (i : Int) (c : Nat) : Int := if i < 0 then 10 * i - ((c - 48 : Nat) : Int) else 10 * i + ((c - 48 : Nat) : Int)
theorem line_more {i : Int} (h0 : i ≠ 0) {c : Nat} (hc : fig c = true) : line (more i c) = line i ++ [c] := by
  have hc' := fig_iff.mp hc
  have e : c - 48 + 48 = c := by omega
  unfold line more
  by_cases h : i < 0
  · rw [if_pos h, if_pos h, if_pos (by omega)]
    have q := figs_more (m := i.natAbs) (d := c - 48) (by omega) (by omega)
    have e2 : (10 * i - ((c - 48 : Nat) : Int)).natAbs = 10 * i.natAbs + (c - 48) := by omega
    rw [e2, q, e]
    rfl
  · rw [if_neg h, if_neg h, if_neg (by omega)]
    have q := figs_more (m := i.natAbs) (d := c - 48) (by omega) (by omega)
    have e2 : (10 * i + ((c - 48 : Nat) : Int)).natAbs = 10 * i.natAbs + (c - 48) := by omega
    rw [e2, q, e]
theorem line_one {c : Nat} (hc : fig c = true) : line ((c - 48 : Nat) : Int) = [c] := by
  have hc' := fig_iff.mp hc
  unfold line
  rw [if_neg (by omega)]
  have e2 : ((c - 48 : Nat) : Int).natAbs = c - 48 := by omega
  rw [e2, figs_one (by omega)]
  have e : c - 48 + 48 = c := by omega
  rw [e]
theorem line_minus {c : Nat} (h1 : 49 ≤ c) (h2 : c ≤ 57) : line (-((c - 48 : Nat) : Int)) = [45, c] := by
  unfold line
  rw [if_pos (by omega)]
  have e2 : (-((c - 48 : Nat) : Int)).natAbs = c - 48 := by omega
  rw [e2, figs_one (by omega)]
  have e : c - 48 + 48 = c := by omega
  rw [e]
/-! ### the shapes of what has been read -/
inductive Shp : List Nat → Int → Prop
  | exp (rows : List (List T)) (h : ∀ r ∈ rows, T.wfs r) : Shp (beg rows) rows.length
  | min (rows : List (List T)) (h : ∀ r ∈ rows, T.wfs r) : Shp (beg rows ++ [45]) rows.length
  | aft (rows : List (List T)) (h : ∀ r ∈ rows, T.wfs r) (t : T) (ht : t.wf) : Shp (beg rows ++ t.line) rows.length
theorem last_no (rows : List (List T)) : ¬ (beg rows).getLast?.any fig = true := by
  rcases last_beg rows with ⟨e, _⟩ | ⟨e, _⟩ | ⟨e, _⟩ <;> rw [e] <;> decide
theorem last_exp (rows : List (List T)) : (beg rows).getLast? = none ∨ (beg rows).getLast? = some 32 ∨ (beg rows).getLast? = some 91 := by
  rcases last_beg rows with ⟨e, _⟩ | ⟨e, _⟩ | ⟨e, _⟩ <;> rw [e] <;> simp
theorem word_snoc {cs : List Nat} (h : isWord cs = true) : ∃ A c, cs = A ++ [c] ∧ letter c = true := by
  unfold isWord at h
  rw [Bool.and_eq_true, decide_eq_true_eq] at h
  cases e : cs.reverse with
  | nil => exact absurd (by rw [← List.reverse_reverse cs, e]; rfl) h.1
  | cons c A =>
    have e2 : cs = A.reverse ++ [c] := by rw [← List.reverse_reverse cs, e, List.reverse_cons]
    refine ⟨A.reverse, c, e2, ?_⟩
    have z := List.all_eq_true.mp h.2 c (by rw [e2]; simp)
    exact z
theorem word_more {cs : List Nat} (h : isWord cs = true) {c : Nat} (hc : letter c = true) : isWord (cs ++ [c]) = true := by
  unfold isWord at h ⊢
  rw [Bool.and_eq_true, decide_eq_true_eq] at h ⊢
  exact ⟨by simp, by rw [List.all_append, h.2, List.all_cons, hc]; rfl⟩
theorem letter_fig {c : Nat} (h : letter c = true) : fig c = false := by
  have := letter_iff.mp h
  cases e : fig c with
  | false => rfl
  | true => have := fig_iff.mp e; omega
/-- the kind of a line's last sign -/
theorem last_line (X : List Nat) (t : T) (ht : t.wf) : ∃ c, (X ++ t.line).getLast? = some c ∧ (match t with | .str _ => letter c = true | .int _ => fig c = true | .lst _ => c = 93) := by
  cases t with
  | int i =>
    obtain ⟨A, d, e, hd⟩ := line_snoc i
    refine ⟨d + 48, ?_, ?_⟩
    · rw [T.line, e, ← List.append_assoc, List.getLast?_concat]
    · show fig (d + 48) = true
      rw [fig_iff]; omega
  | str cs =>
    rw [T.wf] at ht
    obtain ⟨A, c, e, hc⟩ := word_snoc ht
    exact ⟨c, by rw [T.line, e, ← List.append_assoc, List.getLast?_concat], hc⟩
  | lst ts => exact ⟨93, by rw [T.line, ← List.cons_append, ← List.append_assoc, List.getLast?_concat], rfl⟩
theorem stand_exp (rows : List (List T)) (c : Nat) (deep : Int) : stand (beg rows) c deep = (decide (c = 91) || decide (c = 45) || letter c || fig c || (decide ((beg rows).getLast? = some 91) && decide (c = 93))) := by
  unfold stand
  rw [if_pos (last_exp rows)]
theorem stand_min (X : List Nat) (c : Nat) (deep : Int) : stand (X ++ [45]) c deep = (decide (49 ≤ c) && decide (c ≤ 57)) := by
  unfold stand
  rw [List.getLast?_concat, if_neg (by decide), if_pos rfl]
theorem stand_aft (rows : List (List T)) (t : T) (ht : t.wf) (c : Nat) (deep : Int) : stand (beg rows ++ t.line) c deep =
    (if c = 32 ∨ c = 93 then decide (0 < deep) else match t with | .str _ => letter c | .int i => if i = 0 then false else fig c | .lst _ => false) := by
  obtain ⟨l, hl, hk⟩ := last_line (beg rows) t ht
  unfold stand
  rw [hl]
  have n1 : ¬ (some l = none ∨ some l = some 32 ∨ some l = some 91) ∧ ¬ (some l = some 45) := by
    cases t with
    | int i => have := fig_iff.mp hk; simp; omega
    | str cs => have := letter_iff.mp hk; simp; omega
    | lst ts => have hk : l = 93 := hk; simp; omega
  rw [if_neg n1.1, if_neg n1.2]
  by_cases hc : c = 32 ∨ c = 93
  · rw [if_pos hc, if_pos hc]
  · rw [if_neg hc, if_neg hc]
    cases t with
    | int i =>
      have hk : fig l = true := hk
      have nl : ¬ (some l).any letter = true := by
        intro z
        have z : letter l = true := z
        rw [letter_fig z] at hk
        cases hk
      rw [if_neg nl]
      have b := line_before (beg rows) (last_no rows) i
      have e : (T.int i).line = line i := by rw [T.line]
      rw [e] at hl ⊢
      rw [hl] at b
      by_cases h0 : i = 0
      · rw [if_pos (b.mpr h0)]
        show false = if i = 0 then false else fig c
        rw [if_pos h0]
      · rw [if_neg (fun z => h0 (b.mp z))]
        show (fig l && fig c) = if i = 0 then false else fig c
        rw [if_neg h0, hk, Bool.true_and]
    | str cs =>
      have hk : letter l = true := hk
      rw [if_pos (show (some l).any letter = true from hk)]
    | lst ts =>
      have hk : l = 93 := hk
      subst hk
      rw [if_neg (by decide)]
      rw [if_neg (by simp)]
      rfl
theorem wfs_one {t : T} (h : t.wf) {r : List T} (hr : T.wfs r) : T.wfs (r ++ [t]) := T.wfs_app.mpr ⟨hr, by rw [T.wfs, T.wfs]; exact ⟨h, trivial⟩⟩
theorem letter_ne {c : Nat} (h : letter c = true) : c ≠ 91 ∧ c ≠ 93 := by have := letter_iff.mp h; omega
theorem fig_ne {c : Nat} (h : fig c = true) : c ≠ 91 ∧ c ≠ 93 := by have := fig_iff.mp h; omega
theorem deepBy_same {deep : Int} {c : Nat} (h1 : c ≠ 91) (h2 : c ≠ 93) : deepBy deep c = deep := by
  unfold deepBy; rw [if_neg h1, if_neg h2]; omega
/-- a step keeps the shape -/
theorem Shp.step {ahead : List Nat} {deep : Int} {c : Nat} (S : Shp ahead deep) (h : stand ahead c deep = true) : Shp (ahead ++ [c]) (deepBy deep c) := by
  cases S with
  | exp rows hw =>
    rw [stand_exp] at h
    by_cases c1 : c = 91
    · subst c1
      have q := Shp.exp ([] :: rows) (fun r hr => (List.mem_cons.mp hr).elim (fun e => by rw [e, T.wfs]; trivial) (hw r))
      rw [beg_open] at q
      have e : deepBy (rows.length : Int) 91 = ((([] : List T) :: rows).length : Int) := by unfold deepBy; simp
      rw [e]; exact q
    · by_cases c2 : c = 45
      · subst c2
        rw [deepBy_same (by decide) (by decide)]
        exact .min rows hw
      · by_cases c3 : letter c = true
        · rw [deepBy_same (letter_ne c3).1 (letter_ne c3).2]
          have q := Shp.aft rows hw (.str [c]) (by rw [T.wf]; unfold isWord; simp [c3])
          rw [T.line] at q
          exact q
        · by_cases c4 : fig c = true
          · rw [deepBy_same (fig_ne c4).1 (fig_ne c4).2]
            have q := Shp.aft rows hw (.int ((c - 48 : Nat) : Int)) (by rw [T.wf]; trivial)
            rw [T.line, line_one c4] at q
            exact q
          · have h' : (beg rows).getLast? = some 91 ∧ c = 93 := by
              simpa [c1, c2, c3, c4] using h
            obtain ⟨hl, rfl⟩ := h'
            rcases last_beg rows with ⟨e, _⟩ | ⟨_, rest, e⟩ | ⟨e, _⟩
            · rw [e] at hl; cases hl
            · subst e
              rw [← beg_shut0]
              have e : deepBy ((([] : List T) :: rest).length : Int) 93 = (rest.length : Int) := by unfold deepBy; simp
              rw [e]
              exact .aft rest (fun r hr => hw r (List.mem_cons_of_mem _ hr)) _ (by rw [T.wf, T.wfs]; trivial)
            · rw [e] at hl; cases hl
  | min rows hw =>
    rw [stand_min, Bool.and_eq_true, decide_eq_true_eq, decide_eq_true_eq] at h
    rw [deepBy_same (by omega) (by omega)]
    have q := Shp.aft rows hw (.int (-((c - 48 : Nat) : Int))) (by rw [T.wf]; trivial)
    rw [T.line, line_minus h.1 h.2] at q
    rw [List.append_assoc]
    exact q
  | aft rows hw t ht =>
    rw [stand_aft rows t ht] at h
    by_cases hc : c = 32 ∨ c = 93
    · rw [if_pos hc, decide_eq_true_eq] at h
      match rows, hw, h with
      | r :: rest, hw, h =>
        have hr := hw r (by simp)
        have hrest : ∀ x ∈ rest, T.wfs x := fun x hx => hw x (List.mem_cons_of_mem _ hx)
        rcases hc with rfl | rfl
        · rw [deepBy_same (by decide) (by decide), ← beg_next]
          have q := Shp.exp ((r ++ [t]) :: rest) (fun x hx => (List.mem_cons.mp hx).elim (fun e => by rw [e]; exact wfs_one ht hr) (hrest x))
          exact q
        · rw [← beg_shut]
          have e : deepBy (((r :: rest).length : Nat) : Int) 93 = (rest.length : Int) := by unfold deepBy; simp
          rw [e]
          exact .aft rest hrest _ (by rw [T.wf]; exact wfs_one ht hr)
      | [], hw, h => simp at h
    · rw [if_neg hc] at h
      cases t with
      | lst ts => cases h
      | str cs =>
        have h : letter c = true := h
        rw [deepBy_same (letter_ne h).1 (letter_ne h).2]
        have q := Shp.aft rows hw (.str (cs ++ [c])) (by rw [T.wf] at ht ⊢; exact word_more ht h)
        rw [T.line] at q ⊢
        rw [List.append_assoc]
        exact q
      | int i =>
        have h : (if i = 0 then false else fig c) = true := h
        by_cases h0 : i = 0
        · rw [if_pos h0] at h; cases h
        · rw [if_neg h0] at h
          rw [deepBy_same (fig_ne h).1 (fig_ne h).2]
          have q := Shp.aft rows hw (.int (more i c)) (by rw [T.wf]; trivial)
          rw [T.line, line_more h0 h] at q
          rw [T.line, List.append_assoc]
          exact q
theorem due_sound : ∀ (r ahead : List Nat) (deep : Int), Shp ahead deep → dueFrom ahead deep r = none → ∃ t : T, t.wf ∧ t.line = ahead ++ r
  | [], ahead, deep, S, h => by
    rw [dueFrom] at h
    by_cases hc : 0 < deep ∨ ahead = [] ∨ ahead.getLast? = some 45
    · rw [if_pos hc] at h; cases h
    · cases S with
      | exp rows hw =>
        match rows with
        | [] => exact absurd (.inr (.inl rfl)) hc
        | r :: rest => exact absurd (.inl (by simp)) hc
      | min rows hw => exact absurd (.inr (.inr (by rw [List.getLast?_concat]))) hc
      | aft rows hw t ht =>
        match rows with
        | [] => exact ⟨t, ht, by simp [beg]⟩
        | r :: rest => exact absurd (.inl (by simp)) hc
  | c :: r, ahead, deep, S, h => by
    rw [dueFrom] at h
    by_cases hs : stand ahead c deep = true
    · rw [if_pos hs] at h
      obtain ⟨t, h1, h2⟩ := due_sound r (ahead ++ [c]) _ (S.step hs) h
      exact ⟨t, h1, by rw [h2, List.append_assoc]; rfl⟩
    · rw [if_neg hs] at h; cases h
/-! ### a thing's own line is read through -/
theorem step_on {ahead : List Nat} {deep : Int} {c : Nat} {r : List Nat} (h : stand ahead c deep = true) : dueFrom ahead deep (c :: r) = dueFrom (ahead ++ [c]) (deepBy deep c) r := by
  rw [dueFrom, if_pos h]
theorem run_word (rows : List (List T)) (deep : Int) : ∀ (more cs r : List Nat), isWord cs = true → more.all letter = true → dueFrom (beg rows ++ cs) deep (more ++ r) = dueFrom (beg rows ++ (cs ++ more)) deep r
  | [], cs, r, _, _ => by simp
  | c :: more, cs, r, h, hm => by
    rw [List.all_cons, Bool.and_eq_true] at hm
    have st := stand_aft rows (.str cs) (by rw [T.wf]; exact h) c deep
    rw [T.line] at st
    have nc : ¬ (c = 32 ∨ c = 93) := by have := letter_iff.mp hm.1; omega
    rw [if_neg nc] at st
    have st : stand (beg rows ++ cs) c deep = letter c := st
    rw [List.cons_append, step_on (by rw [st]; exact hm.1), deepBy_same (letter_ne hm.1).1 (letter_ne hm.1).2]
    have q := run_word rows deep more (cs ++ [c]) r (word_more h hm.1) hm.2
    rw [List.append_assoc, q]
    simp
theorem run_figs (rows : List (List T)) (deep : Int) : ∀ (more : List Nat) (i : Int) (r : List Nat), i ≠ 0 → more.all fig = true → ∃ j : Int, line j = line i ++ more ∧ dueFrom (beg rows ++ line i) deep (more ++ r) = dueFrom (beg rows ++ (line i ++ more)) deep r
  | [], i, r, _, _ => ⟨i, by simp, by simp⟩
  | c :: ms, i, r, h, hm => by
    rw [List.all_cons, Bool.and_eq_true] at hm
    have st := stand_aft rows (.int i) (by rw [T.wf]; trivial) c deep
    rw [T.line] at st
    have nc : ¬ (c = 32 ∨ c = 93) := by have := fig_iff.mp hm.1; omega
    rw [if_neg nc] at st
    have st : stand (beg rows ++ line i) c deep = if i = 0 then false else fig c := st
    rw [if_neg h] at st
    have hn : more i c ≠ 0 := by unfold more; split <;> omega
    obtain ⟨j, hj, q⟩ := run_figs rows deep ms (more i c) r hn hm.2
    rw [line_more h hm.1] at hj q
    refine ⟨j, by rw [hj]; simp, ?_⟩
    rw [List.cons_append, step_on (by rw [st]; exact hm.1), deepBy_same (fig_ne hm.1).1 (fig_ne hm.1).2, List.append_assoc, q]
    simp
theorem figs_head : ∀ n : Nat, 0 < n → ∃ c r, figs n = c :: r ∧ fig c = true ∧ c ≠ 48 ∧ r.all fig = true := by
  intro n
  induction n using Nat.strongRecOn with
  | _ n ih =>
    intro h
    by_cases h10 : n < 10
    · exact ⟨n + 48, [], by rw [figs_one h10], by rw [fig_iff]; omega, by omega, rfl⟩
    · obtain ⟨c, r, e, h1, h2, h3⟩ := ih (n / 10) (by omega) (by omega)
      obtain ⟨A, d, e2, hd, _, hA⟩ := figs_snoc n
      refine ⟨c, r ++ [d + 48], ?_, h1, h2, ?_⟩
      · rw [e2, hA (by omega), e]; rfl
      · have hf : fig (d + 48) = true := by rw [fig_iff]; omega
        rw [List.all_append, h3, List.all_cons, hf]; rfl
theorem run_int (rows : List (List T)) (deep : Int) (i : Int) (r : List Nat) : dueFrom (beg rows) deep (line i ++ r) = dueFrom (beg rows ++ line i) deep r := by
  by_cases h0 : i = 0
  · subst h0
    have e : line 0 = [48] := by decide
    rw [e]
    rw [List.cons_append, List.nil_append, step_on (by rw [stand_exp]; simp [fig]), deepBy_same (by decide) (by decide)]
  · obtain ⟨c, ms, e, h1, h2, h3⟩ := figs_head i.natAbs (by omega)
    have hc := fig_iff.mp h1
    by_cases hneg : i < 0
    · have el : line i = 45 :: c :: ms := by unfold line; rw [if_pos hneg, e]
      rw [el, List.cons_append, step_on (by rw [stand_exp]; simp [fig]), deepBy_same (by decide) (by decide)]
      rw [List.cons_append, step_on (by rw [stand_min]; simp; omega), deepBy_same (fig_ne h1).1 (fig_ne h1).2]
      have lm := line_minus (c := c) (by omega) (by omega)
      obtain ⟨j, _, q⟩ := run_figs rows deep ms (-((c - 48 : Nat) : Int)) r (by omega) h3
      rw [lm] at q
      have e3 : beg rows ++ [45] ++ [c] = beg rows ++ [45, c] := by simp
      rw [e3, q]
      simp
    · have el : line i = c :: ms := by unfold line; rw [if_neg hneg, e]
      rw [el, List.cons_append, step_on (by rw [stand_exp, h1]; simp), deepBy_same (fig_ne h1).1 (fig_ne h1).2]
      obtain ⟨j, _, q⟩ := run_figs rows deep ms ((c - 48 : Nat) : Int) r (by omega) h3
      rw [line_one h1] at q
      rw [q]
      simp
mutual
theorem run_thing (rows : List (List T)) : ∀ (t : T) (r : List Nat), t.wf → dueFrom (beg rows) rows.length (t.line ++ r) = dueFrom (beg rows ++ t.line) rows.length r
  | .int i, r, _ => by rw [T.line]; exact run_int rows _ i r
  | .str cs, r, h => by
    rw [T.wf] at h
    rw [T.line]
    have h' := h
    unfold isWord at h'
    rw [Bool.and_eq_true, decide_eq_true_eq] at h'
    match cs, h, h' with
    | [], h, h' => exact absurd rfl h'.1
    | c :: ms, h, h' =>
      have ha := h'.2
      rw [List.all_cons, Bool.and_eq_true] at ha
      rw [List.cons_append, step_on (by rw [stand_exp, ha.1]; simp), deepBy_same (letter_ne ha.1).1 (letter_ne ha.1).2]
      rw [run_word rows _ ms [c] r (by unfold isWord; simp [ha.1]) ha.2]
      rfl
  | .lst ts, r, h => by
    rw [T.wf] at h
    rw [T.line, List.cons_append, step_on (by rw [stand_exp]; simp), ← beg_open]
    have e : deepBy (rows.length : Int) 91 = ((([] : List T) :: rows).length : Int) := by unfold deepBy; simp
    rw [e]
    have q := run_items rows ts [] r h (fun _ => rfl)
    rw [List.nil_append] at q
    rw [List.append_assoc]
    show dueFrom _ _ (T.join ts ++ 93 :: r) = _
    rw [q, T.line]
theorem run_items (rows : List (List T)) : ∀ (ts d : List T) (r : List Nat), T.wfs ts → (ts = [] → d = []) → dueFrom (beg (d :: rows)) (((d :: rows).length : Nat) : Int) (T.join ts ++ 93 :: r) = dueFrom (beg rows ++ (T.lst (d ++ ts)).line) rows.length r
  | [], d, r, _, h0 => by
    have e := h0 rfl
    subst e
    rw [T.join, List.nil_append, step_on (by rw [stand_exp, beg_open, List.getLast?_concat]; decide), ← beg_shut0]
    have e : deepBy ((([] : List T) :: rows).length : Int) 93 = (rows.length : Int) := by unfold deepBy; simp
    rw [e]
    rfl
  | [t], d, r, h, _ => by
    rw [T.wfs] at h
    rw [T.join, run_thing (d :: rows) t _ h.1, step_on (by rw [stand_aft _ t h.1, if_pos (.inr rfl)]; simp), beg_shut]
    have e : deepBy (((d :: rows).length : Nat) : Int) 93 = (rows.length : Int) := by unfold deepBy; simp
    rw [e]
  | t :: u :: ts, d, r, h, _ => by
    rw [T.wfs] at h
    rw [T.join, List.append_assoc, run_thing (d :: rows) t _ h.1, List.cons_append, step_on (by rw [stand_aft _ t h.1, if_pos (.inl rfl)]; simp), ← beg_next, deepBy_same (by decide) (by decide)]
    have q := run_items rows (u :: ts) (d ++ [t]) r h.2 (fun z => by cases z)
    rw [List.append_assoc] at q
    exact q
end
theorem due_line (t : T) (h : t.wf) : due t.line = none := by
  have q := run_thing [] t [] h
  rw [List.append_nil] at q
  unfold due
  have e : dueFrom [] 0 t.line = dueFrom (beg [] ++ t.line) (([] : List (List T)).length : Int) [] := q
  rw [e, dueFrom]
  obtain ⟨c, hc, hk⟩ := last_line [] t h
  rw [show beg [] ++ t.line = [] ++ t.line from rfl]
  rw [if_neg]
  rintro (z | z | z)
  · simp at z
  · rw [z] at hc; cases hc
  · rw [z] at hc
    cases hc
    cases t with
    | int i => exact absurd (show fig 45 = true from hk) (by decide)
    | str cs => exact absurd (show letter 45 = true from hk) (by decide)
    | lst ts => exact absurd (show 45 = 93 from hk) (by decide)
/-- a line is a thing's just where there is no fault -/
theorem due_none_iff (L : List Nat) : due L = none ↔ ∃ t : T, t.wf ∧ t.line = L := by
  constructor
  · intro h
    exact due_sound L [] 0 (.exp [] (by simp)) h
  · rintro ⟨t, h, rfl⟩
    exact due_line t h
end NN

/-! A line is the line of one thing only. -/
namespace NN
theorem take_tok {p : Nat → Bool} {a x : List Nat} (ha : a.all p = true) (hx : x = [] ∨ ∃ c r, x = c :: r ∧ p c = false) : (a ++ x).takeWhile p = a := by
  induction a with
  | nil =>
    rcases hx with rfl | ⟨c, r, rfl, h⟩
    · rfl
    · rw [List.nil_append, List.takeWhile_cons, h]; rfl
  | cons d a ih =>
    rw [List.all_cons, Bool.and_eq_true] at ha
    rw [List.cons_append, List.takeWhile_cons, ha.1, if_pos rfl, ih ha.2]
theorem tok_eq {p : Nat → Bool} {a b x y : List Nat} (ha : a.all p = true) (hb : b.all p = true) (hx : x = [] ∨ ∃ c r, x = c :: r ∧ p c = false) (hy : y = [] ∨ ∃ c r, y = c :: r ∧ p c = false) (e : a ++ x = b ++ y) : a = b ∧ x = y := by
  have h := congrArg (List.takeWhile p) e
  rw [take_tok ha hx, take_tok hb hy] at h
  subst h
  exact ⟨rfl, List.append_cancel_left e⟩
/-- what may stand behind a thing -/
def behind (x : List Nat) : Prop := x = [] ∨ (∃ r, x = 32 :: r) ∨ ∃ r, x = 93 :: r
theorem behind.not {p : Nat → Bool} (h1 : p 32 = false) (h2 : p 93 = false) {x : List Nat} (h : behind x) : x = [] ∨ ∃ c r, x = c :: r ∧ p c = false := by
  rcases h with rfl | ⟨r, rfl⟩ | ⟨r, rfl⟩
  · exact .inl rfl
  · exact .inr ⟨32, r, rfl, h1⟩
  · exact .inr ⟨93, r, rfl, h2⟩
theorem figs_inj : ∀ n m : Nat, figs n = figs m → n = m := by
  intro n
  induction n using Nat.strongRecOn with
  | _ n ih =>
    intro m h
    obtain ⟨A, d, e1, hd, h1, h2⟩ := figs_snoc n
    obtain ⟨B, k, e2, hk, g1, g2⟩ := figs_snoc m
    rw [e1, e2] at h
    have hA : A = B ∧ d = k := by
      have z := List.append_inj' h rfl
      exact ⟨z.1, by have := z.2; simp at this; exact this⟩
    obtain ⟨rfl, rfl⟩ := hA
    by_cases hn : n < 10
    · obtain ⟨a1, a2⟩ := h1 hn
      by_cases hm : m < 10
      · exact a2.symm.trans (g1 hm).2
      · have z := g2 (by omega)
        rw [a1] at z
        obtain ⟨C, q, e3, _⟩ := figs_snoc (m / 10)
        rw [e3] at z
        simp at z
    · have z := h2 (by omega)
      by_cases hm : m < 10
      · obtain ⟨b1, _⟩ := g1 hm
        rw [b1] at z
        obtain ⟨C, q, e3, _⟩ := figs_snoc (n / 10)
        rw [e3] at z
        simp at z
      · have z2 := g2 (by omega)
        have q := ih (n / 10) (by omega) (m / 10) (by rw [← z, ← z2])
        -- the last figures
        have en : figs n = figs (n / 10) ++ [d + 48] := by rw [e1, z]
        have em : figs m = figs (m / 10) ++ [d + 48] := by rw [e2, z2]
        have fn := figs_more (m := n / 10) (d := n % 10) (by omega) (by omega)
        have fm := figs_more (m := m / 10) (d := m % 10) (by omega) (by omega)
        have e5 : 10 * (n / 10) + n % 10 = n := by omega
        have e6 : 10 * (m / 10) + m % 10 = m := by omega
        rw [e5, en] at fn
        rw [e6, em] at fm
        have l1 : d + 48 = n % 10 + 48 := by simpa using List.append_cancel_left fn
        have l2 : d + 48 = m % 10 + 48 := by simpa using List.append_cancel_left fm
        omega
theorem figs_all (n : Nat) : (figs n).all fig = true := by
  induction n using Nat.strongRecOn with
  | _ n ih =>
    obtain ⟨A, d, e, hd, h1, h2⟩ := figs_snoc n
    have hf : fig (d + 48) = true := by rw [fig_iff]; omega
    rw [e, List.all_append, List.all_cons, hf]
    by_cases h : n < 10
    · rw [(h1 h).1]; rfl
    · rw [h2 (by omega), ih (n / 10) (by omega)]; rfl
def numc (c : Nat) : Bool := fig c || decide (c = 45)
theorem line_all (i : Int) : (line i).all numc = true := by
  have h : (figs i.natAbs).all numc = true := by
    rw [List.all_eq_true]
    intro c hc
    have z := List.all_eq_true.mp (figs_all i.natAbs) c hc
    unfold numc; rw [z]; rfl
  unfold line
  split
  · rw [List.all_cons, h]; rfl
  · exact h
theorem line_ne (i : Int) : line i ≠ [] := by
  obtain ⟨A, d, e, _⟩ := line_snoc i
  rw [e]; simp
theorem line_inj {i j : Int} (h : line i = line j) : i = j := by
  have hf : ∀ n, ∃ c r, figs n = c :: r ∧ c ≠ 45 := fun n => by
    cases e : figs n with
    | nil => obtain ⟨A, d, e2, _⟩ := figs_snoc n; rw [e2] at e; simp at e
    | cons c r =>
      have z := figs_all n
      rw [e, List.all_cons, Bool.and_eq_true] at z
      have := fig_iff.mp z.1
      exact ⟨c, r, rfl, by omega⟩
  obtain ⟨c, r, e1, n1⟩ := hf i.natAbs
  obtain ⟨d, s, e2, n2⟩ := hf j.natAbs
  unfold line at h
  by_cases hi : i < 0
  · rw [if_pos hi] at h
    by_cases hj : j < 0
    · rw [if_pos hj] at h
      have z := figs_inj _ _ (List.cons.inj h).2
      omega
    · rw [if_neg hj, e2] at h
      exact absurd (List.cons.inj h).1.symm n2
  · rw [if_neg hi] at h
    by_cases hj : j < 0
    · rw [if_pos hj, e1] at h
      exact absurd (List.cons.inj h).1 n1
    · rw [if_neg hj] at h
      have z := figs_inj _ _ h
      omega
theorem first_int (i : Int) : ∃ c r, line i = c :: r ∧ numc c = true := by
  cases e : line i with
  | nil => exact absurd e (line_ne i)
  | cons c r =>
    have z := line_all i
    rw [e, List.all_cons, Bool.and_eq_true] at z
    exact ⟨c, r, rfl, z.1⟩
theorem first_word {cs : List Nat} (h : isWord cs = true) : ∃ c r, cs = c :: r ∧ letter c = true ∧ cs.all letter = true := by
  unfold isWord at h
  rw [Bool.and_eq_true, decide_eq_true_eq] at h
  match cs, h with
  | [], h => exact absurd rfl h.1
  | c :: r, h =>
    have z := h.2
    rw [List.all_cons, Bool.and_eq_true] at z
    exact ⟨c, r, rfl, z.1, h.2⟩
theorem numc_iff {c : Nat} : numc c = true ↔ (48 ≤ c ∧ c ≤ 57) ∨ c = 45 := by unfold numc; rw [Bool.or_eq_true, fig_iff, decide_eq_true_eq]
mutual
theorem read_one : ∀ (t u : T) (x y : List Nat), t.wf → u.wf → behind x → behind y → t.line ++ x = u.line ++ y → t = u ∧ x = y
  | .int i, u, x, y, _, hu, hx, hy, e => by
    rw [T.line] at e
    obtain ⟨c, r, ec, hc⟩ := first_int i
    have hc := numc_iff.mp hc
    cases u with
    | int j =>
      rw [T.line] at e
      obtain ⟨z1, z2⟩ := tok_eq (line_all i) (line_all j) (hx.not (by decide) (by decide)) (hy.not (by decide) (by decide)) e
      exact ⟨by rw [line_inj z1], z2⟩
    | str cs =>
      rw [T.wf] at hu
      obtain ⟨d, s, ed, hd, _⟩ := first_word hu
      have hd := letter_iff.mp hd
      rw [T.line, ec, ed] at e
      have := (List.cons.inj e).1
      omega
    | lst ts =>
      rw [T.line, ec] at e
      have := (List.cons.inj e).1
      omega
  | .str cs, u, x, y, ht, hu, hx, hy, e => by
    rw [T.line] at e
    rw [T.wf] at ht
    obtain ⟨c, r, ec, hc, hall⟩ := first_word ht
    have hc := letter_iff.mp hc
    cases u with
    | int j =>
      rw [T.line] at e
      obtain ⟨d, s, ed, hd⟩ := first_int j
      have hd := numc_iff.mp hd
      rw [ec, ed] at e
      have := (List.cons.inj e).1
      omega
    | str ds =>
      rw [T.wf] at hu
      obtain ⟨d, s, ed, hd, hall2⟩ := first_word hu
      rw [T.line] at e
      obtain ⟨z1, z2⟩ := tok_eq hall hall2 (hx.not (by decide) (by decide)) (hy.not (by decide) (by decide)) e
      exact ⟨by rw [z1], z2⟩
    | lst ts =>
      rw [T.line, ec] at e
      have := (List.cons.inj e).1
      omega
  | .lst ts, u, x, y, ht, hu, hx, hy, e => by
    rw [T.line] at e
    rw [T.wf] at ht
    cases u with
    | int j =>
      obtain ⟨d, s, ed, hd⟩ := first_int j
      have hd := numc_iff.mp hd
      rw [T.line, ed] at e
      have := (List.cons.inj e).1
      omega
    | str ds =>
      rw [T.wf] at hu
      obtain ⟨d, s, ed, hd, _⟩ := first_word hu
      have hd := letter_iff.mp hd
      rw [T.line, ed] at e
      have := (List.cons.inj e).1
      omega
    | lst us =>
      rw [T.wf] at hu
      rw [T.line] at e
      have e2 : T.join ts ++ 93 :: x = T.join us ++ 93 :: y := by
        have z := (List.cons.inj e).2
        simpa using z
      obtain ⟨z1, z2⟩ := read_all ts us x y ht hu e2
      exact ⟨by rw [z1], z2⟩
theorem read_all : ∀ (ts us : List T) (x y : List Nat), T.wfs ts → T.wfs us → T.join ts ++ 93 :: x = T.join us ++ 93 :: y → ts = us ∧ x = y
  | [], [], x, y, _, _, e => ⟨rfl, (List.cons.inj e).2⟩
  | [], u :: us, x, y, _, hu, e => by
    exfalso
    rw [T.wfs] at hu
    have nz : ∀ z, T.join (u :: us) ++ z ≠ 93 :: x := fun z h => by
      obtain ⟨c, q, ec, hk⟩ : ∃ c q, u.line = c :: q ∧ c ≠ 93 := by
        cases u with
        | int j => obtain ⟨d, s, ed, hd⟩ := first_int j; have := numc_iff.mp hd; exact ⟨d, s, by rw [T.line, ed], by omega⟩
        | str ds => obtain ⟨d, s, ed, hd, _⟩ := first_word (by have := hu.1; rwa [T.wf] at this); have := letter_iff.mp hd; exact ⟨d, s, by rw [T.line, ed], by omega⟩
        | lst vs => exact ⟨91, _, by rw [T.line], by decide⟩
      have : ∃ w, T.join (u :: us) = u.line ++ w := by
        cases us with
        | nil => exact ⟨[], by rw [T.join, List.append_nil]⟩
        | cons v r => exact ⟨_, by rw [T.join]⟩
      obtain ⟨w, ew⟩ := this
      rw [ew, ec] at h
      exact hk (List.cons.inj h).1
    exact nz _ e.symm
  | t :: ts, [], x, y, ht, _, e => by
    exfalso
    rw [T.wfs] at ht
    obtain ⟨c, q, ec, hk⟩ : ∃ c q, t.line = c :: q ∧ c ≠ 93 := by
      cases t with
      | int j => obtain ⟨d, s, ed, hd⟩ := first_int j; have := numc_iff.mp hd; exact ⟨d, s, by rw [T.line, ed], by omega⟩
      | str ds => obtain ⟨d, s, ed, hd, _⟩ := first_word (by have := ht.1; rwa [T.wf] at this); have := letter_iff.mp hd; exact ⟨d, s, by rw [T.line, ed], by omega⟩
      | lst vs => exact ⟨91, _, by rw [T.line], by decide⟩
    have : ∃ w, T.join (t :: ts) = t.line ++ w := by
      cases ts with
      | nil => exact ⟨[], by rw [T.join, List.append_nil]⟩
      | cons v r => exact ⟨_, by rw [T.join]⟩
    obtain ⟨w, ew⟩ := this
    rw [ew, ec] at e
    exact hk (List.cons.inj e).1
  | [t], [u], x, y, ht, hu, e => by
    rw [T.wfs] at ht hu
    rw [T.join, T.join] at e
    obtain ⟨z1, z2⟩ := read_one t u _ _ ht.1 hu.1 (.inr (.inr ⟨x, rfl⟩)) (.inr (.inr ⟨y, rfl⟩)) e
    exact ⟨by rw [z1], (List.cons.inj z2).2⟩
  | [t], u :: v :: us, x, y, ht, hu, e => by
    exfalso
    rw [T.wfs] at ht hu
    rw [T.join, T.join, List.append_assoc] at e
    obtain ⟨z1, z2⟩ := read_one t u _ _ ht.1 hu.1 (.inr (.inr ⟨x, rfl⟩)) (.inr (.inl ⟨_, rfl⟩)) e
    exact absurd (List.cons.inj z2).1 (by decide)
  | t :: v :: ts, [u], x, y, ht, hu, e => by
    exfalso
    rw [T.wfs] at ht hu
    rw [T.join, T.join, List.append_assoc] at e
    obtain ⟨z1, z2⟩ := read_one t u _ _ ht.1 hu.1 (.inr (.inl ⟨_, rfl⟩)) (.inr (.inr ⟨y, rfl⟩)) e
    exact absurd (List.cons.inj z2).1 (by decide)
  | t :: v :: ts, u :: w :: us, x, y, ht, hu, e => by
    rw [T.wfs] at ht hu
    rw [T.join, T.join, List.append_assoc, List.append_assoc] at e
    obtain ⟨z1, z2⟩ := read_one t u _ _ ht.1 hu.1 (.inr (.inl ⟨_, rfl⟩)) (.inr (.inl ⟨_, rfl⟩)) e
    obtain ⟨y1, y2⟩ := read_all (v :: ts) (w :: us) x y ht.2 hu.2 (List.cons.inj z2).2
    exact ⟨by rw [z1, y1], y2⟩
end
end NN

/-! Bounds of lines and of the things that they write. -/
namespace NN
/-- no piece of figures and signs of minus is longer than n -/
def Runs (n : Nat) (L : List Nat) : Prop := ∀ A S B, L = A ++ (S ++ B) → S.all numc = true → S.length ≤ n
theorem Runs.mono {n m : Nat} {L : List Nat} (h : Runs n L) (e : n ≤ m) : Runs m L := fun A S B q a => Nat.le_trans (h A S B q a) e
theorem Runs.of_len {n : Nat} {L : List Nat} (h : L.length ≤ n) : Runs n L := fun A S B q _ => by
  rw [q, List.length_append, List.length_append] at h; omega
theorem Runs.sub {n : Nat} {A L B : List Nat} (h : Runs n (A ++ (L ++ B))) : Runs n L := fun X S Y q a => h (A ++ X) S (Y ++ B) (by rw [q]; simp) a
theorem Runs.left {n : Nat} {L B : List Nat} (h : Runs n (L ++ B)) : Runs n L := Runs.sub (A := []) h
theorem Runs.right {n : Nat} {A L : List Nat} (h : Runs n (A ++ L)) : Runs n L := Runs.sub (A := A) (B := []) (by rw [List.append_nil]; exact h)
theorem Runs.take {n : Nat} {L : List Nat} (h : Runs n L) (k : Nat) : Runs n (L.take k) := Runs.left (B := L.drop k) (by rw [List.take_append_drop]; exact h)
theorem Runs.drop {n : Nat} {L : List Nat} (h : Runs n L) (k : Nat) : Runs n (L.drop k) := Runs.right (A := L.take k) (by rw [List.take_append_drop]; exact h)
theorem Runs.app {n m : Nat} {A B : List Nat} (ha : Runs n A) (hb : Runs m B) : Runs (n + m) (A ++ B) := by
  intro X S Y q a
  rw [← List.append_assoc] at q
  rcases List.append_eq_append_iff.mp q with ⟨Z, e1, e2⟩ | ⟨Z, e1, e2⟩
  · rcases List.append_eq_append_iff.mp e1 with ⟨W, f1, f2⟩ | ⟨W, f1, f2⟩
    · rw [f2, List.all_append, Bool.and_eq_true] at a
      have z1 := ha X W [] (by rw [f1]; simp) a.1
      have z2 := hb [] Z Y (by rw [e2]; rfl) a.2
      rw [f2, List.length_append]
      omega
    · have z := hb W S Y (by rw [e2, f2, List.append_assoc]) a
      omega
  · have z := ha X S Z (by rw [e1, List.append_assoc]) a
    omega
theorem Runs.sep {n : Nat} {A B : List Nat} {c : Nat} (hc : numc c = false) (ha : Runs n A) (hb : Runs n B) : Runs n (A ++ c :: B) := by
  intro X S Y q a
  have no : c ∉ S := fun m => by have z := List.all_eq_true.mp a c m; rw [hc] at z; cases z
  rw [← List.append_assoc] at q
  rcases List.append_eq_append_iff.mp q with ⟨Z, e1, e2⟩ | ⟨Z, e1, e2⟩
  · rcases List.append_eq_append_iff.mp e1 with ⟨W, f1, f2⟩ | ⟨W, f1, f2⟩
    · cases Z with
      | nil =>
        rw [List.append_nil] at f2
        subst f2
        exact ha X S [] (by rw [f1]; simp) a
      | cons d Z =>
        rw [List.cons_append] at e2
        exact absurd (by rw [f2, (List.cons.inj e2).1]; simp) no
    · cases W with
      | nil =>
        rw [List.nil_append] at f2
        subst f2
        cases Z with
        | nil => simp
        | cons d Z =>
          rw [List.cons_append] at e2
          exact absurd (by rw [(List.cons.inj e2).1]; simp) no
      | cons d W =>
        rw [f2, List.cons_append, List.cons_append] at e2
        exact hb W S Y (by rw [(List.cons.inj e2).2, List.append_assoc]) a
  · exact ha X S Z (by rw [e1, List.append_assoc]) a
theorem Runs.word {n : Nat} {L : List Nat} (h : L.all letter = true) : Runs n L := fun A S B q a => by
  cases S with
  | nil => simp
  | cons c S =>
    rw [List.all_cons, Bool.and_eq_true] at a
    have z := List.all_eq_true.mp h c (by rw [q]; simp)
    have z1 := letter_iff.mp z
    have z2 := numc_iff.mp a.1
    omega
theorem Runs.nil {n : Nat} : Runs n [] := Runs.of_len (by simp)
mutual
theorem runs_fine : ∀ t : T, t.fine → Runs 60 t.line
  | .int i, h => by rw [T.line]; exact Runs.of_len (line_len h)
  | .str cs, h => by
    rw [T.line]
    obtain ⟨_, _, _, _, hall⟩ := first_word h.1
    exact Runs.word hall
  | .lst ts, h => by
    rw [T.line]
    have q := runs_fines ts h
    have e : 91 :: (T.join ts ++ [93]) = [] ++ 91 :: (T.join ts ++ 93 :: []) := rfl
    rw [e]
    exact Runs.sep (by decide) Runs.nil (Runs.sep (by decide) q Runs.nil)
theorem runs_fines : ∀ ts : List T, T.fines ts → Runs 60 (T.join ts)
  | [], _ => Runs.nil
  | [t], h => by rw [T.join]; exact runs_fine t h.1
  | t :: u :: r, h => by rw [T.join]; exact Runs.sep (by decide) (runs_fine t h.1) (runs_fines (u :: r) h.2)
end
mutual
/-- a thing whose numbers are of at most 200 figures -/
def T.sane : T → Prop
  | .int i => (NN.line i).length ≤ 200
  | .str cs => isWord cs = true
  | .lst ts => T.sanes ts
def T.sanes : List T → Prop
  | [] => True
  | t :: r => t.sane ∧ T.sanes r
end
mutual
theorem sane_runs : ∀ t : T, t.wf → Runs 200 t.line → t.sane
  | .int i, _, h => by
    rw [T.line] at h
    exact h [] (line i) [] (by simp) (line_all i)
  | .str cs, h, _ => by rw [T.wf] at h; exact h
  | .lst ts, h, q => by
    rw [T.wf] at h
    rw [T.line] at q
    exact sanes_runs ts h (Runs.sub (A := [91]) (B := [93]) q)
theorem sanes_runs : ∀ ts : List T, T.wfs ts → Runs 200 (T.join ts) → T.sanes ts
  | [], _, _ => trivial
  | [t], h, q => by
    rw [T.wfs] at h
    rw [T.join] at q
    exact ⟨sane_runs t h.1 q, trivial⟩
  | t :: u :: r, h, q => by
    rw [T.wfs] at h
    rw [T.join] at q
    refine ⟨sane_runs t h.1 q.left, sanes_runs (u :: r) h.2 ?_⟩
    have z := q.right
    exact Runs.right (A := [32]) z
end
mutual
theorem fine_sane : ∀ t : T, t.fine → t.sane
  | .int i, h => by have := line_len h; show (line i).length ≤ 200; omega
  | .str cs, h => h.1
  | .lst ts, h => fines_sane ts h
theorem fines_sane : ∀ ts : List T, T.fines ts → T.sanes ts
  | [], _ => trivial
  | t :: r, h => ⟨fine_sane t h.1, fines_sane r h.2⟩
end
mutual
theorem sane_wf : ∀ t : T, t.sane → t.wf
  | .int _, _ => by rw [T.wf]; trivial
  | .str cs, h => by rw [T.wf]; exact h
  | .lst ts, h => by rw [T.wf]; exact sanes_wf ts h
theorem sanes_wf : ∀ ts : List T, T.sanes ts → T.wfs ts
  | [], _ => by rw [T.wfs]; trivial
  | t :: r, h => by rw [T.wfs]; exact ⟨sane_wf t h.1, sanes_wf r h.2⟩
end
/-! ### how many lists begin -/
theorem count_numc {L : List Nat} (h : L.all numc = true) : L.count 91 = 0 := by
  rw [List.count_eq_zero]
  intro m
  have z := List.all_eq_true.mp h 91 m
  cases z
theorem count_letter {L : List Nat} (h : L.all letter = true) : L.count 91 = 0 := by
  rw [List.count_eq_zero]
  intro m
  have z := List.all_eq_true.mp h 91 m
  cases z
mutual
theorem count_le : ∀ t : T, t.wf → t.depth ≤ t.line.count 91 ∧ t.line.count 91 ≤ t.size ∧ t.size ≤ t.line.length
  | .int i, _ => by
    have h := line_ne i
    have : 0 < (line i).length := List.length_pos_iff.mpr h
    rw [T.line, count_numc (line_all i), T.size]
    exact ⟨by simp [T.depth], by omega, by omega⟩
  | .str cs, h => by
    rw [T.wf] at h
    obtain ⟨c, r, e, _, hall⟩ := first_word h
    have : 0 < cs.length := by rw [e]; simp
    rw [T.line, count_letter hall, T.size]
    exact ⟨by simp [T.depth], by omega, by omega⟩
  | .lst ts, h => by
    rw [T.wf] at h
    obtain ⟨h1, h2, h3⟩ := counts_le ts h
    rw [T.line, T.size, T.depth, List.count_cons, List.count_append]
    simp
    omega
theorem counts_le : ∀ ts : List T, T.wfs ts → T.depths ts ≤ (T.join ts).count 91 ∧ (T.join ts).count 91 ≤ T.sizes ts ∧ T.sizes ts ≤ (T.join ts).length
  | [], _ => by simp [T.depths, T.join, T.sizes]
  | [t], h => by
    rw [T.wfs] at h
    obtain ⟨h1, h2, h3⟩ := count_le t h.1
    simp only [T.depths, T.join, T.sizes]
    omega
  | t :: u :: r, h => by
    rw [T.wfs] at h
    obtain ⟨h1, h2, h3⟩ := count_le t h.1
    obtain ⟨g1, g2, g3⟩ := counts_le (u :: r) h.2
    rw [T.join, T.sizes, T.depths, List.count_append, List.count_cons, List.length_append, List.length_cons]
    simp
    omega
end
end NN

set_option Elab.async false
set_option linter.all false
set_option maxRecDepth 100000
set_option maxHeartbeats 1000000
namespace L2
open PySem PySem.Spec PyProof.Rows
theorem cutV_mid (xs : List V) (a b : Nat) : cutV xs (some ((a : Nat) : Int)) (some ((b : Nat) : Int)) = (xs.drop a).take (b - a) := by
  unfold cutV
  rw [HT.sIx_nat, HT.sIx_nat]
  by_cases h : a ≤ xs.length
  · rw [Nat.min_eq_left h]
    by_cases h2 : b ≤ xs.length
    · rw [Nat.min_eq_left h2]
    · rw [Nat.min_eq_right (by omega), List.take_of_length_le (by rw [List.length_drop]; omega), List.take_of_length_le (by rw [List.length_drop]; omega)]
  · rw [List.drop_of_length_le (show xs.length ≤ min a xs.length by omega), List.drop_of_length_le (show xs.length ≤ a by omega)]
    simp
theorem cutV_ints (ns : List Int) (a b : Nat) : cutV (ns.map V.int) (some ((a : Nat) : Int)) (some ((b : Nat) : Int)) = ((ns.drop a).take (b - a)).map V.int := by
  rw [cutV_mid, ← List.map_drop, ← List.map_take]
theorem Trs.ints {L : List Addr} {H : Hp} : ∀ (is : List Int), Trs L H (is.map NN.T.int) (is.map V.int)
  | [] => by rw [List.map_nil, List.map_nil, Trs]
  | i :: is => by rw [List.map_cons, List.map_cons, Trs]; exact ⟨_, _, rfl, by rw [Tr], Trs.ints is⟩
/-- a call that is known to bring no error -/
theorem passNo {P : Program} {w : World} {X : Cx} : Passes (CXR P w) X (fun _ _ _ => False) := by
  intro pins σ H s1 e s2 I h
  obtain ⟨_, _, _, _, _, f, _⟩ := h
  exact f.elim
/-- the type of a thing's value -/
def isLst : NN.T → Bool
  | .lst _ => true
  | _ => false
theorem Tr.ty {K : PySem.W.Frag} {L : List Addr} {H : Hp} {t : NN.T} {v : V} (h : Tr L H t v) : ∃ T, TyOf K H v T ∧ PySem.W.kitOne K T (.type "list") = some (isLst t) := by
  cases t with
  | int i => rw [Tr] at h; subst h; exact ⟨_, .int _, rfl⟩
  | str cs => rw [Tr] at h; subst h; exact ⟨_, .str _, rfl⟩
  | lst ts => rw [Tr] at h; obtain ⟨a, vs, rfl, _, ha, _⟩ := h; exact ⟨_, .lst ha, rfl⟩
end L2

set_option Elab.async false
set_option linter.all false
set_option maxRecDepth 100000
set_option maxHeartbeats 1000000
namespace L2
open PySem PySem.Spec PyProof.Rows
theorem sIx_m1 (n d : Nat) : HT.sIx n d (some (-1)) = n - 1 := by
  show (if (-1 : Int) < 0 then ((-1 : Int) + (n : Int)).toNat else min (-1 : Int).toNat n) = _
  rw [if_pos (by decide)]; omega
theorem sIx_m2 (n d : Nat) : HT.sIx n d (some (-2)) = n - 2 := by
  show (if (-2 : Int) < 0 then ((-2 : Int) + (n : Int)).toNat else min (-2 : Int).toNat n) = _
  rw [if_pos (by decide)]; omega
theorem cod_last (z : Str) : cod (Txt.slice z (some (-1)) none) = (cod z).getLast?.toList := by
  rw [cod_slice, sIx_m1, HT.sIx_none, ← cod_len]
  generalize cod z = A
  rcases list_cases_last A with rfl | ⟨B, x, rfl⟩
  · rfl
  · rw [List.getLast?_concat, List.length_append, List.length_singleton, Nat.add_sub_cancel, List.drop_left, List.take_of_length_le (by simp)]
    rfl
theorem cod_last2 (z : Str) : cod (Txt.slice z (some (-2)) (some (-1))) = (cod z).dropLast.getLast?.toList := by
  rw [cod_slice, sIx_m1, sIx_m2, ← cod_len]
  generalize cod z = A
  rcases list_cases_last A with rfl | ⟨B, x, rfl⟩
  · rfl
  · rw [List.dropLast_concat, List.length_append, List.length_singleton]
    rcases list_cases_last B with rfl | ⟨C, y, rfl⟩
    · rfl
    · rw [List.getLast?_concat, List.length_append, List.length_singleton, List.append_assoc]
      have e : C.length + 1 + 1 - 2 = C.length := by omega
      have e2 : C.length + 1 + 1 - 1 - C.length = 1 := by omega
      rw [e, e2, List.drop_left]
      try rfl
theorem in_tx (c : Nat) (a : Str) (B : List Nat) (h : cod a = B) : (!(Builtin.Str.occurrences a (tx [c]) 0 a.length 1).isEmpty) = decide (c ∈ B) := by
  rw [← h]; exact in_one c a
theorem eq_tx (a b : List Nat) (z : Str) (h : cod z = b) : decide (V.str (tx a) = V.str z) = decide (a = b) := by
  rw [str_eq, h]
theorem mem_abc (c : Nat) : decide (c ∈ abc) = NN.letter c := by
  unfold abc NN.letter
  rw [Bool.eq_iff_iff, decide_eq_true_eq, Bool.and_eq_true, decide_eq_true_eq, decide_eq_true_eq, List.mem_map]
  constructor
  · rintro ⟨k, hk, rfl⟩
    rw [List.mem_range] at hk
    omega
  · intro ⟨h1, h2⟩
    exact ⟨c - 97, by rw [List.mem_range]; omega, by omega⟩
def digs : List Nat := (List.range 10).map (48 + ·)
theorem mem_digs (c : Nat) : decide (c ∈ digs) = NN.fig c := by
  unfold digs NN.fig
  rw [Bool.eq_iff_iff, decide_eq_true_eq, Bool.and_eq_true, decide_eq_true_eq, decide_eq_true_eq, List.mem_map]
  constructor
  · rintro ⟨k, hk, rfl⟩
    rw [List.mem_range] at hk
    omega
  · intro ⟨h1, h2⟩
    exact ⟨c - 48, by rw [List.mem_range]; omega, by omega⟩
theorem cod_digs : cod ("0123456789" : Str) = digs := by decide +kernel
end L2

set_option Elab.async false
set_option linter.all false
set_option maxRecDepth 100000
set_option maxHeartbeats 1000000
/-! A list comprehension with one if. -/
namespace L2
open PySem PySem.Spec PyProof.Rows
def tCompIf (wi : TI) (js : List Nat) (tc : TT) (te : TE) : TE := fun σ H Q => wi σ H fun J H1 => ∃ W : Nat → Nat → List V → Hp → Prop, (∃ m, W 0 m [] H1) ∧ ∀ i m ys H, W i m ys H →
  (J.stop i H ∧ ys.length ≤ sizeLine ∧ ∀ p, H p = none → Q (.ref p) (upd H p (.lst ys))) ∨
  (J.go i H ∧ ys.length < sizeLine ∧ ∀ x H', J.yld i H x H' → tc (some x :: compSt js σ) H' fun b H2 =>
    if b = true then te (some x :: compSt js σ) H2 fun v H3 => ∃ m', m' < m ∧ W (i + 1) m' (ys ++ [v]) H3 else ∃ m', m' < m ∧ W (i + 1) m' ys H2)

section
variable {X : Cx} {x : Str} {px pos : Pos} {iter elt cond : Expr} {scope : Scope} {cl : List (Str × Addr)} {js : List Nat} {fr : List Str} {wi : TI} {te : TE} {tc : TT}
end
end L2

set_option Elab.async false
set_option linter.all false
set_option maxRecDepth 100000
set_option maxHeartbeats 1000000
/-! list(..) of an iterator that a walk is known of; the hint of a reversed list. -/
namespace PySem
namespace F
end F
section
variable {prog : Program} {w : World} {A : Around} {E : Value → Shared → Prop} {s : Shared}
variable {I : Addr} {fp wr : List Addr} {n : Nat} {P : Nat → Value → Prop} {St : Nat → Heap → Prop} {T : String}
end
end PySem

set_option Elab.async false
set_option linter.all false
set_option maxRecDepth 100000
set_option maxHeartbeats 1000000
/-! enumerate over a list and over a text, list(reversed(..)), a walk over reversed(..). -/
namespace L2
open PySem PySem.Spec PyProof.Rows
section
variable {X : Cx} {pins : List (Addr × Obj)} {σ : St} {H : Hp} {s : Shared} {h' : Heap}
theorem Inv.turnedL {t' : Nat} {ch : List Addr} (I : Inv X pins σ H s) (k : ∀ b o, b ∉ ch → s.heap.get? b = some o → h'.get? b = some o) (hn : ∀ b ∈ ch, FpOk X pins H b) : Inv X pins σ H { s with heap := h', toks := t' } := by
  have nit : ∀ b u, H b = some u → b ∉ ch := fun b u e z => by rw [(hn b z).1] at e; cases e
  refine I.step (g' := s.gens) (d' := s.drawn) (ch := ch) (fun b hb => ?_) (fun b o _ _ hc e _ => k b o hc e) (fun b o _ _ hc e _ => ⟨o.slots, k b o hc e⟩) (fun _ _ _ _ n => n)
    (fun b o hc e => ⟨o, k b o hc e⟩) (fun _ _ e => e) (fun _ _ _ e => e) (fun b ps e => ⟨#[], by rw [e]; simp⟩) (fun m hm => ?_) (fun b u e => ?_) I.bare
  · obtain ⟨f0, f1, f2, f3, f4, f5⟩ := hn b hb
    exact ⟨f3, f1, f4, f5⟩
  · obtain ⟨o, es, ep, ho, r⟩ := hm
    exact ⟨o, es, ep, k _ o (fun z => (hn _ z).2.1 rfl) ho, r⟩
  · refine (I.hok b u e).stay (fun c v hc q => k c v ?_ q) (fun _ q => q) fun _ _ q => q
    rcases hc with z | z
    · rw [z]; exact nit b u e
    · exact nit c _ z
/-- an object at the heap's old end is tracked -/
theorem Inv.trackNew {s1 : Shared} {o : HO} (I : Inv X pins σ H s) (I1 : Inv X pins σ H s1) (new : ObjOk X.prog X.w (upd H s.heap.objs.size o) s1.heap s.heap.objs.size o) : Inv X pins σ (upd H s.heap.objs.size o) s1 :=
  I1.track (I.hok.fresh (Nat.le_refl _)) (.inr I.sz) (Nat.ne_of_gt I.lt) (fun y c e z => by
    obtain ⟨v, q⟩ := I.cell y c e
    exact absurd q.lt (by rw [z]; exact Nat.lt_irrefl _)) (fun p hp z => absurd (Heap.lt_size (I.pin p hp).1) (by rw [z]; exact Nat.lt_irrefl _)) new
end
/-! ### enumerate -/
def ItEl (K : PySem.W.Frag) (a : Addr) : It :=
  ⟨fun i H => ∃ xs x, SqL K H a xs ∧ xs[i]? = some x, fun i H x H' => ∃ p v, H p = none ∧ x = .ref p ∧ H' = upd H p (.tup [.int (i : Nat), v]) ∧ ∀ xs, SqL K H a xs → xs[i]? = some v, fun i H => ∃ xs, SqL K H a xs ∧ xs.length ≤ i⟩
def ItEs (z : Str) : It := ⟨fun i _ => i < z.cps.size, fun i H x H' => ∃ p c, H p = none ∧ z.cps[i]? = some c ∧ x = .ref p ∧ H' = upd H p (.tup [.int (i : Nat), .str ⟨#[c]⟩]), fun i _ => z.cps.size ≤ i⟩
theorem turn_enumS {P : Program} {w : World} {K : PySem.W.Frag} {es : List Expr} {x1 : Nat} {pos : Pos} (e it : Addr) (hei : e ≠ it) (z : Str) (t : Tok) (T : String)
    (D : ∀ A : Around, A.handled = none → Draws P w A it [it] z.cps.size (fun i v => ∃ c u, z.cps[i]? = some c ∧ v = .str ⟨#[c]⟩ u) (fun i h => h.IsStrIter it T z t i)) :
    Turn P w K (.Tuple es x1 pos) (ItEs z) [e, it] e (fun i h => (∃ old, IsEnum h e it ((i : Nat) : Int) old) ∧ h.IsStrIter it T z t i ∧ i ≤ z.cps.size) where
  mem := by simp
  obj := fun i h st b hb => by
    obtain ⟨⟨old, he⟩, ⟨o, e1, c, d⟩, _⟩ := st
    rcases List.mem_cons.mp hb with rfl | hb
    · exact ⟨_, he, fun v z => by cases z⟩
    · rw [List.mem_singleton.mp hb]
      exact ⟨o, e1, fun v z => by rw [d] at z; cases z⟩
  keep := fun i h h' st k => ⟨let ⟨old, he⟩ := st.1; ⟨old, k e (by simp) _ he⟩, let ⟨o, ho, r⟩ := st.2.1; ⟨o, k it (by simp) o ho, r⟩, st.2.2⟩
  item := by
    intro X hP hw hK hc i pins s σ H E I hf st hg
    subst hP hw hK
    have hi : i < z.cps.size := hg
    obtain ⟨⟨old, he⟩, hit, _⟩ := st
    have hel : e < s.heap.objs.size := Heap.lt_size he
    have hil : it < s.heap.objs.size := by obtain ⟨o, ho, _⟩ := hit; exact Heap.lt_size ho
    refine wpAny_pyNext_enum_itemD (D X.A.in1 (I.ok.hd hc)) he hit hi hei (fun q => hei (List.mem_singleton.mp q)) fun x h' tk hP heo hit₁ ht₁ hz₁ hk₁ => ?_
    obtain ⟨c, u, hcz, rfl⟩ := hP
    refine ⟨_, rfl, wpAny_letOwnedTupleGo_enum heo fun h₂ he₂ hs₂ => ?_⟩
    replace hs₂ : Heap.SameBut e h' h₂ := hs₂
    have I1 : Inv X pins σ H { s with heap := h₂, toks := tk + 1 } := I.turnedL (ch := [e, it]) (fun b o hb eo => hs₂.extBut b o (fun z => hb (by simp [z])) (hk₁ b o (fun z => hb (by simp [z])) (fun z => hb (by simp [z])) eo)) hf
    have ht₂ : h₂.get? s.heap.objs.size = some { cls := .type "tuple", data := .seq #[.int i tk, .str ⟨#[c]⟩ u] } := hs₂.extBut _ _ (Nat.ne_of_gt hel) ht₁
    have I2 := I.trackNew (o := .tup [.int (i : Nat), .str ⟨#[c]⟩]) I1 ⟨by simp only [List.length_cons, List.length_nil]; rw [sizeLine_eq]; decide, [.int i tk, .str ⟨#[c]⟩ u], .cons ⟨_, rfl⟩ (.cons ⟨_, rfl⟩ .nil), _, ht₂, rfl, _, rfl⟩
    have ee : ((i + 1 : Nat) : Int) = (i : Int) + 1 := by push_cast; rfl
    refine ⟨.ref s.heap.objs.size, _, I2, rfl, ⟨_, c, I.hok.fresh (Nat.le_refl _), hcz, rfl, rfl⟩, ⟨⟨_, by rw [ee]; exact he₂⟩, (by obtain ⟨o, ho, r⟩ := hit₁; exact ⟨o, hs₂.extBut it o (Ne.symm hei) ho, r⟩), hi⟩, fun b hb => ?_⟩
    rw [upd_ne (fun z => ?_)]
    · exact (hf b hb).1
    · rcases List.mem_cons.mp hb with e1 | hb
      · rw [e1] at z; exact absurd hel (by rw [z]; exact Nat.lt_irrefl _)
      · rw [List.mem_singleton.mp hb] at z; exact absurd hil (by rw [z]; exact Nat.lt_irrefl _)
  done := by
    intro X hP hw hK hc i pins s σ H E I hf st hg
    subst hP hw hK
    obtain ⟨⟨old, he⟩, hit, hle⟩ := st
    have hi : z.cps.size ≤ i := hg
    have ei : i = z.cps.size := Nat.le_antisymm hle hi
    subst ei
    exact wpAny_pyNext_enum_endD (D X.A.in1 (I.ok.hd hc)) he hit fun h' eb => ⟨rfl, I.turnedL (t' := s.toks) (ch := [e, it]) (fun b o hb eo => eb b o (fun z => hb (by simp [z])) eo) hf⟩
  self := fun _ _ _ _ _ st h => by obtain ⟨⟨old, he⟩, _⟩ := st; exact wpAny_pyIter_enum he h
section
variable {X : Cx} {es : List Expr} {x1 : Nat} {tp : Pos}
def iEnL (K : PySem.W.Frag) (ta : TA) : TI := fun σ H R => ta σ H fun vs H1 => ∃ a, vs = [.ref a] ∧ (∃ xs, SqL K H1 a xs) ∧ R (ItEl K a) H1
def iEnS (ta : TA) : TI := fun σ H R => ta σ H fun vs H1 => ∃ z, vs = [.str z] ∧ R (ItEs z) H1
theorem pi_enumS {a : Expr} {ta : TA} {p pos : Pos} (hg : Gl X "enumerate") (hm : X.mg "enumerate" = none) (ha : PA X [a] ta) (hs : starEach [a] X.env = [(false, eval a X.env)] := by rfl) : PI X (.Tuple es x1 tp) (.Call (.Name "enumerate" p) [a] [] pos) (iEnS ta) := by
  intro pins s σ H R I h
  refine Call_ (ld_blt I hg hm boot_enumerate (PyProof.Rows.callWith_type1 (thn (ha pos pins s σ H _ I h) fun us s1 ⟨vs, H1, I1, r1, q1⟩ => ?_) hs rfl))
  obtain ⟨z, e, q⟩ := q1
  subst e
  cases r1 with
  | cons r rr =>
    cases rr
    obtain ⟨t, rfl⟩ := r
    refine call_enumerate_str fun h' he hit hsz hk => ?_
    refine wpAny_pyIter_enum he ?_
    have hD : ∀ A : Around, A.handled = none → Draws X.prog X.w A s1.heap.objs.size [s1.heap.objs.size] z.cps.size (fun i v => ∃ c u, z.cps[i]? = some c ∧ v = .str ⟨#[c]⟩ u) (fun i h => h.IsStrIter s1.heap.objs.size (strIterType z) z t i) := fun A hA => by
      unfold strIterType
      split
      · exact Draws.strAscii hA _ z t
      · exact Draws.strWide hA _ z t
    refine ⟨s1.heap.objs.size + 1, [s1.heap.objs.size + 1, s1.heap.objs.size], _, _, H1, rfl, I1.kept (t' := s1.toks) hk, turn_enumS _ _ (Nat.succ_ne_self _) z t _ hD, ⟨⟨.none, he⟩, hit, Nat.zero_le _⟩, fun c hc => ?_, q⟩
    have hle : s1.heap.objs.size ≤ c := by
      rcases List.mem_cons.mp hc with e | hc
      · rw [e]; exact Nat.le_succ _
      · rw [List.mem_singleton.mp hc]; exact Nat.le_refl _
    exact I1.fpOk hle (I1.hok.fresh hle)
end
theorem for_enumS {z : Str} {g : TG} {tb : TS} {D : Ends} {σ : St} {H : Hp} (Pv : Nat → St → Hp → Prop) (h0 : Pv 0 σ H)
    (hs : ∀ i c σ H p, z.cps.toList[i]? = some c → Pv i σ H → H p = none → g (.ref p) σ (upd H p (.tup [.int (i : Nat), .str ⟨#[c]⟩])) fun σ2 H2 => tb { D with nx := Pv (i + 1), ct := Pv (i + 1), bk := D.nx } σ2 H2) (hd : ∀ σ H, Pv z.cps.toList.length σ H → D.nx σ H) :
    ∃ W : Nat → Nat → St → Hp → Prop, (∃ m, W 0 m σ H) ∧ ∀ i m σ H, W i m σ H →
      ((ItEs z).stop i H ∧ D.nx σ H) ∨ ((ItEs z).go i H ∧ ∃ N : St → Hp → Prop, (∀ σ' H', N σ' H' → ∃ m', m' < m ∧ W (i + 1) m' σ' H') ∧ ∀ x H', (ItEs z).yld i H x H' → g x σ H' fun σ2 H2 => tb { D with nx := N, ct := N, bk := D.nx } σ2 H2) := by
  have hz : z.cps.toList.length = z.cps.size := Array.length_toList
  refine ⟨fun i m σ H => m = z.cps.toList.length - i ∧ i ≤ z.cps.toList.length ∧ Pv i σ H, ⟨z.cps.toList.length, by simp, Nat.zero_le _, h0⟩, ?_⟩
  rintro i m σ H ⟨rfl, hi, p⟩
  by_cases hlt : i < z.cps.toList.length
  · refine .inr ⟨(show i < z.cps.size by omega), Pv (i + 1), fun σ' H' p' => ⟨z.cps.toList.length - (i + 1), by omega, rfl, hlt, p'⟩, fun x H' y => ?_⟩
    obtain ⟨b, c, hb, hc, rfl, rfl⟩ := y
    exact hs i c σ H b (by simpa using hc) p hb
  · have e : i = z.cps.toList.length := by omega
    refine .inl ⟨(show z.cps.size ≤ i by omega), hd σ H (by rw [← e]; exact p)⟩
/-! ### list(reversed(..)) -/
section
variable {X : Cx} {e : Expr} {te : TE} {p1 p2 pos pos2 : Pos}
def tLR (K : PySem.W.Frag) (te : TE) : TE := fun σ H Q => te σ H fun x H1 => ∃ a xs, x = .ref a ∧ SqL K H1 a xs ∧ ∀ l, H1 l = none → Q (.ref l) (upd H1 l (.lst xs.reverse))
end
end L2

set_option Elab.async false
set_option linter.all false
set_option maxRecDepth 100000
set_option maxHeartbeats 1000000
/-! Plain facts for the program's defs. -/
namespace L2
open PySem PySem.Spec PyProof.Rows
/-! ### the program: lists_among, depth, leaves -/
def kidsL : NN.T → List NN.T
  | .lst ts => ts.filter isLst
  | _ => []
def selV : List NN.T → List V → List V
  | t :: ts, v :: vs => if isLst t = true then v :: selV ts vs else selV ts vs
  | _, _ => []
/-! ### the program: list_row, shown -/
def sepF : Nat → List NN.T → List NN.T
  | _, [] => []
  | k, t :: r => (if 0 < k then [.str [32], t] else [t]) ++ sepF (k + 1) r
def sepV : Nat → List V → List V
  | _, [] => []
  | k, v :: r => (if 0 < k then [.str (tx [32]), v] else [v]) ++ sepV (k + 1) r
def rowT (ts : List NN.T) : List NN.T := .str [91] :: (sepF 0 ts ++ [.str [93]])
def rowV (us : List V) : List V := .str (tx [91]) :: (sepV 0 us ++ [.str (tx [93])])
theorem Tr.lit {L : List Addr} {H : Hp} (cs : List Nat) : Tr L H (.str cs) (.str (tx cs)) := by rw [Tr]
theorem Trs.sep {L : List Addr} {H : Hp} : ∀ {k : Nat} {ts : List NN.T} {us : List V}, Trs L H ts us → Trs L H (sepF k ts) (sepV k us)
  | k, [], us, h => by rw [Trs] at h; subst h; rw [sepF, sepV, Trs]
  | k, t :: ts, us, h => by
    rw [Trs] at h
    obtain ⟨v, r, rfl, h1, h2⟩ := h
    rw [sepF, sepV]
    refine Trs.app ?_ (Trs.sep h2)
    split
    · rw [Trs]; exact ⟨_, _, rfl, Tr.lit _, .one h1⟩
    · exact .one h1
theorem Trs.row {L : List Addr} {H : Hp} {ts : List NN.T} {us : List V} (h : Trs L H ts us) : Trs L H (rowT ts) (rowV us) := by
  unfold rowT rowV
  rw [Trs]
  exact ⟨_, _, rfl, Tr.lit _, h.sep.snoc (Tr.lit _)⟩
mutual
def cnt : NN.T → Nat
  | .int _ => 0
  | .str _ => 0
  | .lst ts => cnts ts + 1
def cnts : List NN.T → Nat
  | [] => 0
  | t :: r => cnt t + cnts r
end
def lens : List NN.T → Nat
  | [] => 0
  | t :: r => t.line.length + lens r
def good (u : NN.T) : Prop := u.sane ∨ ∃ c, u = .str [c]
theorem cod_join0 (css : List (List Nat)) : cod (Txt.join "" (css.map tx)) = css.flatten := by
  have e : ∀ zs : List Str, Txt.join "" zs = Str.join "" zs := fun zs => PySem.StrLaws.glued_eq_join "" zs
  rw [e]
  induction css with
  | nil => rfl
  | cons x r ih =>
    cases r with
    | nil => show cod (tx x) = _; rw [List.flatten_cons, List.flatten_nil, List.append_nil]
    | cons y r =>
      show cod (tx x ++ "" ++ Str.join "" ((y :: r).map tx)) = _
      rw [cod_app, cod_app, ih, List.flatten_cons (l := x)]
      have e0 : cod ("" : Str) = [] := by decide +kernel
      rw [e0, List.append_nil]
/-! ### the program: thing_at -/
/-! ### the program: with_part -/
def wrapT : List (List NN.T) → List Int → NN.T → NN.T
  | ts :: r, i :: is, u => .lst (ts.set i.toNat (wrapT r is u))
  | _, _, u => u
def Chain : NN.T → List Int → List (List NN.T) → NN.T → Prop
  | t, [], tss, e => tss = [] ∧ e = t
  | t, i :: is, tss, e => ∃ ts r x, tss = ts :: r ∧ t = .lst ts ∧ 0 ≤ i ∧ i < (ts.length : Int) ∧ ts[i.toNat]? = some x ∧ Chain x is r e
theorem Chain.path : ∀ {is : List Int} {t : NN.T} {tss : List (List NN.T)} {e : NN.T}, Chain t is tss e → ∀ r, NN.pathT t (is ++ r) = NN.pathT e r
  | [], t, tss, e, h, r => by rw [Chain] at h; rw [h.2]; rfl
  | i :: is, t, tss, e, h, r => by
    rw [Chain] at h
    obtain ⟨ts, r', x, rfl, rfl, h0, h1, hx, hc⟩ := h
    rw [List.cons_append, NN.pathT, NN.partT_lst h0 h1, hx]
    exact hc.path r
theorem Chain.snoc : ∀ {is : List Int} {t : NN.T} {tss : List (List NN.T)} {ts : List NN.T} {i : Int} {x : NN.T}, Chain t is tss (.lst ts) → 0 ≤ i → i < (ts.length : Int) → ts[i.toNat]? = some x → Chain t (is ++ [i]) (tss ++ [ts]) x
  | [], t, tss, ts, i, x, h, h0, h1, hx => by
    rw [Chain] at h
    rw [h.1, ← h.2, List.nil_append, List.nil_append, Chain]
    exact ⟨ts, [], x, rfl, rfl, h0, h1, hx, by rw [Chain]; exact ⟨rfl, rfl⟩⟩
  | j :: is, t, tss, ts, i, x, h, h0, h1, hx => by
    rw [Chain] at h
    obtain ⟨ts', r, y, rfl, rfl, g0, g1, gx, hc⟩ := h
    rw [List.cons_append, List.cons_append, Chain]
    exact ⟨ts', _, y, rfl, rfl, g0, g1, gx, hc.snoc h0 h1 hx⟩
theorem Chain.at : ∀ {is : List Int} {t : NN.T} {tss : List (List NN.T)} {e : NN.T}, Chain t is tss e → tss.length = is.length ∧ ∀ (j : Nat) (i : Int) (ts : List NN.T), is[j]? = some i → tss[j]? = some ts → 0 ≤ i ∧ i < (ts.length : Int)
  | [], t, tss, e, h => by rw [Chain] at h; rw [h.1]; exact ⟨rfl, fun j i ts hj => by simp at hj⟩
  | i :: is, t, tss, e, h => by
    rw [Chain] at h
    obtain ⟨ts, r, x, rfl, rfl, h0, h1, hx, hc⟩ := h
    obtain ⟨q1, q2⟩ := hc.at
    refine ⟨by simp [q1], fun j i' ts' hj ht => ?_⟩
    cases j with
    | zero => simp at hj ht; subst hj ht; exact ⟨h0, h1⟩
    | succ j => exact q2 j i' ts' (by simpa using hj) (by simpa using ht)
theorem Trs.set {L : List Addr} {H : Hp} {ts : List NN.T} {vs : List V} {n : Nat} {y : NN.T} {v : V} (h : Trs L H ts vs) (hn : n < ts.length) (hy : Tr L H y v) : Trs L H (ts.set n y) (vs.take n ++ [v] ++ vs.drop (n + 1)) := by
  rw [List.set_eq_take_append_cons_drop, if_pos hn]
  have e : ts.take n ++ y :: ts.drop (n + 1) = ts.take n ++ [y] ++ ts.drop (n + 1) := by simp
  rw [e]
  exact ((h.take n).app (.one hy)).app (h.drop (n + 1))
/-- the lists on the way: where they stand -/
def Ways (H : Hp) (tss : List (List NN.T)) (ls : List V) : Prop := ls.length = tss.length ∧ ∀ (j : Nat) (ts : List NN.T) (x : V), tss[j]? = some ts → ls[j]? = some x → ts.length ≤ 300 ∧ Tr [] H (.lst ts) x
theorem Ways.snoc {H : Hp} {tss : List (List NN.T)} {ls : List V} {ts : List NN.T} {x : V} (h : Ways H tss ls) (h3 : ts.length ≤ 300) (hx : Tr [] H (.lst ts) x) : Ways H (tss ++ [ts]) (ls ++ [x]) := by
  refine ⟨by simp [h.1], fun j ts' x' h1 h2 => ?_⟩
  by_cases hj : j < tss.length
  · rw [List.getElem?_append_left hj] at h1
    rw [List.getElem?_append_left (by rw [h.1]; exact hj)] at h2
    exact h.2 j ts' x' h1 h2
  · rw [List.getElem?_append_right (by omega)] at h1
    rw [List.getElem?_append_right (by rw [h.1]; omega), h.1] at h2
    cases hq : j - tss.length with
    | zero =>
      rw [hq] at h1 h2
      simp at h1 h2
      subst h1 h2
      exact ⟨h3, hx⟩
    | succ n => rw [hq] at h1; simp at h1
end L2

/-! replace and split() of lines, by their codes. -/
namespace NN
def subst (c : Nat) (zs : List Nat) (L : List Nat) : List Nat := L.flatMap fun k => if k = c then zs else [k]
end NN
namespace PySem
namespace StrLaws
open NN
theorem subst_free (c : Nat) (zs : List Nat) : ∀ l : List Nat, c ∉ l → subst c zs l = l
  | [], _ => rfl
  | k :: r, h => by
    have h1 : ¬ k = c := fun e => h (e ▸ List.mem_cons_self ..)
    have h2 : c ∉ r := fun m => h (List.mem_cons_of_mem _ m)
    have q := subst_free c zs r h2
    unfold subst at q ⊢
    rw [List.flatMap_cons, if_neg h1, q]
    rfl
theorem subst_join (c : Nat) (z : Str) : ∀ parts : List Str, (∀ p ∈ parts, c ∉ p.cps.toList) → subst c z.cps.toList (Str.join ⟨#[c]⟩ parts).cps.toList = (Str.join z parts).cps.toList
  | [], _ => rfl
  | [p], h => subst_free c _ _ (h p (List.mem_singleton.mpr rfl))
  | p :: q :: r, h => by
    have ih := subst_join c z (q :: r) fun a ha => h a (List.mem_cons_of_mem _ ha)
    have hp := subst_free c z.cps.toList _ (h p (List.mem_cons_self ..))
    show subst c z.cps.toList (p ++ ⟨#[c]⟩ ++ Str.join ⟨#[c]⟩ (q :: r)).cps.toList = (p ++ z ++ Str.join z (q :: r)).cps.toList
    simp only [Str.cps_append, Array.toList_append]
    unfold subst at ih hp ⊢
    rw [List.flatMap_append, List.flatMap_append, ih, hp]
    simp
theorem replace_subst (x z : Str) (c : Nat) : (Txt.replace x ⟨#[c]⟩ z).cps.toList = subst c z.cps.toList x.cps.toList := by
  rw [replace_one, ← subst_join c z _ (split_free x c), join_split]
end StrLaws
end PySem
namespace NN
/-- split(): the words of a line, by its codes (blanks alone part them) -/
def wstep (st : List (List Nat) × List Nat) (c : Nat) : List (List Nat) × List Nat := if c = 32 then (if st.2 = [] then st else (st.1 ++ [st.2], [])) else (st.1, st.2 ++ [c])
def wfin (st : List (List Nat) × List Nat) : List (List Nat) := if st.2 = [] then st.1 else st.1 ++ [st.2]
def wordsL (L : List Nat) : List (List Nat) := wfin (L.foldl wstep ([], []))
end NN
namespace PySem
open NN
theorem words_codes (x : Str) (h : ∀ c ∈ x.cps.toList, Unicode.isSpace c = decide (c = 32)) : (Txt.words x).map (fun w => w.cps.toList) = wordsL x.cps.toList := by
  have key : ∀ (L : List Nat) (st : KWd.St) (q : List (List Nat) × List Nat), (∀ c ∈ L, Unicode.isSpace c = decide (c = 32)) → st.1.map (fun w => w.cps.toList) = q.1 → st.2.cps.toList = q.2 →
      ((L.foldl KWd.step st).1.map fun w => w.cps.toList) = (L.foldl wstep q).1 ∧ (L.foldl KWd.step st).2.cps.toList = (L.foldl wstep q).2 := by
    intro L
    induction L with
    | nil => intro st q _ h1 h2; exact ⟨h1, h2⟩
    | cons c L ih =>
      intro st q hs h1 h2
      rw [List.foldl_cons, List.foldl_cons]
      have hc := hs c (by simp)
      have hlen : st.2.length = 0 ↔ q.2 = [] := by
        rw [← h2]
        show st.2.cps.size = 0 ↔ _
        rw [← Array.length_toList, List.length_eq_zero_iff]
      refine ih _ _ (fun d hd => hs d (by simp [hd])) ?_ ?_
      · unfold KWd.step wstep
        rw [hc]
        by_cases e : c = 32
        · rw [if_pos (decide_eq_true e), if_pos e]
          by_cases e2 : q.2 = []
          · rw [if_pos (hlen.mpr e2), if_pos e2]; exact h1
          · rw [if_neg (fun z => e2 (hlen.mp z)), if_neg e2, List.map_append, h1, List.map_singleton, h2]
        · rw [if_neg (by simp [e]), if_neg e]; exact h1
      · unfold KWd.step wstep
        rw [hc]
        by_cases e : c = 32
        · rw [if_pos (decide_eq_true e), if_pos e]
          by_cases e2 : q.2 = []
          · rw [if_pos (hlen.mpr e2), if_pos e2]; exact h2
          · rw [if_neg (fun z => e2 (hlen.mp z)), if_neg e2]; rfl
        · rw [if_neg (by simp [e]), if_neg e, Str.cps_append, Array.toList_append, h2]
  rw [KWd.words_scan]
  obtain ⟨k1, k2⟩ := key x.cps.toList ([], Str.empty) ([], []) h rfl rfl
  unfold KWd.fin wordsL wfin KWd.scan
  have hlen : (x.cps.toList.foldl KWd.step ([], Str.empty)).2.length = 0 ↔ (x.cps.toList.foldl wstep ([], [])).2 = [] := by
    rw [← k2]
    show Array.size _ = 0 ↔ _
    rw [← Array.length_toList, List.length_eq_zero_iff]
  by_cases e2 : (x.cps.toList.foldl wstep ([], [])).2 = []
  · rw [if_pos (hlen.mpr e2), if_pos e2]; exact k1
  · rw [if_neg (fun z => e2 (hlen.mp z)), if_neg e2, List.map_append, k1, List.map_singleton, k2]
end PySem

/-! A line cut into its pieces, and the thing that the pieces build. -/
namespace NN
def sg (c : Nat) : List Nat := if c = 91 then [91, 32] else if c = 93 then [32, 93] else [c]
theorem subst2 (L : List Nat) : subst 93 [32, 93] (subst 91 [91, 32] L) = L.flatMap sg := by
  induction L with
  | nil => rfl
  | cons c L ih =>
    unfold subst at ih ⊢
    rw [List.flatMap_cons, List.flatMap_append, ih, List.flatMap_cons]
    congr 1
    unfold sg
    by_cases h : c = 91
    · subst h; rfl
    · rw [if_neg h, if_neg h]
      by_cases h2 : c = 93
      · subst h2; rfl
      · rw [if_neg h2]; simp [h2]
theorem sg_len (L : List Nat) : (L.flatMap sg).length ≤ 2 * L.length := by
  induction L with
  | nil => simp
  | cons c L ih =>
    rw [List.flatMap_cons, List.length_append, List.length_cons]
    have : (sg c).length ≤ 2 := by unfold sg; split; · simp
                                   · split <;> simp
    omega
mutual
def pieces : T → List (List Nat)
  | .int i => [line i]
  | .str cs => [cs]
  | .lst ts => [91] :: (piecess ts ++ [[93]])
def piecess : List T → List (List Nat)
  | [] => []
  | t :: r => pieces t ++ piecess r
end
theorem run_plain : ∀ (w : List Nat) (ws : List (List Nat)) (r : List Nat), (∀ c ∈ w, c ≠ 32) → w.foldl wstep (ws, r) = (ws, r ++ w)
  | [], ws, r, _ => by simp
  | c :: w, ws, r, h => by
    have e : wstep (ws, r) c = (ws, r ++ [c]) := by unfold wstep; rw [if_neg (h c (by simp))]
    rw [List.foldl_cons, e, run_plain w ws (r ++ [c]) fun d hd => h d (by simp [hd])]
    simp
theorem sg_plain : ∀ (w : List Nat), (∀ c ∈ w, c ≠ 91 ∧ c ≠ 93) → w.flatMap sg = w
  | [], _ => rfl
  | c :: w, h => by
    rw [List.flatMap_cons, sg_plain w fun d hd => h d (by simp [hd])]
    have q := h c (by simp)
    unfold sg
    rw [if_neg q.1, if_neg q.2]
    rfl
theorem leaf_run {w : List Nat} (hw : w ≠ []) (h : ∀ c ∈ w, c ≠ 32 ∧ c ≠ 91 ∧ c ≠ 93) (ws : List (List Nat)) : ((w.flatMap sg) ++ [32]).foldl wstep (ws, []) = (ws ++ [w], []) := by
  rw [sg_plain w fun c hc => (h c hc).2, List.foldl_append, run_plain w ws [] fun c hc => (h c hc).1, List.nil_append, List.foldl_cons, List.foldl_nil]
  unfold wstep
  rw [if_pos rfl, if_neg hw]
theorem line_plain (i : Int) : ∀ c ∈ line i, c ≠ 32 ∧ c ≠ 91 ∧ c ≠ 93 := fun c hc => by
  have z := numc_iff.mp (List.all_eq_true.mp (line_all i) c hc)
  omega
theorem word_plain {cs : List Nat} (h : isWord cs = true) : ∀ c ∈ cs, c ≠ 32 ∧ c ≠ 91 ∧ c ≠ 93 := fun c hc => by
  obtain ⟨_, _, _, _, hall⟩ := first_word h
  have z := letter_iff.mp (List.all_eq_true.mp hall c hc)
  omega
theorem word_ne {cs : List Nat} (h : isWord cs = true) : cs ≠ [] := by
  obtain ⟨_, _, e, _⟩ := first_word h
  rw [e]; simp
mutual
theorem runT : ∀ (t : T) (ws : List (List Nat)), t.wf → ((t.line.flatMap sg) ++ [32]).foldl wstep (ws, []) = (ws ++ pieces t, [])
  | .int i, ws, _ => by rw [T.line, pieces]; exact leaf_run (line_ne i) (line_plain i) ws
  | .str cs, ws, h => by rw [T.wf] at h; rw [T.line, pieces]; exact leaf_run (word_ne h) (word_plain h) ws
  | .lst ts, ws, h => by
    rw [T.wf] at h
    have e : ((T.lst ts).line.flatMap sg) ++ [32] = [91, 32] ++ ((((T.join ts).flatMap sg) ++ [32]) ++ [93, 32]) := by
      rw [T.line, List.flatMap_cons, List.flatMap_append]
      simp [sg]
    rw [e, List.foldl_append, List.foldl_append]
    have e1 : [91, 32].foldl wstep (ws, []) = (ws ++ [[91]], []) := rfl
    rw [e1, runTs ts _ h]
    show (ws ++ [[91]] ++ piecess ts ++ [[93]], []) = _
    rw [pieces]
    simp
theorem runTs : ∀ (ts : List T) (ws : List (List Nat)), T.wfs ts → (((T.join ts).flatMap sg) ++ [32]).foldl wstep (ws, []) = (ws ++ piecess ts, [])
  | [], ws, _ => by rw [T.join, piecess]; simp [wstep]
  | [t], ws, h => by
    rw [T.wfs] at h
    rw [T.join, piecess, piecess, runT t ws h.1]
    simp
  | t :: u :: r, ws, h => by
    rw [T.wfs] at h
    have e : ((T.join (t :: u :: r)).flatMap sg) ++ [32] = ((t.line.flatMap sg) ++ [32]) ++ (((T.join (u :: r)).flatMap sg) ++ [32]) := by
      rw [T.join, List.flatMap_append, List.flatMap_cons]
      simp [sg]
    rw [e, List.foldl_append, runT t ws h.1, runTs (u :: r) _ h.2, show piecess (t :: u :: r) = pieces t ++ piecess (u :: r) from by rw [piecess]]
    simp
end
theorem words_line (t : T) (h : t.wf) : wordsL (t.line.flatMap sg) = pieces t := by
  have q := runT t [] h
  rw [List.foldl_append] at q
  unfold wordsL
  generalize (t.line.flatMap sg).foldl wstep ([], []) = st at q
  have e : wfin st = (wstep st 32).1 := by unfold wfin wstep; rw [if_pos rfl]; split <;> rfl
  rw [e]
  have q2 : wstep st 32 = (pieces t, []) := by simpa using q
  rw [q2]
/-! ### what the pieces build -/
inductive Tk where
  | opn
  | cls
  | leaf (t : T)
def Tk.txt : Tk → List Nat
  | .opn => [91]
  | .cls => [93]
  | .leaf t => t.line
mutual
def toks : T → List Tk
  | .int i => [.leaf (.int i)]
  | .str cs => [.leaf (.str cs)]
  | .lst ts => .opn :: (tokss ts ++ [.cls])
def tokss : List T → List Tk
  | [] => []
  | t :: r => toks t ++ tokss r
end
mutual
theorem toks_txt : ∀ t : T, (toks t).map Tk.txt = pieces t
  | .int i => by rw [toks, pieces]; rfl
  | .str cs => by rw [toks, pieces]; rfl
  | .lst ts => by rw [toks, pieces, List.map_cons, List.map_append, tokss_txt ts]; rfl
theorem tokss_txt : ∀ ts : List T, (tokss ts).map Tk.txt = piecess ts
  | [] => by rw [tokss, piecess]; rfl
  | t :: r => by rw [tokss, piecess, List.map_append, toks_txt t, tokss_txt r]
end
mutual
theorem toks_len : ∀ t : T, t.wf → (toks t).length ≤ t.line.length
  | .int i, _ => by
    have := List.length_pos_iff.mpr (line_ne i)
    rw [toks, T.line]; simp; omega
  | .str cs, h => by
    rw [T.wf] at h
    have := List.length_pos_iff.mpr (word_ne h)
    rw [toks, T.line]; simp; omega
  | .lst ts, h => by
    rw [T.wf] at h
    have := tokss_len ts h
    rw [toks, T.line]; simp; omega
theorem tokss_len : ∀ ts : List T, T.wfs ts → (tokss ts).length ≤ (T.join ts).length
  | [], _ => by simp [tokss]
  | [t], h => by
    rw [T.wfs] at h
    have := toks_len t h.1
    rw [tokss, tokss, T.join]; simp; omega
  | t :: u :: r, h => by
    rw [T.wfs] at h
    have h1 := toks_len t h.1
    have h2 := tokss_len (u :: r) h.2
    rw [show tokss (t :: u :: r) = toks t ++ tokss (u :: r) from by rw [tokss], T.join, List.length_append, List.length_append, List.length_cons]
    omega
end
/-- a leaf that can be read -/
def okLeaf : T → Prop
  | .int i => (line i).length ≤ 200
  | .str cs => isWord cs = true
  | .lst _ => False
/-- the pieces k read from the open lists rows end in the one thing e -/
def Good (e : T) : List (List T) → List Tk → Prop
  | rows, [] => rows = [[e]]
  | rows, .opn :: r => rows ≠ [] ∧ Good e ([] :: rows) r
  | rows, .cls :: r => ∃ a b rest, rows = a :: b :: rest ∧ Good e ((b ++ [.lst a]) :: rest) r
  | rows, .leaf u :: r => okLeaf u ∧ ∃ a rest, rows = a :: rest ∧ Good e ((a ++ [u]) :: rest) r
mutual
theorem good_thing (e : T) : ∀ (t : T) (r : List T) (rest : List (List T)) (k : List Tk), t.sane → Good e ((r ++ [t]) :: rest) k → Good e (r :: rest) (toks t ++ k)
  | .int i, r, rest, k, h, g => by rw [toks]; exact ⟨h, r, rest, rfl, g⟩
  | .str cs, r, rest, k, h, g => by rw [toks]; exact ⟨h, r, rest, rfl, g⟩
  | .lst ts, r, rest, k, h, g => by
    rw [toks, List.cons_append, List.append_assoc]
    refine ⟨by simp, good_things e ts [] (r :: rest) ([.cls] ++ k) h ?_⟩
    exact ⟨ts, r, rest, rfl, g⟩
theorem good_things (e : T) : ∀ (ts a : List T) (rest : List (List T)) (k : List Tk), T.sanes ts → Good e ((a ++ ts) :: rest) k → Good e (a :: rest) (tokss ts ++ k)
  | [], a, rest, k, _, g => by rw [tokss, List.nil_append]; rw [List.append_nil] at g; exact g
  | t :: r, a, rest, k, h, g => by
    rw [tokss, List.append_assoc]
    refine good_thing e t a rest (tokss r ++ k) h.1 (good_things e r (a ++ [t]) rest k h.2 ?_)
    rw [List.append_assoc]
    exact g
end
theorem good_all (t : T) (h : t.sane) : Good t [[]] (toks t) := by
  have q := good_thing t t [] [] [] h rfl
  rw [List.append_nil] at q
  exact q
/-- a number's line is one, a word's is none -/
theorem line_isNum (i : Int) : isNum (line i) = true := by
  unfold isNum
  unfold line
  by_cases h : i < 0
  · rw [if_pos h]
    have hb : bare (45 :: figs i.natAbs) = figs i.natAbs := by unfold bare; simp
    obtain ⟨c, r, e, h1, h2, h3⟩ := figs_head i.natAbs (by omega)
    have ha := figs_all i.natAbs
    rw [hb, ha, e]
    simp [h2]
  · rw [if_neg h]
    by_cases h0 : i.natAbs = 0
    · rw [h0, figs_zero]; decide
    · obtain ⟨c, r, e, h1, h2, h3⟩ := figs_head i.natAbs (by omega)
      have hc : c ≠ 45 := by have := fig_iff.mp h1; omega
      have hb : bare (figs i.natAbs) = figs i.natAbs := by unfold bare; rw [e]; simp [hc]
      have ha := figs_all i.natAbs
      rw [hb, ha, e]
      simp [h2]
theorem word_isNum {cs : List Nat} (h : isWord cs = true) : isNum cs = false := by
  obtain ⟨c, r, e, hc, _⟩ := first_word h
  have z := letter_iff.mp hc
  have hf : fig c = false := letter_fig hc
  unfold isNum
  have hb : bare cs = cs := by unfold bare; rw [e]; simp; omega
  rw [hb, e, List.all_cons, hf]
  simp
  omega
end NN
namespace NN
mutual
theorem line_signs : ∀ (t : T), t.wf → ∀ c ∈ t.line, c = 32 ∨ c = 91 ∨ c = 93 ∨ c = 45 ∨ (48 ≤ c ∧ c ≤ 57) ∨ (97 ≤ c ∧ c ≤ 122)
  | .int i, _, c, hc => by
    rw [T.line] at hc
    have z := numc_iff.mp (List.all_eq_true.mp (line_all i) c hc)
    omega
  | .str cs, h, c, hc => by
    rw [T.wf] at h
    rw [T.line] at hc
    obtain ⟨_, _, _, _, hall⟩ := first_word h
    have z := letter_iff.mp (List.all_eq_true.mp hall c hc)
    omega
  | .lst ts, h, c, hc => by
    rw [T.wf] at h
    rw [T.line] at hc
    rcases List.mem_cons.mp hc with e | hc
    · omega
    · rcases List.mem_append.mp hc with hc | hc
      · exact join_signs ts h c hc
      · have := List.mem_singleton.mp hc; omega
theorem join_signs : ∀ (ts : List T), T.wfs ts → ∀ c ∈ T.join ts, c = 32 ∨ c = 91 ∨ c = 93 ∨ c = 45 ∨ (48 ≤ c ∧ c ≤ 57) ∨ (97 ≤ c ∧ c ≤ 122)
  | [], _, c, hc => by simp [T.join] at hc
  | [t], h, c, hc => by
    rw [T.wfs] at h
    rw [T.join] at hc
    exact line_signs t h.1 c hc
  | t :: u :: r, h, c, hc => by
    rw [T.wfs] at h
    rw [T.join] at hc
    rcases List.mem_append.mp hc with hc | hc
    · exact line_signs t h.1 c hc
    · rcases List.mem_cons.mp hc with e | hc
      · omega
      · exact join_signs (u :: r) h.2 c hc
end
theorem space_all : ∀ k : Fin 123, PySem.Unicode.isSpace k.val = decide (k.val = 32 ∨ (9 ≤ k.val ∧ k.val ≤ 13) ∨ (28 ≤ k.val ∧ k.val ≤ 31)) := by decide +kernel
theorem space_of {c : Nat} (h : c = 32 ∨ c = 91 ∨ c = 93 ∨ c = 45 ∨ (48 ≤ c ∧ c ≤ 57) ∨ (97 ≤ c ∧ c ≤ 122)) : PySem.Unicode.isSpace c = decide (c = 32) := by
  have q := space_all ⟨c, by omega⟩
  rw [q]
  by_cases e : c = 32
  · rw [decide_eq_true e, decide_eq_true (.inl e)]
  · rw [decide_eq_false e, decide_eq_false]
    show ¬ (c = 32 ∨ (9 ≤ c ∧ c ≤ 13) ∨ (28 ≤ c ∧ c ≤ 31))
    omega
end NN
namespace NN
mutual
theorem toks_short : ∀ (t : T), ∀ k ∈ toks t, k.txt.length ≤ t.line.length
  | .int i, k, h => by rw [toks] at h; rw [List.mem_singleton.mp h, Tk.txt]; exact Nat.le_refl _
  | .str cs, k, h => by rw [toks] at h; rw [List.mem_singleton.mp h, Tk.txt]; exact Nat.le_refl _
  | .lst ts, k, h => by
    rw [toks] at h
    rw [T.line, List.length_cons, List.length_append]
    rcases List.mem_cons.mp h with e | h
    · rw [e, Tk.txt]; simp
    · rcases List.mem_append.mp h with h | h
      · have := tokss_short ts k h; omega
      · rw [List.mem_singleton.mp h, Tk.txt]; simp
theorem tokss_short : ∀ (ts : List T), ∀ k ∈ tokss ts, k.txt.length ≤ (T.join ts).length
  | [], k, h => by simp [tokss] at h
  | [t], k, h => by
    rw [tokss, tokss, List.append_nil] at h
    rw [T.join]
    exact toks_short t k h
  | t :: u :: r, k, h => by
    rw [show tokss (t :: u :: r) = toks t ++ tokss (u :: r) from by rw [tokss]] at h
    rw [T.join, List.length_append, List.length_cons]
    rcases List.mem_append.mp h with h | h
    · have := toks_short t k h; omega
    · have := tokss_short (u :: r) k h; omega
end
theorem leaf_ne {u : T} (h : okLeaf u) : u.line ≠ [91] ∧ u.line ≠ [93] := by
  cases u with
  | int i =>
    rw [T.line]
    have z := line_plain i
    exact ⟨fun e => (z 91 (by rw [e]; simp)).2.1 rfl, fun e => (z 93 (by rw [e]; simp)).2.2 rfl⟩
  | str cs =>
    rw [T.line]
    have z := word_plain (show isWord cs = true from h)
    exact ⟨fun e => (z 91 (by rw [e]; simp)).2.1 rfl, fun e => (z 93 (by rw [e]; simp)).2.2 rfl⟩
  | lst ts => exact False.elim h
/-- how much the open lists hold -/
def held : List (List T) → Nat
  | [] => 0
  | r :: rest => r.length + 1 + held rest
end NN

/-! The program's states while it looks for the first fault. 0 start, 1 opened, 2 closed, 3 minus, 4 nought, 5 number, 6 word. -/
namespace NN
def sbFirst (c : Nat) : Option Nat := if c = 91 then some 1 else if c = 45 then some 3 else if c = 48 then some 4 else if fig c = true then some 5 else if letter c = true then some 6 else none
def sbThing (c : Nat) : Option Nat := if c = 32 then some 0 else if c = 93 then some 2 else none
def sb (k c : Nat) (d : Int) : Option Nat :=
  if k = 1 ∧ c = 93 then some 2 else if k = 0 ∨ k = 1 then sbFirst c else if k = 3 then (if fig c = true ∧ c ≠ 48 then some 5 else none)
  else if k = 5 ∧ fig c = true then some 5 else if k = 6 ∧ letter c = true then some 6 else if d = 0 then none else sbThing c
def stOf (A : List Nat) : Nat := match A.getLast? with
  | none => 0
  | some c => if c = 32 then 0 else if c = 91 then 1 else if c = 93 then 2 else if c = 45 then 3 else if letter c = true then 6 else if c = 48 ∧ ¬ A.dropLast.getLast?.any fig = true then 4 else 5
theorem stOf_le (A : List Nat) : stOf A ≤ 6 := by
  unfold stOf
  split
  · omega
  · repeat' split
    all_goals omega
/-- the last sign of what stands well -/
theorem Shp.last {A : List Nat} {d : Int} (S : Shp A d) : 0 ≤ d ∧ (A = [] ∨ (∃ c, A.getLast? = some c ∧ (c = 45 ∨ c = 93 ∨ letter c = true ∨ fig c = true)) ∨ (0 < d ∧ (A.getLast? = some 32 ∨ A.getLast? = some 91))) := by
  cases S with
  | exp rows hw =>
    refine ⟨by omega, ?_⟩
    rcases last_beg rows with ⟨_, e⟩ | ⟨e, rest, er⟩ | ⟨e, r, t, rest, er⟩
    · left; rw [e]; rfl
    · right; right; rw [er]; exact ⟨by simp only [List.length_cons]; omega, .inr (by rw [← er]; exact e)⟩
    · right; right; rw [er]; exact ⟨by simp only [List.length_cons]; omega, .inl (by rw [← er]; exact e)⟩
  | min rows hw =>
    exact ⟨by omega, .inr (.inl ⟨45, by rw [List.getLast?_append]; rfl, .inl rfl⟩)⟩
  | aft rows hw t ht =>
    refine ⟨by omega, .inr (.inl ?_)⟩
    obtain ⟨c, hc, hk⟩ := last_line (beg rows) t ht
    refine ⟨c, hc, ?_⟩
    cases t with
    | int i => exact .inr (.inr (.inr hk))
    | str cs => exact .inr (.inr (.inl hk))
    | lst ts => exact .inr (.inl hk)
theorem cls (c : Nat) : c = 91 ∨ c = 45 ∨ c = 48 ∨ c = 32 ∨ c = 93 ∨ (letter c = true ∧ fig c = false ∧ c ≠ 91 ∧ c ≠ 45 ∧ c ≠ 48 ∧ c ≠ 32 ∧ c ≠ 93 ∧ ¬ (49 ≤ c ∧ c ≤ 57)) ∨
    (letter c = false ∧ fig c = true ∧ c ≠ 91 ∧ c ≠ 45 ∧ c ≠ 48 ∧ c ≠ 32 ∧ c ≠ 93 ∧ (49 ≤ c ∧ c ≤ 57)) ∨ (letter c = false ∧ fig c = false ∧ c ≠ 91 ∧ c ≠ 45 ∧ c ≠ 48 ∧ c ≠ 32 ∧ c ≠ 93 ∧ ¬ (49 ≤ c ∧ c ≤ 57)) := by
  cases hL : letter c with
  | true =>
    have := letter_iff.mp hL
    have hF : fig c = false := letter_fig hL
    refine .inr (.inr (.inr (.inr (.inr (.inl ⟨rfl, hF, ?_, ?_, ?_, ?_, ?_, ?_⟩))))) <;> omega
  | false =>
    cases hF : fig c with
    | true =>
      have := fig_iff.mp hF
      by_cases h : c = 48
      · exact .inr (.inr (.inl h))
      · refine .inr (.inr (.inr (.inr (.inr (.inr (.inl ⟨rfl, rfl, ?_, ?_, h, ?_, ?_, ?_⟩)))))) <;> omega
    | false =>
      have hf : ¬ (48 ≤ c ∧ c ≤ 57) := fun z => by rw [fig_iff.mpr z] at hF; cases hF
      by_cases h1 : c = 91
      · exact .inl h1
      by_cases h2 : c = 45
      · exact .inr (.inl h2)
      by_cases h4 : c = 32
      · exact .inr (.inr (.inr (.inl h4)))
      by_cases h5 : c = 93
      · exact .inr (.inr (.inr (.inr (.inl h5))))
      exact .inr (.inr (.inr (.inr (.inr (.inr (.inr ⟨rfl, rfl, h1, h2, by omega, h4, h5, by omega⟩))))))
/-- what may stand behind a last sign c0 (prev: the sign ahead of it is a figure) -/
theorem sb_key (c0 c : Nat) (prev : Bool) (d : Int) (h0 : 0 ≤ d) (hc0 : c0 = 45 ∨ c0 = 93 ∨ letter c0 = true ∨ fig c0 = true ∨ (0 < d ∧ (c0 = 32 ∨ c0 = 91))) :
    sb (if c0 = 32 then 0 else if c0 = 91 then 1 else if c0 = 93 then 2 else if c0 = 45 then 3 else if letter c0 = true then 6 else if c0 = 48 ∧ ¬ prev = true then 4 else 5) c d =
    if (if c0 = 32 ∨ c0 = 91 then (decide (c = 91) || decide (c = 45) || letter c || fig c) || (decide (c0 = 91) && decide (c = 93))
      else if c0 = 45 then decide (49 ≤ c) && decide (c ≤ 57) else if c = 32 ∨ c = 93 then decide (0 < d) else if letter c0 = true then letter c else if c0 = 48 ∧ ¬ prev = true then false else fig c0 && fig c) = true
    then some (if c = 32 then 0 else if c = 91 then 1 else if c = 93 then 2 else if c = 45 then 3 else if letter c = true then 6 else if c = 48 ∧ ¬ fig c0 = true then 4 else 5) else none := by
  have l91 : letter 91 = false := rfl
  have l45 : letter 45 = false := rfl
  have l48 : letter 48 = false := rfl
  have l32 : letter 32 = false := rfl
  have l93 : letter 93 = false := rfl
  have f91 : fig 91 = false := rfl
  have f45 : fig 45 = false := rfl
  have f48 : fig 48 = true := rfl
  have f32 : fig 32 = false := rfl
  have f93 : fig 93 = false := rfl
  have dd : d = 0 ∨ 0 < d := by omega
  rcases cls c0 with rfl | rfl | rfl | rfl | rfl | ⟨a1, a2, a3, a4, a5, a6, a7, a8⟩ | ⟨a1, a2, a3, a4, a5, a6, a7, a8⟩ | ⟨a1, a2, a3, a4, a5, a6, a7, a8⟩
  all_goals rcases cls c with rfl | rfl | rfl | rfl | rfl | ⟨b1, b2, b3, b4, b5, b6, b7, b8⟩ | ⟨b1, b2, b3, b4, b5, b6, b7, b8⟩ | ⟨b1, b2, b3, b4, b5, b6, b7, b8⟩
  all_goals rcases dd with dd | dd
  all_goals cases prev
  all_goals first
    | (exfalso; simp_all; done)
    | (simp_all [sb, sbFirst, sbThing]; done)
    | (simp_all [sb, sbFirst, sbThing]; omega)
    | (have dn : d ≠ 0 := by omega
       simp_all [sb, sbFirst, sbThing]; done)
theorem sb_stand {A : List Nat} {d : Int} (S : Shp A d) (c : Nat) : sb (stOf A) c d = if stand A c d = true then some (stOf (A ++ [c])) else none := by
  obtain ⟨h0, hl⟩ := S.last
  have e1 : (A ++ [c]).getLast? = some c := by rw [List.getLast?_append]; rfl
  have e2 : (A ++ [c]).dropLast = A := List.dropLast_concat
  rcases List.eq_nil_or_concat A with e | ⟨B, c0, e⟩
  · subst e
    unfold stand stOf
    rw [e1, e2]
    show sb 0 c d = _
    rcases cls c with rfl | rfl | rfl | rfl | rfl | ⟨b1, b2, b3, b4, b5, b6, b7, b8⟩ | ⟨b1, b2, b3, b4, b5, b6, b7, b8⟩ | ⟨b1, b2, b3, b4, b5, b6, b7, b8⟩
    all_goals first | (simp_all [sb, sbFirst]; done) | (simp_all [sb, sbFirst, letter, fig]; done)
  · rw [List.concat_eq_append] at e
    subst e
    have g1 : (B ++ [c0]).getLast? = some c0 := by rw [List.getLast?_append]; rfl
    have g2 : (B ++ [c0]).dropLast = B := List.dropLast_concat
    have hc0 : c0 = 45 ∨ c0 = 93 ∨ letter c0 = true ∨ fig c0 = true ∨ (0 < d ∧ (c0 = 32 ∨ c0 = 91)) := by
      rcases hl with e | ⟨c', e, h⟩ | ⟨hd, e⟩
      · exact absurd e (by simp)
      · rw [g1] at e
        cases e
        rcases h with h | h | h | h
        · exact .inl h
        · exact .inr (.inl h)
        · exact .inr (.inr (.inl h))
        · exact .inr (.inr (.inr (.inl h)))
      · rw [g1] at e
        refine .inr (.inr (.inr (.inr ⟨hd, ?_⟩)))
        rcases e with e | e
        · exact .inl (Option.some.inj e)
        · exact .inr (Option.some.inj e)
    have key := sb_key c0 c (B.getLast?.any fig) d h0 hc0
    unfold stand stOf
    rw [e1, e2, g1, g2]
    simpa using key
/-- the end -/
theorem Shp.fin {A : List Nat} {d : Int} (S : Shp A d) : (0 < d ∨ A = [] ∨ A.getLast? = some 45) ↔ ¬ (d = 0 ∧ (stOf A = 2 ∨ stOf A = 4 ∨ stOf A = 5 ∨ stOf A = 6)) := by
  obtain ⟨h0, hl⟩ := S.last
  rcases hl with rfl | ⟨c, e, h⟩ | ⟨hd, e⟩
  · simp [stOf]
  · have hA : A ≠ [] := fun z => by rw [z] at e; cases e
    have hst : (stOf A = 2 ∨ stOf A = 4 ∨ stOf A = 5 ∨ stOf A = 6) ↔ c ≠ 45 := by
      unfold stOf
      rw [e]
      rcases cls c with rfl | rfl | rfl | rfl | rfl | ⟨a1, a2, a3, a4, a5, a6, a7, a8⟩ | ⟨a1, a2, a3, a4, a5, a6, a7, a8⟩ | ⟨a1, a2, a3, a4, a5, a6, a7, a8⟩
      · exfalso; revert h; decide
      · simp
      · simp [letter]; by_cases z : A.dropLast.getLast?.any fig = true <;> simp_all
      · exfalso; revert h; decide
      · simp
      · simp [a1, a3, a4, a6, a7]
      · simp [a1, a3, a4, a5, a6, a7]
      · exfalso; rcases h with h | h | h | h
        · exact a4 h
        · exact a7 h
        · rw [a1] at h; cases h
        · rw [a2] at h; cases h
    rw [hst, e]
    constructor
    · rintro (z | z | z)
      · omega
      · exact absurd z hA
      · have := Option.some.inj z; omega
    · intro z
      by_cases hd : d = 0
      · right; right
        have : c = 45 := Classical.byContradiction fun n => z ⟨hd, n⟩
        rw [this]
      · left; omega
  · constructor
    · intro _ z; omega
    · intro _; exact .inl hd
theorem stOf_snoc (A : List Nat) (c : Nat) : (stOf (A ++ [c]) = 1 ↔ c = 91) ∧ (stOf (A ++ [c]) = 2 ↔ c = 93) := by
  unfold stOf
  have e1 : (A ++ [c]).getLast? = some c := by rw [List.getLast?_append]; rfl
  rw [e1]
  dsimp only
  constructor
  · constructor
    · intro h
      repeat' split at h
      all_goals first | assumption | omega
    · rintro rfl; rfl
  · constructor
    · intro h
      repeat' split at h
      all_goals first | assumption | omega
    · rintro rfl; rfl
end NN

/-! A line with one sign put in, left out or put in the place of one. -/
namespace NN
def spoil (W : List Nat) (way : Int) (p c : Nat) : List Nat :=
  if way = 1 then W.take p ++ [c] ++ W.drop (p + 1) else if way = 2 then W.take p ++ W.drop (p + 1) else if way = 3 then W.take p ++ [c] ++ W.drop p else W
theorem count_take (L : List Nat) (p : Nat) : (L.take p).count 91 + (L.drop p).count 91 = L.count 91 := by
  rw [← List.count_append, List.take_append_drop]
theorem count_one (c : Nat) : [c].count 91 ≤ 1 := by
  have := List.count_le_length (a := 91) (l := [c])
  simpa using this
theorem spoil_ok {W : List Nat} (way : Int) (p c : Nat) (h : Runs 60 W) : Runs 121 (spoil W way p c) ∧ (spoil W way p c).length ≤ W.length + 1 ∧ (spoil W way p c).count 91 ≤ W.count 91 + 1 := by
  have one : Runs 1 [c] := Runs.of_len (by simp)
  have c1 := count_one c
  have k1 := count_take W p
  have k2 := count_take W (p + 1)
  have k3 : (W.drop (p + 1)).count 91 ≤ (W.drop p).count 91 := by
    have e : W.drop (p + 1) = (W.drop p).drop 1 := by rw [List.drop_drop]
    rw [e]
    exact List.Sublist.count_le _ (List.drop_sublist _ _)
  unfold spoil
  split
  · refine ⟨(((h.take p).app one).app (h.drop (p + 1))).mono (by decide), ?_, ?_⟩
    · simp only [List.length_append, List.length_take, List.length_drop, List.length_singleton]; omega
    · rw [List.count_append, List.count_append]; omega
  · split
    · refine ⟨((h.take p).app (h.drop (p + 1))).mono (by decide), ?_, ?_⟩
      · simp only [List.length_append, List.length_take, List.length_drop]; omega
      · rw [List.count_append]; omega
    · split
      · refine ⟨(((h.take p).app one).app (h.drop p)).mono (by decide), ?_, ?_⟩
        · simp only [List.length_append, List.length_take, List.length_drop, List.length_singleton]; omega
        · rw [List.count_append, List.count_append]; omega
      · exact ⟨h.mono (by decide), by omega, by omega⟩
/-- a line that the program is asked about -/
def okLine (L : List Nat) : Prop := Runs 200 L ∧ L.length ≤ 7000 ∧ L.count 91 ≤ 100
theorem okLine_short {L : List Nat} (h : L.length ≤ 100) : okLine L := ⟨Runs.of_len (by omega), by omega, Nat.le_trans List.count_le_length h⟩
theorem okLine_spoil {W : List Nat} (way : Int) (p c : Nat) (h : Runs 60 W) (hl : W.length ≤ 6000) (hc : W.count 91 ≤ 80) : okLine (spoil W way p c) := by
  obtain ⟨h1, h2, h3⟩ := spoil_ok way p c h
  exact ⟨h1.mono (by decide), by omega, by omega⟩
theorem okLine_ends {W A B : List Nat} (h : Runs 60 W) (hl : W.length ≤ 6000) (hc : W.count 91 ≤ 80) (ha : A.length ≤ 2) (hb : B.length ≤ 10) : okLine (A ++ W ++ B) := by
  have ca : A.count 91 ≤ A.length := List.count_le_length
  have cb : B.count 91 ≤ B.length := List.count_le_length
  refine ⟨(((Runs.of_len ha).app h).app (Runs.of_len hb)).mono (by decide), ?_, ?_⟩
  · simp only [List.length_append]; omega
  · rw [List.count_append, List.count_append]; omega
end NN

set_option Elab.async false
set_option linter.all false
set_option maxRecDepth 100000
set_option maxHeartbeats 1000000
/-! What hangs on a state's tokens being above 0: replace with written texts. P: from such states; S: into such states. -/
namespace L2
open PySem PySem.Spec PyProof.Rows
def PEP (X : Cx) (e : Expr) (t : TE) : Prop :=
  ∀ (pins : List (Addr × Obj)) (s : Shared) (σ : St) (H : Hp) (Q : VK), 1 ≤ s.toks → Inv X pins σ H s → t σ H Q → wpAny (model X.prog X.w) X.A (eval e X.env) (EP X pins σ Q) X.xe s
def PSP (X : Cx) (st : Stmt) (t : TS) : Prop :=
  ∀ (pins : List (Addr × Obj)) (s : Shared) (σ : St) (H : Hp) (D : Ends), 1 ≤ s.toks → Inv X pins σ H s → t D σ H → wpAny (model X.prog X.w) X.A (exec st X.env) (SP X pins D) X.xe s
def PSsP (X : Cx) (st : List Stmt) (t : TS) : Prop :=
  ∀ (pins : List (Addr × Obj)) (s : Shared) (σ : St) (H : Hp) (D : Ends), 1 ≤ s.toks → Inv X pins σ H s → t D σ H → wpAny (model X.prog X.w) X.A (execs st X.env) (SP X pins D) X.xe s
def PIP (X : Cx) (tg iter : Expr) (wi : TI) : Prop :=
  ∀ (pins : List (Addr × Obj)) (s : Shared) (σ : St) (H : Hp) (R : It → Hp → Prop), 1 ≤ s.toks → Inv X pins σ H s → wi σ H R →
    wpAny (model X.prog X.w) X.A (eval iter X.env) (fun v s1 => wpAny (model X.prog X.w) X.A (pyIter v) (PIE X pins σ tg R) X.xe s1) X.xe s
/-- tokens only grow -/
theorem thnP {α : Type} {t : Sem α} {Q Q' : α → Shared → Prop} {M : Model} {A : Around} {E : Value → Shared → Prop} {s : Shared} (hp : 1 ≤ s.toks) (h : wpAny M A t Q E s) (hQ : ∀ a s, 1 ≤ s.toks → Q a s → Q' a s) : wpAny M A t Q' E s :=
  wpAny_with_toks hp (wpAny_mono h (fun a s q p => hQ a s p q) fun _ _ x _ => x)
section
variable {X : Cx} {st : Stmt} {rest : List Stmt} {t u : TS} {e o : Expr} {te to : TE} {pos p apos cpos : Pos}
theorem PE.toP (h : PE X e te) : PEP X e te := fun pins s σ H Q _ I q => h pins s σ H Q I q
theorem PSs.toP {sts : List Stmt} (h : PSs X sts t) : PSsP X sts t := fun pins s σ H D _ I q => h pins s σ H D I q
theorem pssP_cons (h1 : PS X st t) (h2 : PSsP X rest u) : PSsP X (st :: rest) (tSeq t u) := by
  intro pins s σ H D hp I h
  refine wpAny_execs_cons (thnP hp (h1 pins s σ H { D with nx := u D } I h) fun f s1 hp1 q => ?_)
  cases f with
  | next =>
    obtain ⟨σ', H', I', q⟩ := q
    exact h2 pins s1 σ' H' D hp1 I' q
  | ret v => exact q
  | brk => exact q
  | cont => exact q
theorem pssP_first (h1 : PSP X st t) (h2 : PSs X rest u) : PSsP X (st :: rest) (tSeq t u) := by
  intro pins s σ H D hp I h
  refine wpAny_execs_cons (thn (h1 pins s σ H { D with nx := u D } hp I h) fun f s1 q => ?_)
  cases f with
  | next =>
    obtain ⟨σ', H', I', q⟩ := q
    exact h2 pins s1 σ' H' D I' q
  | ret v => exact q
  | brk => exact q
  | cont => exact q
theorem pssP_one (h1 : PSP X st t) : PSsP X [st] t := by
  intro pins s σ H D hp I h
  refine wpAny_execs_cons (thn (h1 pins s σ H D hp I h) fun f s1 q => ?_)
  cases f with
  | next => exact wpAny_execs_nil q
  | ret v => exact q
  | brk => exact q
  | cont => exact q
theorem psP_ret (he : PEP X e te) : PSP X (.Return (some e) pos) (tRet te) := by
  intro pins s σ H D hp I h
  exact wpAny_Return_some (thn (he pins s σ H _ hp I h) fun v s1 ⟨x, H1, I1, r1, q1⟩ => ⟨x, σ, H1, I1, r1, q1⟩)
theorem piP_list {tg l : Expr} {tl : TE} (hl : PEP X l tl) : PIP X tg l (iList X.K tl) := by
  intro pins s σ H R hp I h
  refine thn (hl pins s σ H _ hp I h) fun v s1 ⟨x, H1, I1, r1, q1⟩ => ?_
  obtain ⟨a, e, ⟨xs, hq⟩, q⟩ := q1
  subst e
  cases r1
  obtain ⟨its, rv, p, hz⟩ := I1.list hq
  refine wpAny_pyIter_list p.isList ?_
  refine ⟨s1.heap.objs.size, [s1.heap.objs.size], _, _, H1, rfl, I1.kept (t' := s1.toks) fun b o e => Heap.get?_push_of_some _ e, turn_list a _, ⟨_, Heap.get?_push_size _ rfl, rfl, rfl⟩, fun b hb => ?_, q⟩
  have e : b = s1.heap.objs.size := by simpa using hb
  subst e
  exact I1.fpOk (Nat.le_refl _) (I1.hok.fresh (Nat.le_refl _))
/-- for, whose source wants tokens: as a walk from such a state -/
theorem psP_for {iter tg : Expr} {body : List Stmt} {wi : TI} {g : TG} {tb : TS} (hp : PassesOwn (model X.prog X.w) X.A X.env X.xe) (hc : X.calm = true) (hi : PIP X tg iter wi) (hg : PG X tg g) (hb : PSs X body tb)
    (hs : ∀ x, foldedSetIterable iter X.env x = pure x := by intro _; rfl) : PSP X (.For tg iter body [] pos) (tFor wi g tb) := by
  intro pins s σ H D ht I h
  refine wpAny_For (thn (hi pins s σ H _ ht I h) fun v s1 h1 => thn h1 fun itv s2 h2 => ?_) hs
  obtain ⟨it, fp, tn, J, H2, e, I2, T, st2, f2, W, ⟨m0, w0⟩, turn⟩ := h2
  subst e
  have stat : ∀ {H' : Hp}, (∀ b ∈ fp, H' b = none) → ∀ b ∈ fp, FpOk X pins H' b := fun hn b hb => ⟨hn b hb, (f2 b hb).2⟩
  refine codeAny_forLoop_any (fun n s' => ∃ i σ' H', Inv X pins σ' H' s' ∧ tn i s'.heap ∧ (∀ b ∈ fp, H' b = none) ∧ W i n σ' H') ?_ m0 ⟨0, σ, H2, I2, st2, fun b hb => (f2 b hb).1, w0⟩
  rintro n s3 ⟨i, σ3, H3, I3, st3, fr3, w3⟩
  rcases turn i n σ3 H3 w3 with ⟨stop, qn⟩ | ⟨go, N, hN, step⟩
  · refine wpAny_passesOwn hp (thn (T.done X rfl rfl rfl hc i pins s3 σ3 H3 X.xe I3 (stat fr3) st3 stop) fun r s4 ⟨hr, I4⟩ => ?_)
    subst hr
    exact wpAny_execs_nil ⟨σ3, H3, I4, qn⟩
  · refine wpAny_passesOwn hp (thn (T.item X rfl rfl rfl hc i pins s3 σ3 H3 X.xe I3 (stat fr3) st3 go) fun r s4 ⟨u, hr, h4⟩ => ?_)
    subst hr
    refine wpAny_passesOwn hp (thn h4 fun _ s5 ⟨x, H5, I5, r5, y5, st5, fr5⟩ => ?_)
    have I5' := I5.pinned (stat fr5) (T.obj _ _ st5)
    refine wpAny_passesOwn hp (thn (hg _ s5 σ3 H5 x u _ I5' r5 (step x H5 y5)) fun _ s6 ⟨σ6, H6, I6, q6⟩ => ?_)
    refine wpAny_passesOwn hp (thn (hb _ s6 σ6 H6 _ I6 q6) fun f s7 q7 => ?_)
    have again : ∀ {σ7 : St} {H7 : Hp}, Inv X (pins ++ pinsAt fp s5.heap) σ7 H7 s7 → N σ7 H7 → ∃ m, m < n ∧ ∃ i σ' H', Inv X pins σ' H' s7 ∧ tn i s7.heap ∧ (∀ b ∈ fp, H' b = none) ∧ W i m σ' H' := fun {σ7 H7} I7 n7 => by
      obtain ⟨m', hm, w7⟩ := hN σ7 H7 n7
      refine ⟨m', hm, i + 1, σ7, H7, I7.unpinned, T.keep _ _ _ st5 fun b hb o e => (I7.pin (b, o) (List.mem_append_right _ (List.mem_append_right _ (mem_pinsAt hb e)))).1, fun b hb => ?_, w7⟩
      obtain ⟨o, e, d⟩ := T.obj _ _ st5 b hb
      exact (I7.pin (b, o) (List.mem_append_right _ (List.mem_append_right _ (mem_pinsAt hb e)))).2.1
    cases f with
    | next => obtain ⟨σ7, H7, I7, n7⟩ := q7; exact again I7 n7
    | cont => obtain ⟨σ7, H7, I7, n7⟩ := q7; exact again I7 n7
    | brk => obtain ⟨σ7, H7, I7, q7⟩ := q7; exact ⟨σ7, H7, I7.unpinned, q7⟩
    | ret v => obtain ⟨x7, σ7, H7, I7, r7, q7⟩ := q7; exact ⟨x7, σ7, H7, I7.unpinned, r7, q7⟩
/-! ### methods -/
theorem peP_bm0 {T id : String} {name : Str} {r : V → List V → Hp → VK → Prop} (pa : PlainAttrs T) (slot : Slot T name id) (hty : typeOf (.builtin id) = pure (.type "method_descriptor")) (hm : MtR X id r) (ho : PEP X o to)
    (hbase : attributeBase o name X.env (eval o X.env) = eval o X.env := by rfl) (hline : (apos.endLine == cpos.line) = true := by rfl) : PEP X (.Call (.Attribute o name apos) [] [] cpos) (tBM0 X.K T r to) := by
  intro pins s σ H Q hp I h
  refine wpAny_Call_method0_late hbase hline (thn (ho pins s σ H _ hp I h) fun v s1 ⟨x, H1, I1, r1, ty, q1⟩ => ?_)
  obtain ⟨h1, h2⟩ := tyV_is I1 r1 ty
  exact ⟨T, id, pa, slot, hty, h1, h2, Calls.callWith_builtin rfl (PySem.evalArgs_none (hm pins s1 σ H1 x [] v [] Q I1 r1 .nil q1))⟩
/-- a text's replace with two written texts -/
def tRepl (y z : Str) (to : TE) : TE := fun σ H Q => to σ H fun x H1 => ∃ w, x = .str w ∧ w.length ≤ 1048576 ∧ Q (.str (Txt.replace w y z)) H1
theorem peP_repl {y z : Str} {j1 j2 : Nat} {c1 c2 : Pos} (hyz : (y == z) = false) (hz : z.length ≤ 14) (ho : PEP X o to)
    (hbase : attributeBase o "replace" X.env (eval o X.env) = eval o X.env := by rfl) (hline : (apos.endLine == cpos.line) = true := by rfl) :
    PEP X (.Call (.Attribute o "replace" apos) [.Constant (.str y) j1 c1, .Constant (.str z) j2 c2] [] cpos) (tRepl y z to) := by
  intro pins s σ H Q hp I h
  refine wpAny_Call_method_late hbase rfl hline rfl (thnP hp (ho pins s σ H _ hp I h) fun v s1 hp1 ⟨x, H1, I1, r1, q1⟩ => ?_)
  obtain ⟨w, rfl, hw, q1⟩ := q1
  obtain ⟨t, rfl⟩ := r1
  refine ⟨"str", "str.replace", PySem.F.plainAttrs_str, PySem.F.slot_str_replace, PySem.F.type_str_replace, typeIs_str s1 w t, (fun a e => by cases e), ?_⟩
  refine Calls.callWith_builtin rfl (Calls.evalArgs_plain ?_)
  show wpAny _ _ (spliced ((false, eval (.Constant (.str y) j1 c1) X.env) :: (false, _) :: [])) _ _ s1
  refine Calls.spliced_cons (Calls.Constant_str ?_)
  refine Calls.spliced_cons ?_
  refine (?_ : wpAny _ _ (eval (.Constant (.str z) j2 c2) X.env) _ _ _)
  refine Calls.Constant_str (Calls.spliced_nil ?_)
  refine SC.replaceW (show s1.toks ≠ 0 by omega) (show s1.toks + 1 ≠ 0 by omega) (show s1.toks ≠ s1.toks + 1 by omega) hyz hw hz fun t' k => ?_
  exact ⟨.str _, H1, (I1.tok k), ⟨_, rfl⟩, q1⟩
/-! ### calls -/
def FnOkP (P : Program) (w : World) (K : PySem.W.Frag) (mg : Str → Option Value) (base : Heap) (CX : CXT) (k : Nat) (f : Addr) (fd : FuncData) (ps : List Str) (sp : Sp) : Prop :=
  (∀ vs H Q E, sp vs H Q E → vs.length = ps.length) ∧
  ∀ (A : Around) (outer : List Env) (s : Shared) (H : Hp) (args : Args) (us : List Value) (vs : List V) (Q : VK) (E : XK), 1 ≤ s.toks → Room k A → Env0 P w K mg base A outer s H → BindsTo s fd args (ps.zip us) → Vals vs us → sp vs H Q E →
    codeAny (model P w) A (.call (.ref f) args) (CR CX outer P w H s Q E) s
theorem peP_call {CX : CXT} {k : Nat} {f : Addr} {fd : FuncData} {ps : List Str} {sp : Sp} {dvs : List V} {ds : List Value} {E : XK} {x : Str} {es : List Expr} {ta : TA} (F : FnOkP X.prog X.w X.K X.mg X.base CX k f fd ps sp) (hr : Room k X.A) (hg : Gl X x) (hm : X.mg x = some (.ref f)) (hk : PySem.W.keepIn X.K (.ref f) = true) (hb : Binds X.K fd ps ds) (hd : Vals dvs ds) (hx : Passes CX X E)
    (ha : PA X (e :: es) ta) (hdb : (x == ("__debug__" : Str)) = false := by decide) (he : starEach (e :: es) X.env = (false, eval e X.env) :: starEach es X.env := by rfl) (hpl : (backTo pos (starEach es X.env)).any (·.1) = false := by rfl) :
    PEP X (.Call (.Name x p) (e :: es) [] pos) (tCall sp dvs E ta) := by
  intro pins s σ H Q hp I h
  refine wpAny_Call_Name_kw (ld_glob I hg hm ?_ hdb)
  refine PySem.W.callWith_K (h₀ := X.base) I.ok.mod.kin hk (thnP hp (ha pos pins s σ H _ I h) fun us s1 hp1 ⟨vs, H1, I1, r, q⟩ => ⟨I1.kIn, ?_⟩) he hpl
  have r2 : Vals (vs ++ dvs) (us ++ ds) := r.append hd
  have hl : (us ++ ds).length = ps.length := by rw [← r2.length]; exact F.1 _ _ _ _ q
  refine wpAny_call (codeAny_mono (F.2 X.A X.stack s1 H1 ⟨us, []⟩ (us ++ ds) (vs ++ dvs) Q E hp1 hr I1.env0 (hb s1 us I1.kIn hl) r2 q) fun r s' hq => ?_)
  cases r with
  | error e => exact hx pins σ H1 s1 e s' I1 hq
  | ok fl =>
    cases fl with
    | ret u => exact I1.after hq
    | next => exact False.elim hq
    | brk => exact False.elim hq
    | cont => exact False.elim hq
end
theorem FnOkP.calm {P : Program} {w : World} {K : PySem.W.Frag} {mg : Str → Option Value} {base : Heap} {k : Nat} {f : Addr} {fd : FuncData} {ps : List Str} {sp : Sp} (F : FnOkP P w K mg base CX0 k f fd ps sp) : FnOkP P w K mg base (CXR P w) k f fd ps sp :=
  ⟨F.1, fun A outer s H args us vs Q E hp hr e0 hb r h => codeAny_mono (F.2 A outer s H args us vs Q E hp hr e0 hb r h) fun r s' q => by
    cases r with
    | error e => exact (show False from q).elim
    | ok fl => cases fl <;> exact q⟩
/-- a def by its body, from states with tokens -/
theorem Fun.okP {P : Program} {w : World} {K : PySem.W.Frag} {mg : Str → Option Value} {base : Heap} {x qual : Str} {st : Stmt} {f : Addr} {fd : FuncData} {N ps : List Str} {k : Nat} {sp : Sp} (F : Fun K x qual st f fd) (S : FnScope N ps (defScope st)) (len : ∀ vs H Q E, sp vs H Q E → vs.length = ps.length)
    (hbody : ∀ (cdv : Value) (A : Around) (outer : List Env) (s : Shared) (H : Hp) (vs : List V) (Q : VK) (E : XK), Room k (A.deeper (envOfC qual (defScope st) s.heap.objs.size f cdv)) → sp vs H Q E →
      ∃ t, PSsP (cxOf CX0 P w K mg base N qual (defScope st) f cdv A outer s H E).nox (defBody st) t ∧ t { nx := fun _ H' => Q .non H', rt := Q } (start N vs) H) : FnOkP P w K mg base CX0 (k + 1) f fd ps sp := by
  obtain ⟨oc, od, kV, doc, pm, an, cdv, ct, osl, rfl, lk, hcd⟩ := F.ex
  refine ⟨len, fun A outer s H args us vs Q E hp hr e0 hb r hsp => ?_⟩
  have hl := len _ _ _ _ hsp
  have KX : K.In s.heap := e0.mod.kin.keeps fun b o e => (e0.bs b o e).1
  have lim : s.heap.NoLimit := e0.mod.nolimit.keeps fun b o e => (e0.bs b o e).1
  have hkind : ∀ y ∈ ps.zip us, (defScope st).names.lookup y.1 = some .local ∨ ((defScope st).names.lookup y.1 = some .cell ∧ ((cellsFrom (s.heap.objs.size + 1) (defScope st).names []).lookup y.1).isSome = true) := fun ⟨n, v⟩ hy => by
    rcases S.par n (List.of_mem_zip hy).1 with q | q
    · exact .inl q
    · exact .inr ⟨q, PySem.W.cellsFrom_some _ _ _ (.inl q)⟩
  refine codeAny_call_function hr.depth (KX _ _ lk) rfl S.co S.gen rfl (PySem.W.codeRec_of KX hcd) (hb _ _ _ _ ?_)
  refine wpAny_with_toks hp (wpAny_newFunctionEnv_cells S.kind hkind fun env he s1 x hp1 => ?_)
  subst he
  refine ⟨lim.keeps x.toInCall.keep, codeAny_func ?_⟩
  obtain ⟨t, ht, hq⟩ := hbody cdv A outer s H vs Q E (hr.deeper _) hsp
  have I : Inv (cxOf CX0 P w K mg base N qual (defScope st) f cdv A outer s H E) [] (start N vs) H s1 := inv_start S hr.hd e0 hl r x
  refine wpAny_mono (ht [] s1 (start N vs) H _ hp1 (I.wish _) hq) (fun fl s' hs => ?_) fun e s' hs => (show False from hs).elim
  have fin : ∀ {σ' : St} {H' : Hp} {v : V} {u : Value}, Inv (cxOf CX0 P w K mg base N qual (defScope st) f cdv A outer s H E).nox [] σ' H' s' → RelV v u → Q v H' → CE outer P w H s Q u s' :=
    fun {σ' H' v u} J rv q => ⟨v, H', J.os, J.bare, J.base, J.hok, rv, q⟩
  cases fl with
  | ret u =>
    obtain ⟨v, σ', H', J, rv, q⟩ := hs
    exact fin J rv q
  | next =>
    obtain ⟨σ', H', J, q⟩ := hs
    exact fin (v := V.non) (u := Value.none) J rfl q
  | brk =>
    obtain ⟨_, _, _, q⟩ := hs
    exact False.elim q
  | cont =>
    obtain ⟨_, _, _, q⟩ := hs
    exact False.elim q
/-! ### into states with tokens -/
def PSS (X : Cx) (st : Stmt) (t : TS) : Prop :=
  ∀ (pins : List (Addr × Obj)) (s : Shared) (σ : St) (H : Hp) (D : Ends), Inv X pins σ H s → t D σ H → wpAny (model X.prog X.w) X.A (exec st X.env) (fun f s' => 1 ≤ s'.toks ∧ SP X pins D f s') X.xe s
def PSsS (X : Cx) (st : List Stmt) (t : TS) : Prop :=
  ∀ (pins : List (Addr × Obj)) (s : Shared) (σ : St) (H : Hp) (D : Ends), Inv X pins σ H s → t D σ H → wpAny (model X.prog X.w) X.A (execs st X.env) (fun f s' => 1 ≤ s'.toks ∧ SP X pins D f s') X.xe s
def PTS (X : Cx) (e : Expr) (t : TT) : Prop :=
  ∀ (pins : List (Addr × Obj)) (s : Shared) (σ : St) (H : Hp) (Q : Bool → Hp → Prop), Inv X pins σ H s → t σ H Q → wpAny (model X.prog X.w) X.A (isTrue e X.env (eval e X.env)) (fun b s' => 1 ≤ s'.toks ∧ TP X pins σ Q b s') X.xe s
def PES (X : Cx) (e : Expr) (t : TE) : Prop :=
  ∀ (pins : List (Addr × Obj)) (s : Shared) (σ : St) (H : Hp) (Q : VK), Inv X pins σ H s → t σ H Q → wpAny (model X.prog X.w) X.A (eval e X.env) (fun v s' => 1 ≤ s'.toks ∧ EP X pins σ Q v s') X.xe s
section
variable {X : Cx} {st : Stmt} {rest : List Stmt} {t u : TS} {e a b : Expr} {te ta tb : TE} {pos p : Pos}
/-- behind a state with tokens, all keep them -/
theorem thnS {α : Type} {t : Sem α} {Q Q' : α → Shared → Prop} {M : Model} {A : Around} {E : Value → Shared → Prop} {s : Shared} (hp : 1 ≤ s.toks) (h : wpAny M A t Q E s) (hQ : ∀ a s, Q a s → Q' a s) : wpAny M A t (fun a s => 1 ≤ s.toks ∧ Q' a s) E s :=
  thnP hp h fun a s p q => ⟨p, hQ a s q⟩
theorem psS_int {i : Nat} {x : Str} {n : Int} {j : Nat} {pos' pc : Pos} (hN : X.N.Nodup) (hi : X.N[i]? = some x) (hx : Loc X.env.scope x) (hs : swapsWith (.Constant (.int n) j pc) (some (.Name x pos')) pos.line X.env = pure false := by rfl) (hf : X.fn x = true ∨ X.env.scope.names.lookup x = some .local := by first | exact .inl rfl | exact .inr rfl | assumption) :
    PSS X (.Assign [.Name x pos'] (.Constant (.int n) j pc) pos) (tAsg (tC (.int n)) (gName i)) := by
  intro pins s σ H D I h
  refine wpAny_Assign_Name (wpAny_Constant_int ?_) hs
  refine thnS (s := { s with toks := s.toks + 1 }) (Nat.succ_le_succ (Nat.zero_le _)) (store_ok (Q := fun _ s' => SP X pins D .next s') (I.tok _) hN hi hx (show RelV (.int n) (.int n s.toks) from ⟨_, rfl⟩) (fun s2 I2 => ⟨_, H, I2, h⟩) hf) fun _ _ q => q
theorem pssS_cons (h1 : PS X st t) (h2 : PSsS X rest u) (hret : ∀ D σ H, tSeq t u D σ H → t { nx := u D, rt := fun _ _ => False, bk := fun _ _ => False, ct := fun _ _ => False } σ H) : PSsS X (st :: rest) (tSeq t u) := by
  intro pins s σ H D I h
  refine wpAny_execs_cons (thn (h1 pins s σ H _ I (hret D σ H h)) fun f s1 q => ?_)
  cases f with
  | next =>
    obtain ⟨σ', H', I', q⟩ := q
    exact h2 pins s1 σ' H' D I' q
  | ret v => obtain ⟨_, _, _, _, _, z⟩ := q; exact z.elim
  | brk => obtain ⟨_, _, _, z⟩ := q; exact z.elim
  | cont => obtain ⟨_, _, _, z⟩ := q; exact z.elim
theorem pssS_first (h1 : PSS X st t) (h2 : PSs X rest u) : PSsS X (st :: rest) (tSeq t u) := by
  intro pins s σ H D I h
  refine wpAny_execs_cons (thn (h1 pins s σ H { D with nx := u D } I h) fun f s1 ⟨hp, q⟩ => ?_)
  cases f with
  | next =>
    obtain ⟨σ', H', I', q⟩ := q
    exact thnS hp (h2 pins s1 σ' H' D I' q) fun _ _ q => q
  | ret v => exact ⟨hp, q⟩
  | brk => exact ⟨hp, q⟩
  | cont => exact ⟨hp, q⟩
/-- a block whose first statement brings tokens and whose rest wants them -/
theorem pss_SP (h1 : PSS X st t) (h2 : PSsP X rest u) : PSs X (st :: rest) (tSeq t u) := by
  intro pins s σ H D I h
  refine wpAny_execs_cons (thn (h1 pins s σ H { D with nx := u D } I h) fun f s1 ⟨hp, q⟩ => ?_)
  cases f with
  | next =>
    obtain ⟨σ', H', I', q⟩ := q
    exact h2 pins s1 σ' H' D hp I' q
  | ret v => exact q
  | brk => exact q
  | cont => exact q
theorem psS_if {c : Expr} {x y : List Stmt} {tc : TT} (hc : PTS X c tc) (ha : PSs X x t) (hb : PSs X y u) : PSS X (.If c x y pos) (tIfS tc t u) := by
  intro pins s σ H D I h
  refine wpAny_If (thn (hc pins s σ H _ I h) fun d s1 ⟨hp, H1, I1, q1⟩ => ?_)
  cases d with
  | true => exact thnS hp (ha pins s1 σ H1 D I1 q1) fun _ _ q => q
  | false => exact thnS hp (hb pins s1 σ H1 D I1 q1) fun _ _ q => q
theorem ptS_cmpR {op : CmpOp} {r : R2} (ho : OpR X (compareOp op) r) (ha : PES X a ta) (hb : PE X b tb) (hm : behindInMarks op b = false) : PTS X (.Compare a [op] [b] pos) (tTest (tOp r ta tb)) := by
  intro pins s σ H Q I h
  refine wpAny_isTrue_Compare1 (thn (ha pins s σ H _ I h) fun v s1 ⟨hp, x, H1, I1, r1, q1⟩ => thnP hp (hb pins s1 σ H1 _ I1 q1) fun u s2 hp2 ⟨y, H2, I2, r2, q2⟩ =>
    thnP hp2 (ho pins s2 σ H2 x y v u _ I2 r1 r2 q2) fun c s3 hp3 ⟨z, H3, I3, r3, k, e, q3⟩ => ?_) hm
  subst e
  cases r3
  exact wpAny_truthy_bool ⟨hp3, H3, I3, q3⟩
def FnOkS (P : Program) (w : World) (K : PySem.W.Frag) (mg : Str → Option Value) (base : Heap) (k : Nat) (f : Addr) (fd : FuncData) (ps : List Str) (sp : Sp) : Prop :=
  (∀ vs H Q E, sp vs H Q E → vs.length = ps.length) ∧
  ∀ (A : Around) (outer : List Env) (s : Shared) (H : Hp) (args : Args) (us : List Value) (vs : List V) (Q : VK) (E : XK), Room k A → Env0 P w K mg base A outer s H → BindsTo s fd args (ps.zip us) → Vals vs us → sp vs H Q E →
    codeAny (model P w) A (.call (.ref f) args) (fun r s' => 1 ≤ s'.toks ∧ CR CX0 outer P w H s Q E r s') s
theorem FnOkS.ok {P : Program} {w : World} {K : PySem.W.Frag} {mg : Str → Option Value} {base : Heap} {k : Nat} {f : Addr} {fd : FuncData} {ps : List Str} {sp : Sp} (F : FnOkS P w K mg base k f fd ps sp) : FnOk P w K mg base CX0 k f fd ps sp :=
  ⟨F.1, fun A outer s H args us vs Q E hr e0 hb r h => codeAny_mono (F.2 A outer s H args us vs Q E hr e0 hb r h) fun _ _ q => q.2⟩
theorem peS_call {k : Nat} {f : Addr} {fd : FuncData} {ps : List Str} {sp : Sp} {dvs : List V} {ds : List Value} {E : XK} {x : Str} {es : List Expr} {tA : TA} (F : FnOkS X.prog X.w X.K X.mg X.base k f fd ps sp) (hr : Room k X.A) (hg : Gl X x) (hm : X.mg x = some (.ref f)) (hk : PySem.W.keepIn X.K (.ref f) = true) (hb : Binds X.K fd ps ds) (hd : Vals dvs ds)
    (ha : PA X (e :: es) tA) (hdb : (x == ("__debug__" : Str)) = false := by decide) (he : starEach (e :: es) X.env = (false, eval e X.env) :: starEach es X.env := by rfl) (hpl : (backTo pos (starEach es X.env)).any (·.1) = false := by rfl) :
    PES X (.Call (.Name x p) (e :: es) [] pos) (tCall sp dvs E tA) := by
  intro pins s σ H Q I h
  refine wpAny_Call_Name_kw (ld_glob I hg hm ?_ hdb)
  refine PySem.W.callWith_K (h₀ := X.base) I.ok.mod.kin hk (thn (ha pos pins s σ H _ I h) fun us s1 ⟨vs, H1, I1, r, q⟩ => ⟨I1.kIn, ?_⟩) he hpl
  have r2 : Vals (vs ++ dvs) (us ++ ds) := r.append hd
  have hl : (us ++ ds).length = ps.length := by rw [← r2.length]; exact F.1 _ _ _ _ q
  refine wpAny_call (codeAny_mono (F.2 X.A X.stack s1 H1 ⟨us, []⟩ (us ++ ds) (vs ++ dvs) Q E hr I1.env0 (hb s1 us I1.kIn hl) r2 q) fun r s' ⟨hp, hq⟩ => ?_)
  cases r with
  | error e => exact (show False from hq).elim
  | ok fl =>
    cases fl with
    | ret u => exact ⟨hp, I1.after hq⟩
    | next => exact False.elim hq
    | brk => exact False.elim hq
    | cont => exact False.elim hq
end
theorem Fun.okS {P : Program} {w : World} {K : PySem.W.Frag} {mg : Str → Option Value} {base : Heap} {x qual : Str} {st : Stmt} {f : Addr} {fd : FuncData} {N ps : List Str} {k : Nat} {sp : Sp} (F : Fun K x qual st f fd) (S : FnScope N ps (defScope st)) (len : ∀ vs H Q E, sp vs H Q E → vs.length = ps.length)
    (hbody : ∀ (cdv : Value) (A : Around) (outer : List Env) (s : Shared) (H : Hp) (vs : List V) (Q : VK) (E : XK), Room k (A.deeper (envOfC qual (defScope st) s.heap.objs.size f cdv)) → sp vs H Q E →
      ∃ t, PSsS (cxOf CX0 P w K mg base N qual (defScope st) f cdv A outer s H E).nox (defBody st) t ∧ t { nx := fun _ H' => Q .non H', rt := Q } (start N vs) H) : FnOkS P w K mg base (k + 1) f fd ps sp := by
  obtain ⟨oc, od, kV, doc, pm, an, cdv, ct, osl, rfl, lk, hcd⟩ := F.ex
  refine ⟨len, fun A outer s H args us vs Q E hr e0 hb r hsp => ?_⟩
  have hl := len _ _ _ _ hsp
  have KX : K.In s.heap := e0.mod.kin.keeps fun b o e => (e0.bs b o e).1
  have lim : s.heap.NoLimit := e0.mod.nolimit.keeps fun b o e => (e0.bs b o e).1
  have hkind : ∀ y ∈ ps.zip us, (defScope st).names.lookup y.1 = some .local ∨ ((defScope st).names.lookup y.1 = some .cell ∧ ((cellsFrom (s.heap.objs.size + 1) (defScope st).names []).lookup y.1).isSome = true) := fun ⟨n, v⟩ hy => by
    rcases S.par n (List.of_mem_zip hy).1 with q | q
    · exact .inl q
    · exact .inr ⟨q, PySem.W.cellsFrom_some _ _ _ (.inl q)⟩
  refine codeAny_call_function hr.depth (KX _ _ lk) rfl S.co S.gen rfl (PySem.W.codeRec_of KX hcd) (hb _ _ _ _ ?_)
  refine wpAny_newFunctionEnv_cells S.kind hkind fun env he s1 x => ?_
  subst he
  refine ⟨lim.keeps x.toInCall.keep, codeAny_func ?_⟩
  obtain ⟨t, ht, hq⟩ := hbody cdv A outer s H vs Q E (hr.deeper _) hsp
  have I : Inv (cxOf CX0 P w K mg base N qual (defScope st) f cdv A outer s H E) [] (start N vs) H s1 := inv_start S hr.hd e0 hl r x
  refine wpAny_mono (ht [] s1 (start N vs) H _ (I.wish _) hq) (fun fl s' hs => ?_) fun e s' hs => (show False from hs).elim
  obtain ⟨hp, hs⟩ := hs
  have fin : ∀ {σ' : St} {H' : Hp} {v : V} {u : Value}, Inv (cxOf CX0 P w K mg base N qual (defScope st) f cdv A outer s H E).nox [] σ' H' s' → RelV v u → Q v H' → CE outer P w H s Q u s' :=
    fun {σ' H' v u} J rv q => ⟨v, H', J.os, J.bare, J.base, J.hok, rv, q⟩
  cases fl with
  | ret u =>
    obtain ⟨v, σ', H', J, rv, q⟩ := hs
    exact ⟨hp, fin J rv q⟩
  | next =>
    obtain ⟨σ', H', J, q⟩ := hs
    exact ⟨hp, fin (v := V.non) (u := Value.none) J rfl q⟩
  | brk =>
    obtain ⟨_, _, _, q⟩ := hs
    exact False.elim q
  | cont =>
    obtain ⟨_, _, _, q⟩ := hs
    exact False.elim q
/-! ### split() -/
section
variable {X : Cx}
def rSplit0 : V → List V → Hp → VK → Prop := fun x vs H Q => ∃ z, x = .str z ∧ vs = [] ∧ z.length ≤ 1000000 ∧ ∀ l, H l = none → Q (.ref l) (upd H l (.lst ((Txt.words z).map V.str)))
theorem strs_vals : ∀ {l : List (Str × Tok)}, Vals ((l.map (·.1)).map V.str) (strValues l)
  | [] => .nil
  | (z, t) :: l => .cons ⟨t, rfl⟩ (strs_vals (l := l))
open Builtin Builtin.Str in
theorem mt_split0 : MtR X "str.split" rSplit0 := by
  intro pins s σ H x vs v us Q I rx rv h
  obtain ⟨z, rfl, rfl, hz, q⟩ := h
  obtain ⟨t, rfl⟩ := rx
  have hus := Vals.zero rv
  subst hus
  have hwl : (Txt.words z).length ≤ 1000001 := by
    have := StrLaws.words_weight z
    omega
  have hsw : (spaceWords z (z.length + 1)).length ≤ 1000001 := by
    have h1 := (StrLaws.sw_weight z).1
    have h2 : ∀ l : List (Nat × Nat), l.length ≤ StrLaws.wsum l := by
      intro l
      induction l with
      | nil => exact Nat.zero_le _
      | cons p r ih => simp only [StrLaws.wsum, List.map_cons, List.sum_cons, List.length_cons] at ih ⊢; omega
    have h3 := h2 (spaceWords z (z.length + 1))
    omega
  have fin : ∀ (l : List (Str × Tok)) (k : Nat), l.map (·.1) = Txt.words z → EP X pins σ Q (.ref s.heap.objs.size) { s with heap := s.heap.push { cls := .type "list", data := .seq (strValues l).toArray }, toks := k } := fun l k e => by
    have sv := strs_vals (l := l)
    rw [e] at sv
    exact ⟨.ref _, _, I.lnew (t' := k) sv (by rw [List.length_map]; exact Nat.le_trans hwl (by decide)), rfl, q _ I.fresh⟩
  refine call_meets F.slot_str_split (typeIs_str _ _ _) F.entry_str_split (F.args_str_split_1 _) (meets_str_split_space z t (Nat.le_trans hz (by decide)) (Nat.le_trans hsw (by decide))) ?_
  cases hw : spaceWords z (z.length + 1) == [(0, z.length)]
  · simp only [Bool.false_eq_true, if_false]
    rw [strsFrom_eq]
    exact fin (numbered s.toks (wordsOf z)) _ ((numbered_texts _ _).trans (if_neg (ne_true_of_eq_false hw)).symm)
  · simp only [if_true]
    exact fin [(z, t)] s.toks (if_pos hw).symm
end
end L2

set_option Elab.async false
set_option linter.all false
set_option maxRecDepth 100000
set_option maxHeartbeats 1000000
/-! int(a number's line); the pieces of a line as texts; the states as texts. -/
namespace L2
open PySem PySem.Spec PyProof.Rows
theorem int_line (i : Int) (h : (NN.line i).length ≤ 640) : PySem.intText? (tx (NN.line i)) = some i := by
  have hl : (tx (NN.line i)).length ≤ 4300 := by rw [tx_len]; omega
  have dig : ∀ n : Nat, PySem.NumText.AllDigits (NN.figs n) := fun n c hc => by
    have z := NN.fig_iff.mp (List.all_eq_true.mp (NN.figs_all n) c hc)
    exact z
  have ne : ∀ n : Nat, NN.figs n ≠ [] := fun n e => by
    obtain ⟨A, d, e2, _⟩ := NN.figs_snoc n
    rw [e2] at e
    simp at e
  have back : ∀ n : Nat, PySem.NumText.digitsVal (NN.figs n) = n := fun n => PySem.W.KIN.val_back n
  by_cases hi : i < 0
  · have e : (tx (NN.line i)).cps.toList = 45 :: NN.figs i.natAbs := by
      show NN.line i = _
      unfold NN.line
      rw [if_pos hi]
    rw [PySem.intText_neg e (dig _) (ne _) hl, back]
    congr 1
    omega
  · have e : (tx (NN.line i)).cps.toList = NN.figs i.natAbs := by
      show NN.line i = _
      unfold NN.line
      rw [if_neg hi]
    have q := PySem.intText_digits (x := tx (NN.line i)) (by rw [e]; exact dig _) (by rw [e]; exact ne _) hl
    rw [q, e, back]
    congr 1
    omega
theorem call_int_line {X : Cx} : CallR X (.type "int") (fun xs H Q => ∃ i, xs = [.str (tx (NN.line i))] ∧ (NN.line i).length ≤ 640 ∧ Q (.int i) H) := by
  intro pins s σ H xs us Q I r h
  obtain ⟨i, rfl, hl, q⟩ := h
  obtain ⟨u, rfl, t, rfl⟩ := vals1 r
  exact PySem.W.KIN.call_text (int_line i hl) (by rw [tx_len]; exact hl) ⟨.int i, H, I.tok _, ⟨_, rfl⟩, q⟩
/-- the pieces of a thing's line -/
theorem cut_line (t : NN.T) (h : t.wf) : Txt.words (Txt.replace (Txt.replace (tx t.line) "[" "[ ") "]" " ]") = (NN.toks t).map fun k => tx k.txt := by
  have e1 : ("[" : Str) = ⟨#[91]⟩ := by decide +kernel
  have e2 : ("]" : Str) = ⟨#[93]⟩ := by decide +kernel
  have e3 : ("[ " : Str).cps.toList = [91, 32] := by decide +kernel
  have e4 : (" ]" : Str).cps.toList = [32, 93] := by decide +kernel
  have ec : (Txt.replace (Txt.replace (tx t.line) "[" "[ ") "]" " ]").cps.toList = t.line.flatMap NN.sg := by
    rw [e1, e2, StrLaws.replace_subst, StrLaws.replace_subst, e3, e4]
    exact NN.subst2 t.line
  have hsp : ∀ c ∈ (Txt.replace (Txt.replace (tx t.line) "[" "[ ") "]" " ]").cps.toList, Unicode.isSpace c = decide (c = 32) := by
    rw [ec]
    intro c hc
    obtain ⟨d, hd, hcd⟩ := List.mem_flatMap.mp hc
    have good := NN.line_signs t h d hd
    have gc : c = 32 ∨ c = 91 ∨ c = 93 ∨ c = 45 ∨ (48 ≤ c ∧ c ≤ 57) ∨ (97 ≤ c ∧ c ≤ 122) := by
      unfold NN.sg at hcd
      split at hcd
      · simp at hcd; omega
      · split at hcd
        · simp at hcd; omega
        · simp at hcd; subst hcd; omega
    exact NN.space_of gc
  have q := words_codes _ hsp
  rw [ec, NN.words_line t h, ← NN.toks_txt] at q
  have inj : ∀ (ws : List Str) (ls : List (List Nat)), ws.map (fun w => w.cps.toList) = ls → ws = ls.map tx := by
    intro ws
    induction ws with
    | nil => intro ls e; cases ls <;> simp_all
    | cons w ws ih =>
      intro ls e
      cases ls with
      | nil => simp at e
      | cons l ls =>
        simp only [List.map_cons, List.cons.injEq] at e ⊢
        exact ⟨str_tx e.1, ih ls e.2⟩
  rw [inj _ _ q, List.map_map]
  rfl
/-! ### states -/
def stS : Nat → Str
  | 0 => "start"
  | 1 => "opened"
  | 2 => "closed"
  | 3 => "minus"
  | 4 => "nought"
  | 5 => "number"
  | _ => "word"
theorem st_ne : ∀ j k : Fin 7, stS j.val = stS k.val → j = k := by decide +kernel
theorem st_eq {j k : Nat} (hj : j ≤ 6) (hk : k ≤ 6) : decide (V.str (stS j) = V.str (stS k)) = decide (j = k) := by
  by_cases h : j = k
  · subst h; simp
  · rw [decide_eq_false h, decide_eq_false]
    intro e
    have := st_ne ⟨j, by omega⟩ ⟨k, by omega⟩ (V.str.inj e)
    exact h (congrArg Fin.val this)
def stV (o : Option Nat) : V := match o with
  | none => .non
  | some k => .str (stS k)
end L2

set_option Elab.async false
set_option linter.all false
set_option maxRecDepth 100000
set_option maxHeartbeats 16000000
namespace K5
open PySem L2
def top (i : Nat) : Stmt := PySem.Challenge.pw_nestnote_k05_first_fault.main.body.getD i (.Pass ⟨0, 0, 0, 0⟩)
abbrev s_is_number : Stmt := top 7
abbrev s_is_made_of : Stmt := top 8
abbrev s_read : Stmt := top 17
abbrev s_fault : Stmt := top 18
abbrev s_ends_thing : Stmt := top 19
abbrev s_state_behind : Stmt := top 20
abbrev s_state_behind_first : Stmt := top 21
abbrev s_state_behind_thing : Stmt := top 22
abbrev s_thing_of : Stmt := top 23
abbrev s_pieces_of : Stmt := top 24
abbrev s_leaf_of : Stmt := top 25
abbrev s_whole : Stmt := top 27
abbrev s_at : Stmt := top 28
abbrev s_word_of : Stmt := top 29
abbrev s_number_of : Stmt := top 30
abbrev s_written : Stmt := top 31
abbrev s_spoilt : Stmt := top 32
abbrev s_some_line : Stmt := top 33
abbrev s_one_of : Stmt := top 34
abbrev s_may_stand : Stmt := top 35
abbrev s_due : Stmt := top 36
abbrev s_any_word : Stmt := top 37
abbrev s_marks : Stmt := top 38
abbrev s_base_tells : Stmt := top 39
abbrev s_any : Stmt := top 40
abbrev s_law : Stmt := top 41
/-- a comprehension over a text whose element is reckoned from the sign alone -/
theorem comp_str {z : Str} {te : TE} {σc : St} {H : Hp} {Q : VK} (f : Nat → V) (hz : (cod z).length ≤ 10000) (hte : ∀ c R, R (f c) H → te (some (.str ⟨#[c]⟩) :: σc) H R)
    (hQ : ∀ p, H p = none → Q (.ref p) (upd H p (.lst ((cod z).map f)))) :
    ∃ W : Nat → Nat → List V → Hp → Prop, (∃ m, W 0 m [] H) ∧ ∀ i m ys H, W i m ys H →
      ((Its z).stop i H ∧ ys.length ≤ sizeLine ∧ ∀ p, H p = none → Q (.ref p) (upd H p (.lst ys))) ∨
      ((Its z).go i H ∧ ys.length < sizeLine ∧ ∀ x H', (Its z).yld i H x H' → te (some x :: σc) H' fun v H2 => ∃ m', m' < m ∧ W (i + 1) m' (ys ++ [v]) H2) := by
  have hl : (cod z).length = z.cps.size := Array.length_toList
  refine ⟨fun i m ys H' => H' = H ∧ m = (cod z).length - i ∧ i ≤ (cod z).length ∧ ys = ((cod z).take i).map f, ⟨_, rfl, rfl, Nat.zero_le _, by simp⟩, ?_⟩
  rintro i m ys H' ⟨rfl, rfl, hi, rfl⟩
  have hy : (((cod z).take i).map f).length ≤ 10000 := by rw [List.length_map, List.length_take]; omega
  by_cases hlt : i < (cod z).length
  · refine .inr ⟨(show i < z.cps.size by omega), Nat.lt_of_le_of_lt hy (by decide), fun x H2 y => ?_⟩
    obtain ⟨e, c, hc, hx⟩ := y
    subst e hx
    refine hte c _ ⟨(cod z).length - (i + 1), by omega, rfl, rfl, hlt, ?_⟩
    have hc' : (cod z)[i]? = some c := by simpa using hc
    rw [List.take_add_one, hc', List.map_append]
    rfl
  · have e : i = (cod z).length := by omega
    refine .inl ⟨(show z.cps.size ≤ i by omega), Nat.le_trans hy (by decide), ?_⟩
    rw [List.take_of_length_le (by omega)]
    exact hQ
theorem read_comp_str {tl te : TE} {js : List Nat} {σ : St} {H : Hp} {Q : VK} {z : Str} (f : Nat → V) (hz : (cod z).length ≤ 10000) (htl : ∀ R : VK, R (.str z) H → tl σ H R) (hte : ∀ (c : Nat) (R : VK), R (f c) H → te (some (.str ⟨#[c]⟩) :: compSt js σ) H R)
    (hQ : ∀ p, H p = none → Q (.ref p) (upd H p (.lst ((cod z).map f)))) : tComp (iStr tl) js te σ H Q :=
  htl _ ⟨z, rfl, comp_str f hz hte hQ⟩
/-! ### what the defs promise -/
/-- is_made_of -/
def madeB (z a : Str) : Bool := decide (cod z ≠ []) && (cod z).all fun c => decide (c ∈ cod a)
def spMade : Sp := fun vs H Q _ => ∃ z a : Str, vs = [.str z, .str a] ∧ (cod z).length ≤ 10000 ∧ ∀ H', Same H H' → Q (.bl (madeB z a)) H'
def letters : Str := "abcdefghijklmnopqrstuvwxyz"
def figures : Str := "0123456789"
def spNumber : Sp := fun vs H Q _ => ∃ z : Str, vs = [.str z] ∧ (cod z).length ≤ 10000 ∧ ∀ H', Same H H' → Q (.bl (NN.isNum (cod z))) H'
section
variable {P : Program} {w : World} {K : PySem.W.Frag} {mg : Str → Option Value} {base : Heap} {f g : Addr} {fd gd : FuncData}
theorem empty_iff (z : Str) : decide (V.str z = V.str "") = decide (cod z = []) := by
  rw [str_eq]
  rfl
theorem scM : FnScope ["line", "allowed"] ["line", "allowed"] (defScope s_is_made_of) := ⟨rfl, rfl, rfl, by decide +kernel, rfl, by decide +kernel, by decide +kernel⟩
theorem ok_made (Fn : Fun K "is_made_of" "is_made_of" s_is_made_of f fd) (ml : mg "all" = none) : FnOk P w K mg base CX0 1 f fd ["line", "allowed"] spMade := by
  refine Fn.ok scM (fun vs H Q E h => ?_) (fun cdv A outer s H vs Q E hr h => ?_)
  · obtain ⟨z, a, rfl, _⟩ := h
    rfl
  obtain ⟨z, a, rfl, hz, q⟩ := h
  have S : CompScope (cxOf CX0 P w K mg base ["line", "allowed"] "is_made_of" (defScope s_is_made_of) f cdv A outer s H E).nox
      { kind := PySem.ScopeKind.function, names := [(PySem.Str.ofString ".0", PySem.NameKind.local), (PySem.Str.ofString "sign", PySem.NameKind.local), (PySem.Str.ofString "allowed", PySem.NameKind.free)], isGenerator := false, isCoroutine := false, more := [] }
      [("allowed", s.heap.objs.size + 1)] "sign" [1] ["allowed"] := by
    refine ⟨by rfl, rfl, by decide +kernel, by decide +kernel, rfl, fun y c h => h, ?_, by decide +kernel, rfl, ?_⟩
    · intro y hy
      have m : ∀ k, List.lookup y [(Str.ofString ".0", NameKind.local), (Str.ofString "sign", NameKind.local), (Str.ofString "allowed", NameKind.cell)] = some k → k ≠ .local → y = Str.ofString "allowed" := fun k hk nk => by
        have q := PySem.mem_of_lookup hk
        rcases List.mem_cons.mp q with z | q
        · exact absurd (congrArg Prod.snd z) nk
        · rcases List.mem_cons.mp q with z | q
          · exact absurd (congrArg Prod.snd z) nk
          · rcases List.mem_cons.mp q with z | q
            · exact congrArg Prod.fst z
            · cases q
      have e : y = Str.ofString "allowed" := by
        rcases hy with hy | hy
        · exact m _ hy (by decide)
        · exact m _ hy (by decide)
      subst e
      exact ⟨_, rfl⟩
    · intro k y hk
      match k, hk with
      | 0, hk =>
        obtain rfl : Str.ofString "allowed" = y := Option.some.inj hk
        exact ⟨1, rfl, rfl, .inr (.inl rfl), .inl rfl, .inl rfl⟩
      | k + 1, hk => cases hk
  refine ⟨_, pss_one (ps_ret (pe_and (pe_cmpR op_ne (pv 0) pe_str (nomark _)) (pe_one (pe_callB (call_all rfl) rfl ml boot_all (pa_cons (pe_comp rfl S (pi_str (pv 0)) (fun _ _ _ _ => pe_cmpR op_in_str (pv 0) (pv 1) rfl)) pa_nil))))), ?_⟩
  refine ⟨_, rfl, rfl, _, rfl, ?_⟩
  rw [empty_iff]
  refine ite2 (fun c => ?_) (fun c => ?_)
  · have c' : ¬ cod z = [] := of_decide_eq_false (by simpa using c)
    unfold tCB tCons
    refine read_comp_str (z := z) (fun c => .bl (decide (c ∈ cod a))) hz (fun R r => ⟨_, rfl, r⟩) (fun c R r => ⟨_, rfl, _, rfl, _, _, rfl, rfl, by rw [in_one]; exact r⟩) fun p hp => ?_
    refine ⟨p, _, rfl, SqL.of upd_same, fun y hy => ?_, ?_⟩
    · obtain ⟨c, _, e⟩ := List.mem_map.mp hy
      exact ⟨_, e.symm⟩
    · have e : ((cod z).map fun c => V.bl (decide (c ∈ cod a))).all boolOf = madeB z a := by
        unfold madeB
        rw [decide_eq_true (show cod z ≠ [] from c'), Bool.true_and, List.all_map]
        rfl
      rw [e]
      exact q _ (same_new hp _)
  · have c' : cod z = [] := by
      have c2 : decide (cod z = []) = true := by simpa using c
      exact of_decide_eq_true c2
    have e : madeB z a = false := by
      unfold madeB
      rw [decide_eq_false (fun n => n c')]
      rfl
    rw [← e]
    exact q _ (Same.refl _)

theorem code_minus : ("-" : Str) = ⟨#[45]⟩ := by decide +kernel
theorem code_nought : ("0" : Str) = ⟨#[48]⟩ := by decide +kernel
theorem cod_figures : cod figures = [48, 49, 50, 51, 52, 53, 54, 55, 56, 57] := by decide +kernel
theorem mem_figures (c : Nat) : decide (c ∈ cod figures) = NN.fig c := by
  rw [cod_figures, Bool.eq_iff_iff, decide_eq_true_eq, NN.fig_iff]
  simp only [List.mem_cons, List.not_mem_nil, or_false]
  omega
theorem scN : FnScope ["line", "figures"] ["line"] (defScope s_is_number) := ⟨rfl, rfl, rfl, by decide +kernel, rfl, by decide +kernel, by decide +kernel⟩
theorem made_figures (z : Str) : madeB z figures = (decide (cod z ≠ []) && (cod z).all NN.fig) := by
  unfold madeB
  congr 2
  funext c
  exact mem_figures c
theorem ok_number {tk : Tok} (Fn : Fun K "is_number" "is_number" s_is_number f fd) (G : FnOk P w K mg base CX0 1 g gd ["line", "allowed"] spMade) (bG : Binds K gd ["line", "allowed"] []) (kG : PySem.W.keepIn K (.ref g) = true) (mG : mg "is_made_of" = some (.ref g))
    (mL : mg "FIGURES" = some (.str figures tk)) : FnOk P w K mg base CX0 2 f fd ["line"] spNumber := by
  refine Fn.ok scN (fun vs H Q E h => ?_) (fun cdv A outer s H vs Q E hr h => ?_)
  · obtain ⟨z, rfl, _⟩ := h
    rfl
  obtain ⟨z, rfl, hz, q⟩ := h
  have hzl : z.length ≤ sizeLine := by rw [← cod_len]; exact small (by omega)
  refine ⟨_, pss_cons (ps_if (pt_cmpR op_eq (pv 0) pe_str (nomark _)) (pss_one (ps_ret pe_bl)) pss_nil)
    (pss_cons (ps_set (i := 1) scN.nd rfl (Or.inl rfl) (pe_ifExp (pt_val (pe_bm PySem.F.plainAttrs_str PySem.F.slot_str_startswith PySem.F.type_str_startswith mt_start (pv 0) (pa_cons pe_str pa_nil))) (pe_slice sl_str (pv 0) (po_some pe_int) po_none) (pv 0)))
    (pss_one (ps_ret (pe_and (pe_call G hr rfl mG kG bG .nil pass0 (pa_cons (pv 1) (pa_cons (pe_glob (v := .str figures) rfl mL ⟨_, rfl⟩) pa_nil)))
      (pe_one (pe_not (pe_bm PySem.F.plainAttrs_str PySem.F.slot_str_startswith PySem.F.type_str_startswith mt_start (pv 1) (pa_cons pe_str pa_nil)))))))), ?_⟩
  -- behind figures
  have hn : ∀ y : Str, cod y = NN.bare (cod z) → cod z ≠ [48] → NN.isNum (cod z) = (madeB y figures && !Txt.startswith y "0") := fun y hy h48 => by
    unfold NN.isNum
    rw [decide_eq_false h48, Bool.false_or, made_figures, hy, code_nought, starts_one, hy]
  have r1 : ∀ y : Str, cod y = NN.bare (cod z) → cod z ≠ [48] → ∀ H', Same H H' → madeB y figures = true → Q (.bl (!Txt.startswith y "0")) H' := fun y hy h48 H' e hm => by
    have q2 := q H' e
    rw [hn y hy h48, hm, Bool.true_and] at q2
    exact q2
  have r2 : ∀ y : Str, cod y = NN.bare (cod z) → cod z ≠ [48] → ∀ H', Same H H' → ¬ madeB y figures = true → Q (.bl false) H' := fun y hy h48 H' e hm => by
    have q2 := q H' e
    rw [hn y hy h48, Bool.eq_false_iff.mpr hm, Bool.false_and] at q2
    exact q2
  refine ⟨_, rfl, rfl, _, rfl, ?_⟩
  rw [str_eq]
  refine ite2 (fun c => ?_) (fun c => ?_)
  · have c' : cod z = [48] := of_decide_eq_true c
    have e : NN.isNum (cod z) = true := by rw [c']; decide
    have q2 := q H (Same.refl _)
    rw [e] at q2
    exact q2
  · have c' : cod z ≠ [48] := fun e => c (decide_eq_true e)
    refine ⟨_, rfl, rfl, z, "-", rfl, rfl, _, rfl, ?_⟩
    rw [code_minus, starts_one]
    refine ite2 (fun d => ?_) (fun d => ?_)
    · have d' : (cod z).head? = some 45 := of_decide_eq_true d
      refine ⟨_, rfl, 1, rfl, z, rfl, hzl, ?_⟩
      have hy : cod (Txt.slice z (some 1) none) = NN.bare (cod z) := by
        unfold NN.bare
        rw [if_pos d']
        exact cod_from z 1
      refine ⟨_, rfl, Txt.slice z (some 1) none, figures, rfl, ?_, fun H' e => ⟨_, rfl, ite2 (fun m => ⟨_, rfl, rfl, Txt.slice z (some 1) none, "0", rfl, rfl, _, rfl, r1 _ hy c' H' e m⟩) (fun m => r2 _ hy c' H' e m)⟩⟩
      rw [hy]; unfold NN.bare; rw [if_pos d', List.length_drop]; omega
    · have d' : ¬ (cod z).head? = some 45 := fun e => d (decide_eq_true e)
      have hy : cod z = NN.bare (cod z) := by
        unfold NN.bare
        rw [if_neg d']
      exact ⟨_, rfl, _, rfl, z, figures, rfl, hz, fun H' e => ⟨_, rfl, ite2 (fun m => ⟨_, rfl, rfl, z, "0", rfl, rfl, _, rfl, r1 _ hy c' H' e m⟩) (fun m => r2 _ hy c' H' e m)⟩⟩
end
/-! ### the program: the states -/
theorem one_eq (c d : Nat) {z : Str} (h : cod z = [d]) : decide (V.str (tx [c]) = V.str z) = decide (c = d) := by
  rw [eq_tx [c] [d] z h]
  by_cases e : c = d
  · subst e; simp
  · rw [decide_eq_false e, decide_eq_false (fun q => e (List.cons.inj q).1)]
theorem c91 : cod ("[" : Str) = [91] := by decide +kernel
theorem c93 : cod ("]" : Str) = [93] := by decide +kernel
theorem c45 : cod ("-" : Str) = [45] := by decide +kernel
theorem c48 : cod ("0" : Str) = [48] := by decide +kernel
theorem c32 : cod (" " : Str) = [32] := by decide +kernel
theorem in_fig (c : Nat) : (!(Builtin.Str.occurrences figures (tx [c]) 0 figures.length 1).isEmpty) = NN.fig c := by rw [in_tx c figures _ rfl, mem_figures]
theorem in_let (c : Nat) : (!(Builtin.Str.occurrences letters (tx [c]) 0 letters.length 1).isEmpty) = NN.letter c := by
  rw [in_tx c letters abc cod_abc, mem_abc]
theorem in_ends : ∀ k : Fin 7, inV (.str (stS k.val)) [.str (stS 2), .str (stS 4), .str (stS 5), .str (stS 6)] = decide (k.val = 2 ∨ k.val = 4 ∨ k.val = 5 ∨ k.val = 6) := by decide +kernel
theorem in_begs : ∀ k : Fin 7, inV (.str (stS k.val)) [.str (stS 0), .str (stS 1)] = decide (k.val = 0 ∨ k.val = 1) := by decide +kernel
def spEnds : Sp := fun vs H Q _ => ∃ k : Nat, vs = [.str (stS k)] ∧ k ≤ 6 ∧ ∀ H', Same H H' → Q (.bl (decide (k = 2 ∨ k = 4 ∨ k = 5 ∨ k = 6))) H'
def spFirst : Sp := fun vs H Q _ => ∃ c : Nat, vs = [.str (tx [c])] ∧ Q (stV (NN.sbFirst c)) H
def spBehind : Sp := fun vs H Q _ => ∃ c : Nat, vs = [.str (tx [c])] ∧ Q (stV (NN.sbThing c)) H
def spState : Sp := fun vs H Q _ => ∃ (c k : Nat) (d : Int), vs = [.str (tx [c]), .str (stS k), .int d] ∧ k ≤ 6 ∧ ∀ H', Same H H' → Q (stV (NN.sb k c d)) H'
section
variable {P : Program} {w : World} {K : PySem.W.Frag} {mg : Str → Option Value} {base : Heap} {f g g2 : Addr} {fd gd gd2 : FuncData} {t0 t1 t2 t3 t4 t5 t6 tF tL : Tok}
theorem sc_ends_thing : FnScope ["state"] ["state"] (defScope s_ends_thing) := ⟨rfl, rfl, rfl, by decide +kernel, rfl, by decide +kernel, by decide +kernel⟩
theorem ok_ends_thing (Fn : Fun K "ends_thing" "ends_thing" s_ends_thing f fd) (m_CLOSED : mg "CLOSED" = some (.str (stS 2) t2)) (m_NOUGHT : mg "NOUGHT" = some (.str (stS 4) t4)) (m_NUMBER : mg "NUMBER" = some (.str (stS 5) t5)) (m_WORD : mg "WORD" = some (.str (stS 6) t6)) :
    FnOk P w K mg base CX0 1 f fd ["state"] spEnds := by
  refine Fn.ok sc_ends_thing (fun vs H Q E h => ?_) (fun cdv A outer s H vs Q E hr h => ?_)
  · obtain ⟨k, rfl, _⟩ := h
    rfl
  obtain ⟨k, rfl, hk, q⟩ := h
  refine ⟨_, (pss_one (ps_ret (pe_cmpR op_in_seq (pv 0) (pe_tup (pa_cons (pe_glob (v := .str (stS 2)) rfl m_CLOSED ⟨_, rfl⟩) (pa_cons (pe_glob (v := .str (stS 4)) rfl m_NOUGHT ⟨_, rfl⟩) (pa_cons (pe_glob (v := .str (stS 5)) rfl m_NUMBER ⟨_, rfl⟩) (pa_cons (pe_glob (v := .str (stS 6)) rfl m_WORD ⟨_, rfl⟩) pa_nil))))) rfl))), ?_⟩
  refine ⟨_, rfl, (by show (4 : Nat) ≤ sizeLine; decide), fun p hp => ⟨p, _, rfl, .inr (SqT.of upd_same), rfl, rfl, ?_⟩⟩
  have e := in_ends ⟨k, by omega⟩
  show Q (.bl (inV (.str (stS k)) [.str (stS 2), .str (stS 4), .str (stS 5), .str (stS 6)])) _
  rw [e]
  exact q _ (same_new hp _)
theorem sc_state_behind_first : FnScope ["sign"] ["sign"] (defScope s_state_behind_first) := ⟨rfl, rfl, rfl, by decide +kernel, rfl, by decide +kernel, by decide +kernel⟩
theorem ok_state_behind_first (Fn : Fun K "state_behind_first" "state_behind_first" s_state_behind_first f fd) (m_OPENED : mg "OPENED" = some (.str (stS 1) t1)) (m_MINUS : mg "MINUS" = some (.str (stS 3) t3)) (m_NOUGHT : mg "NOUGHT" = some (.str (stS 4) t4)) (m_NUMBER : mg "NUMBER" = some (.str (stS 5) t5)) (m_WORD : mg "WORD" = some (.str (stS 6) t6))
    (m_FIGURES : mg "FIGURES" = some (.str figures tF)) (m_LETTERS : mg "LETTERS" = some (.str letters tL)) : FnOk P w K mg base CX0 1 f fd ["sign"] spFirst := by
  refine Fn.ok sc_state_behind_first (fun vs H Q E h => ?_) (fun cdv A outer s H vs Q E hr h => ?_)
  · obtain ⟨k, rfl, _⟩ := h
    rfl
  obtain ⟨c, rfl, q⟩ := h
  refine ⟨_, (pss_cons (ps_if (pt_cmpR op_eq (pv 0) pe_str (nomark _))
 (pss_one (ps_ret (pe_glob (v := .str (stS 1)) rfl m_OPENED ⟨_, rfl⟩)))
 pss_nil)
 (pss_cons (ps_if (pt_cmpR op_eq (pv 0) pe_str (nomark _))
 (pss_one (ps_ret (pe_glob (v := .str (stS 3)) rfl m_MINUS ⟨_, rfl⟩)))
 pss_nil)
 (pss_cons (ps_if (pt_cmpR op_eq (pv 0) pe_str (nomark _))
 (pss_one (ps_ret (pe_glob (v := .str (stS 4)) rfl m_NOUGHT ⟨_, rfl⟩)))
 pss_nil)
 (pss_cons (ps_if (pt_cmpR op_in_str (pv 0) (pe_glob (v := .str figures) rfl m_FIGURES ⟨_, rfl⟩) rfl)
 (pss_one (ps_ret (pe_glob (v := .str (stS 5)) rfl m_NUMBER ⟨_, rfl⟩)))
 pss_nil)
 (pss_cons (ps_if (pt_cmpR op_in_str (pv 0) (pe_glob (v := .str letters) rfl m_LETTERS ⟨_, rfl⟩) rfl)
 (pss_one (ps_ret (pe_glob (v := .str (stS 6)) rfl m_WORD ⟨_, rfl⟩)))
 pss_nil)
 (pss_one (ps_ret pe_non))))))), ?_⟩
  unfold NN.sbFirst at q
  refine ⟨_, rfl, rfl, _, rfl, ?_⟩
  rw [one_eq c 91 c91]
  by_cases h1 : c = 91
  · rw [if_pos h1] at q; rw [decide_eq_true h1]; exact iteT q
  rw [if_neg h1] at q; rw [decide_eq_false h1]
  refine iteF ⟨_, rfl, rfl, _, rfl, ?_⟩
  rw [one_eq c 45 c45]
  by_cases h2 : c = 45
  · rw [if_pos h2] at q; rw [decide_eq_true h2]; exact iteT q
  rw [if_neg h2] at q; rw [decide_eq_false h2]
  refine iteF ⟨_, rfl, rfl, _, rfl, ?_⟩
  rw [one_eq c 48 c48]
  by_cases h3 : c = 48
  · rw [if_pos h3] at q; rw [decide_eq_true h3]; exact iteT q
  rw [if_neg h3] at q; rw [decide_eq_false h3]
  refine iteF ⟨_, rfl, _, _, rfl, rfl, _, rfl, ?_⟩
  rw [in_fig]
  cases h4 : NN.fig c with
  | true => rw [h4, if_pos rfl] at q; exact iteT q
  | false =>
    rw [h4, if_neg (by decide)] at q
    refine iteF ⟨_, rfl, _, _, rfl, rfl, _, rfl, ?_⟩
    rw [in_let]
    cases h5 : NN.letter c with
    | true => rw [h5, if_pos rfl] at q; exact iteT q
    | false => rw [h5, if_neg (by decide)] at q; exact iteF q
theorem sc_state_behind_thing : FnScope ["sign"] ["sign"] (defScope s_state_behind_thing) := ⟨rfl, rfl, rfl, by decide +kernel, rfl, by decide +kernel, by decide +kernel⟩
theorem ok_state_behind_thing (Fn : Fun K "state_behind_thing" "state_behind_thing" s_state_behind_thing f fd) (m_START : mg "START" = some (.str (stS 0) t0)) (m_CLOSED : mg "CLOSED" = some (.str (stS 2) t2)) : FnOk P w K mg base CX0 1 f fd ["sign"] spBehind := by
  refine Fn.ok sc_state_behind_thing (fun vs H Q E h => ?_) (fun cdv A outer s H vs Q E hr h => ?_)
  · obtain ⟨k, rfl, _⟩ := h
    rfl
  obtain ⟨c, rfl, q⟩ := h
  refine ⟨_, (pss_cons (ps_if (pt_cmpR op_eq (pv 0) pe_str (nomark _))
 (pss_one (ps_ret (pe_glob (v := .str (stS 0)) rfl m_START ⟨_, rfl⟩)))
 pss_nil)
 (pss_cons (ps_if (pt_cmpR op_eq (pv 0) pe_str (nomark _))
 (pss_one (ps_ret (pe_glob (v := .str (stS 2)) rfl m_CLOSED ⟨_, rfl⟩)))
 pss_nil)
 (pss_one (ps_ret pe_non)))), ?_⟩
  unfold NN.sbThing at q
  refine ⟨_, rfl, rfl, _, rfl, ?_⟩
  rw [one_eq c 32 c32]
  by_cases h1 : c = 32
  · rw [if_pos h1] at q; rw [decide_eq_true h1]; exact iteT q
  rw [if_neg h1] at q; rw [decide_eq_false h1]
  refine iteF ⟨_, rfl, rfl, _, rfl, ?_⟩
  rw [one_eq c 93 c93]
  by_cases h2 : c = 93
  · rw [if_pos h2] at q; rw [decide_eq_true h2]; exact iteT q
  rw [if_neg h2] at q; rw [decide_eq_false h2]
  exact iteF q
theorem sc_state_behind : FnScope ["sign", "state", "unclosed"] ["sign", "state", "unclosed"] (defScope s_state_behind) := ⟨rfl, rfl, rfl, by decide +kernel, rfl, by decide +kernel, by decide +kernel⟩
theorem ok_state_behind (Fn : Fun K "state_behind" "state_behind" s_state_behind f fd) (m_START : mg "START" = some (.str (stS 0) t0)) (m_OPENED : mg "OPENED" = some (.str (stS 1) t1)) (m_CLOSED : mg "CLOSED" = some (.str (stS 2) t2)) (m_MINUS : mg "MINUS" = some (.str (stS 3) t3)) (m_NUMBER : mg "NUMBER" = some (.str (stS 5) t5)) (m_WORD : mg "WORD" = some (.str (stS 6) t6))
    (m_FIGURES : mg "FIGURES" = some (.str figures tF)) (m_LETTERS : mg "LETTERS" = some (.str letters tL))
    (G_state_behind_first : FnOk P w K mg base CX0 1 g gd ["sign"] spFirst) (b_state_behind_first : Binds K gd ["sign"] []) (k_state_behind_first : PySem.W.keepIn K (.ref g) = true) (m_state_behind_first : mg "state_behind_first" = some (.ref g))
    (G_state_behind_thing : FnOk P w K mg base CX0 1 g2 gd2 ["sign"] spBehind) (b_state_behind_thing : Binds K gd2 ["sign"] []) (k_state_behind_thing : PySem.W.keepIn K (.ref g2) = true) (m_state_behind_thing : mg "state_behind_thing" = some (.ref g2)) :
    FnOk P w K mg base CX0 2 f fd ["sign", "state", "unclosed"] spState := by
  refine Fn.ok sc_state_behind (fun vs H Q E h => ?_) (fun cdv A outer s H vs Q E hr h => ?_)
  · obtain ⟨c, k, d, rfl, _⟩ := h
    rfl
  obtain ⟨c, k, d, rfl, hk, q⟩ := h
  unfold NN.sb at q
  let X := CxD P w K mg base ["sign", "state", "unclosed"] "state_behind" s_state_behind f cdv A outer s H E
  have tail : ∃ t, PSs X ((defBody s_state_behind).drop 1) t ∧ (¬ (k = 1 ∧ c = 93) → t { nx := fun _ H' => Q .non H', rt := Q } [some (.str (tx [c])), some (.str (stS k)), some (.int d)] H) := by
    refine ⟨_, (pss_cons (ps_if (pt_cmpR op_in_seq (pv 1) (pe_tup (pa_cons (pe_glob (v := .str (stS 0)) rfl m_START ⟨_, rfl⟩) (pa_cons (pe_glob (v := .str (stS 1)) rfl m_OPENED ⟨_, rfl⟩) pa_nil))) rfl)
 (pss_one (ps_ret (pe_call G_state_behind_first hr rfl m_state_behind_first k_state_behind_first b_state_behind_first .nil pass0 (pa_cons (pv 0) pa_nil))))
 pss_nil)
 (pss_cons (ps_if (pt_cmpR op_eq (pv 1) (pe_glob (v := .str (stS 3)) rfl m_MINUS ⟨_, rfl⟩) (nomark _))
 (pss_one (ps_ret (pe_ifExp (PW.pt (pw_and (pt_cmpR op_in_str (pv 0) (pe_glob (v := .str figures) rfl m_FIGURES ⟨_, rfl⟩) rfl) (pw_and1 (pt_cmpR op_ne (pv 0) pe_str (nomark _))))) (pe_glob (v := .str (stS 5)) rfl m_NUMBER ⟨_, rfl⟩) pe_non)))
 pss_nil)
 (pss_cons (ps_if (PW.pt (pw_and (pt_cmpR op_eq (pv 1) (pe_glob (v := .str (stS 5)) rfl m_NUMBER ⟨_, rfl⟩) (nomark _)) (pw_and1 (pt_cmpR op_in_str (pv 0) (pe_glob (v := .str figures) rfl m_FIGURES ⟨_, rfl⟩) rfl))))
 (pss_one (ps_ret (pe_glob (v := .str (stS 5)) rfl m_NUMBER ⟨_, rfl⟩)))
 pss_nil)
 (pss_cons (ps_if (PW.pt (pw_and (pt_cmpR op_eq (pv 1) (pe_glob (v := .str (stS 6)) rfl m_WORD ⟨_, rfl⟩) (nomark _)) (pw_and1 (pt_cmpR op_in_str (pv 0) (pe_glob (v := .str letters) rfl m_LETTERS ⟨_, rfl⟩) rfl))))
 (pss_one (ps_ret (pe_glob (v := .str (stS 6)) rfl m_WORD ⟨_, rfl⟩)))
 pss_nil)
 (pss_cons (ps_if (pt_cmpR op_eq (pv 2) pe_int (nomark _))
 (pss_one (ps_ret pe_non))
 pss_nil)
 (pss_one (ps_ret (pe_call G_state_behind_thing hr rfl m_state_behind_thing k_state_behind_thing b_state_behind_thing .nil pass0 (pa_cons (pv 0) pa_nil))))))))), fun h1 => ?_⟩
    rw [if_neg h1] at q
    refine ⟨_, rfl, (by show (2 : Nat) ≤ sizeLine; decide), fun p hp => ⟨p, _, rfl, .inr (SqT.of upd_same), rfl, rfl, _, rfl, ?_⟩⟩
    have S1 : Same H (upd H p (.tup [.str (stS 0), .str (stS 1)])) := same_new hp _
    have e := in_begs ⟨k, by omega⟩
    show if inV (.str (stS k)) [.str (stS 0), .str (stS 1)] = true then _ else _
    rw [e]
    by_cases h2 : k = 0 ∨ k = 1
    · rw [if_pos h2] at q
      rw [decide_eq_true (show (⟨k, by omega⟩ : Fin 7).val = 0 ∨ (⟨k, by omega⟩ : Fin 7).val = 1 from h2)]
      exact iteT ⟨_, rfl, c, rfl, q _ S1⟩
    rw [if_neg h2] at q
    rw [decide_eq_false (show ¬ ((⟨k, by omega⟩ : Fin 7).val = 0 ∨ (⟨k, by omega⟩ : Fin 7).val = 1) from h2)]
    refine iteF ⟨_, rfl, rfl, _, rfl, ?_⟩
    rw [st_eq hk (by decide)]
    by_cases h3 : k = 3
    · rw [if_pos h3] at q
      rw [decide_eq_true h3]
      refine iteT ⟨_, rfl, _, _, rfl, rfl, _, rfl, ?_⟩
      rw [in_fig]
      cases h4 : NN.fig c with
      | false =>
        rw [h4, if_neg (by simp)] at q
        exact iteF (iteF (q _ S1))
      | true =>
        refine iteT ⟨_, rfl, rfl, _, rfl, ?_⟩
        rw [one_eq c 48 c48]
        by_cases h5 : c = 48
        · rw [if_neg (fun z => z.2 h5)] at q
          rw [decide_eq_true h5]
          exact iteF (q _ S1)
        · rw [if_pos ⟨h4, h5⟩] at q
          rw [decide_eq_false h5]
          exact iteT (q _ S1)
    rw [if_neg h3] at q
    rw [decide_eq_false h3]
    -- the two last tests
    have last : (∀ H', Same H H' → Q (stV (if d = 0 then none else NN.sbThing c)) H') → ∀ {H' : Hp}, Same H H' → (if decide (V.int d = V.int 0) = true then Q .non H' else tRet (tCall spBehind [] (fun _ _ _ => False) (tCons (tVar 0) tNil)) { nx := fun _ H' => Q .non H', rt := Q } [some (.str (tx [c])), some (.str (stS k)), some (.int d)] H') := fun q {H'} S => by
      by_cases h7 : d = 0
      · rw [if_pos h7] at q
        rw [decide_eq_true (congrArg V.int h7)]
        exact iteT (q _ S)
      · rw [if_neg h7] at q
        rw [decide_eq_false (fun e => h7 (V.int.inj e))]
        exact iteF ⟨_, rfl, c, rfl, q _ S⟩
    refine iteF ⟨_, rfl, rfl, _, rfl, ?_⟩
    rw [st_eq hk (by decide)]
    by_cases h5 : k = 5
    · have h6 : ¬ k = 6 := by omega
      rw [decide_eq_true h5]
      refine iteT ⟨_, rfl, _, _, rfl, rfl, _, rfl, ?_⟩
      rw [in_fig]
      cases h4 : NN.fig c with
      | true => rw [if_pos ⟨h5, h4⟩] at q; exact iteT (q _ S1)
      | false =>
        rw [if_neg (fun z => by rw [h4] at z; exact absurd z.2 (by decide)), if_neg (fun z => h6 z.1)] at q
        refine iteF ⟨_, rfl, rfl, _, rfl, ?_⟩
        rw [st_eq hk (by decide), decide_eq_false h6]
        exact iteF (iteF ⟨_, rfl, rfl, _, rfl, last q S1⟩)
    · rw [if_neg (fun z => h5 z.1)] at q
      rw [decide_eq_false h5]
      refine iteF (iteF ⟨_, rfl, rfl, _, rfl, ?_⟩)
      rw [st_eq hk (by decide)]
      by_cases h6 : k = 6
      · rw [decide_eq_true h6]
        refine iteT ⟨_, rfl, _, _, rfl, rfl, _, rfl, ?_⟩
        rw [in_let]
        cases h4 : NN.letter c with
        | true => rw [if_pos ⟨h6, h4⟩] at q; exact iteT (q _ S1)
        | false =>
          rw [if_neg (fun z => by rw [h4] at z; exact absurd z.2 (by decide))] at q
          exact iteF ⟨_, rfl, rfl, _, rfl, last q S1⟩
      · rw [if_neg (fun z => h6 z.1)] at q
        rw [decide_eq_false h6]
        exact iteF (iteF ⟨_, rfl, rfl, _, rfl, last q S1⟩)
  obtain ⟨tT, hT, rT⟩ := tail
  refine ⟨_, (pss_cons (ps_if (PW.pt (pw_and (pt_cmpR op_eq (pv 1) (pe_glob (v := .str (stS 1)) rfl m_OPENED ⟨_, rfl⟩) (nomark _)) (pw_and1 (pt_cmpR op_eq (pv 0) pe_str (nomark _)))))
 (pss_one (ps_ret (pe_glob (v := .str (stS 2)) rfl m_CLOSED ⟨_, rfl⟩)))
 pss_nil) hT), ?_⟩
  refine ⟨_, rfl, rfl, _, rfl, ?_⟩
  rw [st_eq hk (by decide)]
  by_cases h1 : k = 1
  · rw [decide_eq_true h1]
    refine iteT ⟨_, rfl, rfl, _, rfl, ?_⟩
    rw [one_eq c 93 c93]
    by_cases h2 : c = 93
    · rw [if_pos ⟨h1, h2⟩] at q
      rw [decide_eq_true h2]
      exact iteT (q _ (Same.refl _))
    · rw [decide_eq_false h2]
      exact iteF (rT fun z => h2 z.2)
  · rw [decide_eq_false h1]
    exact iteF (iteF (rT fun z => h1 z.1))
end
end K5

set_option Elab.async false
set_option linter.all false
set_option maxRecDepth 100000
set_option maxHeartbeats 16000000
namespace K5
open PySem L2
/-! ### words and numbers as the steps make them -/
def spAny : Sp := fun vs H Q _ => ∃ c : Int, vs = [.int c] ∧ ∀ H', Same H H' → Q (.int (NN.anyNum c)) H'
def spAnyWord : Sp := fun vs H Q _ => ∃ c : Int, vs = [.int c] ∧ Q (.str (tx (NN.anyWord (c.natAbs % 10 ^ 39)))) H
def spWordOf : Sp := fun vs H Q _ => ∃ c : Int, vs = [.int c] ∧ Q (.str (tx (NN.wordOf c))) H
def spNumberOf : Sp := fun vs H Q _ => ∃ c : Int, vs = [.int c] ∧ ∀ H', Same H H' → Q (.int (NN.numberOf c)) H'
def spWhole : Sp := fun vs H Q _ => ∃ i : Int, vs = [.int i] ∧ Q (.bl true) H
section
variable {P : Program} {w : World} {K : PySem.W.Frag} {mg : Str → Option Value} {base : Heap} {f g : Addr} {fd gd : FuncData}
theorem sc_any : FnScope ["_law_cell", "_law_size"] ["_law_cell"] (defScope s_any) := ⟨rfl, rfl, rfl, by decide +kernel, rfl, by decide +kernel, by decide +kernel⟩
theorem ok_any (Fn : Fun K "_law_any" "_law_any" s_any f fd) : FnOk P w K mg base CX0 1 f fd ["_law_cell"] spAny := by
  refine Fn.ok sc_any (fun vs H Q E h => ?_) (fun cdv A outer s H vs Q E hr h => ?_)
  · obtain ⟨c, rfl, _⟩ := h
    rfl
  obtain ⟨c, rfl, q⟩ := h
  refine ⟨_, pss_cons (ps_set (i := 1) sc_any.nd rfl (Or.inl rfl) (pe_op op_mod (pe_op op_fdiv (pv 0) pe_int) (pe_op op_pow pe_int pe_int)))
    (pss_one (ps_ret (pe_op op_mul (pv 1) (pe_ix ix_list (pe_lst (pa_cons pe_int (pa_cons (pe_un un_neg pe_int) pa_nil))) (pe_op op_mod (pv 0) pe_int) (fun _ _ => rfl))))), ?_⟩
  refine ⟨_, rfl, _, _, rfl, rfl, ⟨by decide, by decide⟩, _, _, rfl, rfl, ⟨by decide, by decide, by decide⟩, _, _, rfl, rfl, (by show (0 : Int) < 10 ^ 59; decide), ?_⟩
  refine ⟨_, rfl, 1, rfl, (by show (2 : Nat) ≤ sizeLine; decide), fun p hp => ?_⟩
  have m0 : 0 ≤ c % 2 := Int.emod_nonneg _ (by decide)
  have m1 : c % 2 < 2 := Int.emod_lt_of_pos _ (by decide)
  have q1 := q _ (same_new hp (.lst [.int 1, .int (-1)]))
  unfold NN.anyNum at q1
  by_cases hc : c % 2 = 0
  · rw [if_pos hc] at q1
    refine ⟨_, rfl, _, _, rfl, rfl, (by show (0 : Int) < 2; decide), p, _, _, .int 1, rfl, rfl, SqL.of upd_same, (by rw [hc]; rfl), _, _, rfl, rfl, .inr ⟨by decide, by decide⟩, ?_⟩
    show Q (.int (c / 2 % 10 ^ 59 * 1)) _
    rw [Int.mul_one]
    exact q1
  · rw [if_neg hc] at q1
    have hc1 : c % 2 = 1 := by omega
    refine ⟨_, rfl, _, _, rfl, rfl, (by show (0 : Int) < 2; decide), p, _, _, .int (-1), rfl, rfl, SqL.of upd_same, (by rw [hc1]; rfl), _, _, rfl, rfl, .inr ⟨by decide, by decide⟩, ?_⟩
    show Q (.int (c / 2 % 10 ^ 59 * -1)) _
    rw [Int.mul_neg, Int.mul_one]
    exact q1
theorem sc_any_word : FnScope ["_law_cell", "_law_left", "_law_word"] ["_law_cell"] (defScope s_any_word) := ⟨rfl, rfl, rfl, by decide +kernel, rfl, by decide +kernel, by decide +kernel⟩
theorem ok_any_word (Fn : Fun K "_law_any_word" "_law_any_word" s_any_word f fd) (ma : mg "abs" = none) : FnOk P w K mg base CX0 1 f fd ["_law_cell"] spAnyWord := by
  refine Fn.ok sc_any_word (fun vs H Q E h => ?_) (fun cdv A outer s H vs Q E hr h => ?_)
  · obtain ⟨c, rfl, _⟩ := h
    rfl
  obtain ⟨c, rfl, q⟩ := h
  refine ⟨_, pss_cons (ps_set (i := 1) sc_any_word.nd rfl (Or.inl rfl) (pe_op op_mod (pe_callB call_abs rfl ma boot_abs (pa_cons (pv 0) pa_nil)) (pe_op op_pow pe_int pe_int)))
    (pss_cons (ps_set (i := 2) sc_any_word.nd rfl (Or.inl rfl) pe_str)
    (pss_cons (ps_while PassesOwn.never (pt_cmpR op_ge (pv 1) pe_int (nomark _))
      (pss_cons (ps_set (i := 2) sc_any_word.nd rfl (Or.inl rfl) (pe_op op_add_str (pe_ix ix_str pe_str (pe_op op_mod (pv 1) pe_int) (fun _ _ => rfl)) (pv 2)))
        (pss_one (ps_set (i := 1) sc_any_word.nd rfl (Or.inl rfl) (pe_op op_sub (pe_op op_fdiv (pv 1) pe_int) pe_int)))))
    (pss_one (ps_ret (pv 2))))), ?_⟩
  refine ⟨_, rfl, c, rfl, _, _, rfl, rfl, ⟨by decide, by decide, by decide⟩, _, _, rfl, rfl, (by show (0 : Int) < 10 ^ 39; decide), ?_⟩
  have hl : (NN.anyWord (c.natAbs % 10 ^ 39)).length ≤ 28 := NN.anyWord_len 27 _ (Nat.lt_of_lt_of_le (Nat.mod_lt _ (by decide)) (by decide))
  generalize hW : NN.anyWord (c.natAbs % 10 ^ 39) = W at q hl
  have e0 : (if c < 0 then -c else c) % (10 : Int) ^ 39 = ((c.natAbs % 10 ^ 39 : Nat) : Int) := by
    have e1 : (if c < 0 then -c else c) = ((c.natAbs : Nat) : Int) := by split <;> omega
    rw [e1]
    norm_cast
  refine while_by (fun σ H' => H' = H ∧ ∃ (l : Int) (cs : List Nat), σ = [some (.int c), some (.int l), some (.str (tx cs))] ∧ -1 ≤ l ∧ cs.length ≤ 28 ∧ (0 ≤ l → NN.anyWord l.toNat ++ cs = W) ∧ (l < 0 → cs = W))
    (fun (σ : St) _ => match σ[1]? with | some (some (V.int l)) => (l + 1).toNat | _ => 0) ⟨rfl, ((c.natAbs % 10 ^ 39 : Nat) : Int), [], ?_, by omega, by simp, fun _ => ?_, fun h => absurd h (by omega)⟩ ?_ (fun σ H Q Q' h ⟨v, e, i, j, e1, e2, k, e3, q⟩ => ⟨v, e, i, j, e1, e2, k, e3, h _ _ q⟩)
  · show [some (V.int c), some (V.int ((if c < 0 then -c else c) % (10 : Int) ^ 39)), some (V.str "")] = _
    rw [e0]
    rfl
  · rw [List.append_nil]
    exact hW
  · rintro σ H' ⟨rfl, l, cs, rfl, hl1, hcs, hge, hlt⟩
    refine ⟨_, rfl, _, _, rfl, rfl, _, rfl, ?_⟩
    refine ite2 (fun d => ?_) (fun d => ?_)
    · have d' : (0 : Int) ≤ l := of_decide_eq_true d
      have m0 : 0 ≤ l % 26 := Int.emod_nonneg _ (by decide)
      have m1 : l % 26 < 26 := Int.emod_lt_of_pos _ (by decide)
      have hat : atI (cod ("abcdefghijklmnopqrstuvwxyz" : Str)) (l % 26) = some (97 + (l % 26).toNat) := by
        rw [cod_abc, atI_ofNat m0 (by show (l % 26).toNat < 26; omega)]
        unfold abc
        simp
      have hcat : (⟨#[97 + (l % 26).toNat]⟩ : Str) ++ tx cs = tx ((97 + (l % 26).toNat) :: cs) := str_ext (by rw [cod_app]; rfl)
      have word : (0 ≤ l / 26 - 1 → NN.anyWord (l / 26 - 1).toNat ++ (97 + (l % 26).toNat) :: cs = W) ∧ (l / 26 - 1 < 0 → (97 + (l % 26).toNat) :: cs = W) := by
        have g := hge d'
        rw [NN.anyWord] at g
        by_cases hs : l.toNat < 26
        · rw [dif_pos hs] at g
          refine ⟨fun z => absurd z (by omega), fun _ => ?_⟩
          rw [← g]
          have e : (l % 26).toNat = l.toNat := by omega
          rw [e]
          rfl
        · rw [dif_neg hs, List.append_assoc] at g
          refine ⟨fun _ => ?_, fun z => absurd z (by omega)⟩
          have e : (l % 26).toNat = l.toNat % 26 := by omega
          have e2 : (l / 26 - 1).toNat = l.toNat / 26 - 1 := by omega
          rw [e, e2]
          exact g
      have hlen : ((97 + (l % 26).toNat) :: cs).length ≤ 28 := by
        by_cases z : 0 ≤ l / 26 - 1
        · have g := congrArg List.length (word.1 z)
          rw [List.length_append] at g
          omega
        · rw [word.2 (by omega)]
          exact hl
      refine ⟨_, rfl, _, _, rfl, rfl, (by show (0 : Int) < 26; decide), _, _, _, rfl, rfl, (by decide +kernel), hat, _, rfl, _, _, rfl, rfl, ?_, ?_⟩
      · rw [tx_len]
        show 1 + cs.length ≤ sizeLine
        exact small (by omega)
      · refine ⟨_, rfl, _, _, rfl, rfl, ⟨by decide, by decide⟩, _, _, rfl, rfl, ⟨rfl, l / 26 - 1, (97 + (l % 26).toNat) :: cs, ?_, by omega, hlen, word.1, word.2⟩, ?_⟩
        · rw [← hcat]
          rfl
        · show (l / 26 - 1 + 1).toNat < (l + 1).toNat
          omega
    · have d' : ¬ (0 : Int) ≤ l := fun e => d (decide_eq_true e)
      rw [hlt (by omega)]
      exact ⟨_, rfl, q⟩
theorem sc_word_of : FnScope ["_law_cell", "_law_first"] ["_law_cell"] (defScope s_word_of) := ⟨rfl, rfl, rfl, by decide +kernel, rfl, by decide +kernel, by decide +kernel⟩
theorem ok_word_of (Fn : Fun K "_law_word_of" "_law_word_of" s_word_of f fd) (G : FnOk P w K mg base CX0 1 g gd ["_law_cell"] spAnyWord) (bG : Binds K gd ["_law_cell"] []) (kG : PySem.W.keepIn K (.ref g) = true) (mG : mg "_law_any_word" = some (.ref g)) :
    FnOk P w K mg base CX0 2 f fd ["_law_cell"] spWordOf := by
  refine Fn.ok sc_word_of (fun vs H Q E h => ?_) (fun cdv A outer s H vs Q E hr h => ?_)
  · obtain ⟨c, rfl, _⟩ := h
    rfl
  obtain ⟨c, rfl, q⟩ := h
  refine ⟨_, pss_cons (ps_if (pt_cmpR op_eq (pe_op op_mod (pe_op op_fdiv (pv 0) pe_int) pe_int) pe_int (nomark _)) (pss_one (ps_ret (pe_call G hr rfl mG kG bG .nil pass0 (pa_cons (pe_op op_fdiv (pv 0) pe_int) pa_nil)))) pss_nil)
    (pss_cons (ps_set (i := 1) sc_word_of.nd rfl (Or.inl rfl) (pe_op op_mod (pe_op op_fdiv (pv 0) pe_int) pe_int))
    (pss_one (ps_ret (pe_slice sl_str pe_str (po_some (pv 1)) (po_some (pe_op op_add (pe_op op_add (pv 1) pe_int) (pe_op op_mod (pe_op op_add (pe_op op_fdiv (pv 0) pe_int) (pe_op op_fdiv (pv 0) pe_int)) pe_int))))))), ?_⟩
  unfold NN.wordOf at q
  refine ⟨_, rfl, _, _, rfl, rfl, ⟨by decide, by decide⟩, _, _, rfl, rfl, (by show (0 : Int) < 7; decide), rfl, _, rfl, ?_⟩
  refine ite2 (fun d => ?_) (fun d => ?_)
  · have d' : c / 5 % 7 = 4 := V.int.inj (of_decide_eq_true d)
    rw [if_pos d'] at q
    exact ⟨_, rfl, _, _, rfl, rfl, ⟨by decide, by decide⟩, c / 35, rfl, q⟩
  · have d' : ¬ c / 5 % 7 = 4 := fun e => d (decide_eq_true (congrArg V.int e))
    rw [if_neg d'] at q
    have a0 : 0 ≤ c / 5 % 26 := Int.emod_nonneg _ (by decide)
    have b0 : 0 ≤ (c / 5 + c / 31) % 4 := Int.emod_nonneg _ (by decide)
    refine ⟨_, rfl, _, _, rfl, rfl, ⟨by decide, by decide⟩, _, _, rfl, rfl, (by show (0 : Int) < 26; decide), ?_⟩
    refine ⟨_, rfl, _, rfl, _, rfl, _, _, rfl, rfl, _, rfl, _, _, rfl, rfl, ⟨by decide, by decide⟩, _, rfl, _, _, rfl, rfl, ⟨by decide, by decide⟩, _, _, rfl, rfl, _, _, rfl, rfl, (by show (0 : Int) < 4; decide), _, _, rfl, rfl, _, rfl, _, rfl, (by decide +kernel), ?_⟩
    have e : Txt.slice ("abcdefghijklmnopqrstuvwxyz" : Str) (some (c / 5 % 26)) (some (c / 5 % 26 + 1 + (c / 5 + c / 31) % 4)) = tx ((abc.drop (c / 5 % 26).toNat).take (1 + (c / 5 + c / 31) % 4).toNat) := by
      refine str_tx ?_
      generalize c / 5 % 26 = u at a0
      generalize (c / 5 + c / 31) % 4 = v at b0
      obtain ⟨u, rfl⟩ := Int.eq_ofNat_of_zero_le a0
      obtain ⟨v, rfl⟩ := Int.eq_ofNat_of_zero_le b0
      have e2 : ((u : Nat) : Int) + 1 + ((v : Nat) : Int) = ((u + (1 + v) : Nat) : Int) := by omega
      have e4 : (1 + ((v : Nat) : Int)).toNat = 1 + v := by omega
      rw [e2, cod_mid, cod_abc, e4, Int.toNat_natCast]
      have e3 : u + (1 + v) - u = 1 + v := by omega
      rw [e3]
    rw [e]
    exact q
theorem sc_number_of : FnScope ["_law_cell"] ["_law_cell"] (defScope s_number_of) := ⟨rfl, rfl, rfl, by decide +kernel, rfl, by decide +kernel, by decide +kernel⟩
theorem ok_number_of (Fn : Fun K "_law_number_of" "_law_number_of" s_number_of f fd) (G : FnOk P w K mg base CX0 1 g gd ["_law_cell"] spAny) (bG : Binds K gd ["_law_cell"] []) (kG : PySem.W.keepIn K (.ref g) = true) (mG : mg "_law_any" = some (.ref g)) :
    FnOk P w K mg base CX0 2 f fd ["_law_cell"] spNumberOf := by
  refine Fn.ok sc_number_of (fun vs H Q E h => ?_) (fun cdv A outer s H vs Q E hr h => ?_)
  · obtain ⟨c, rfl, _⟩ := h
    rfl
  obtain ⟨c, rfl, q⟩ := h
  refine ⟨_, pss_cons (ps_if (pt_cmpR op_eq (pe_op op_mod (pe_op op_fdiv (pv 0) pe_int) pe_int) pe_int (nomark _)) (pss_one (ps_ret (pe_call G hr rfl mG kG bG .nil pass0 (pa_cons (pe_op op_fdiv (pv 0) pe_int) pa_nil)))) pss_nil)
    (pss_cons (ps_if (pt_cmpR op_eq (pe_op op_mod (pe_op op_fdiv (pv 0) pe_int) pe_int) pe_int (nomark _)) (pss_one (ps_ret (pe_op op_sub pe_int (pe_op op_mod (pe_op op_fdiv (pv 0) pe_int) pe_int)))) pss_nil)
    (pss_one (ps_ret (pe_op op_mod (pe_op op_fdiv (pv 0) pe_int) pe_int)))), ?_⟩
  unfold NN.numberOf at q
  refine ⟨_, rfl, _, _, rfl, rfl, ⟨by decide, by decide⟩, _, _, rfl, rfl, (by show (0 : Int) < 7; decide), rfl, _, rfl, ?_⟩
  refine ite2 (fun d => ?_) (fun d => ?_)
  · have d' : c / 5 % 7 = 3 := V.int.inj (of_decide_eq_true d)
    rw [if_pos d'] at q
    exact ⟨_, rfl, _, _, rfl, rfl, ⟨by decide, by decide⟩, c / 10, rfl, q⟩
  · have d' : ¬ c / 5 % 7 = 3 := fun e => d (decide_eq_true (congrArg V.int e))
    rw [if_neg d'] at q
    refine ⟨_, rfl, _, _, rfl, rfl, ⟨by decide, by decide⟩, _, _, rfl, rfl, (by show (0 : Int) < 2; decide), rfl, _, rfl, ?_⟩
    refine ite2 (fun d => ?_) (fun d => ?_)
    · have d' : c / 5 % 2 = 1 := V.int.inj (of_decide_eq_true d)
      rw [if_pos d'] at q
      exact ⟨_, rfl, _, _, rfl, rfl, ⟨by decide, by decide⟩, _, _, rfl, rfl, (by show (0 : Int) < 1000; decide), _, _, rfl, rfl, q H (Same.refl _)⟩
    · have d' : ¬ c / 5 % 2 = 1 := fun e => d (decide_eq_true (congrArg V.int e))
      rw [if_neg d'] at q
      exact ⟨_, rfl, _, _, rfl, rfl, ⟨by decide, by decide⟩, _, _, rfl, rfl, (by show (0 : Int) < 1000; decide), q H (Same.refl _)⟩
theorem sc_whole : FnScope ["_law_found"] ["_law_found"] (defScope s_whole) := ⟨rfl, rfl, rfl, by decide +kernel, rfl, by decide +kernel, by decide +kernel⟩
theorem kit_int_bool : PySem.W.kitOne K (.type "int") (.type "bool") = some false := by rfl
theorem ok_whole (Fn : Fun K "_law_whole" "_law_whole" s_whole f fd) (mi : mg "isinstance" = none) (mn : mg "int" = none) (mb : mg "bool" = none) : FnOk P w K mg base CX0 1 f fd ["_law_found"] spWhole := by
  refine Fn.ok sc_whole (fun vs H Q E h => ?_) (fun cdv A outer s H vs Q E hr h => ?_)
  · obtain ⟨c, rfl, _⟩ := h
    rfl
  obtain ⟨i, rfl, q⟩ := h
  refine ⟨_, pss_one (ps_ret (pe_and (pe_callB (call_isinst (kit_same "int")) rfl mi boot_isinst (pa_cons (pv 0) (pa_cons (pe_bltn (v := .ty "int") rfl mn boot_int rfl) pa_nil)))
    (pe_one (pe_not (pe_callB (call_isinst kit_int_bool) rfl mi boot_isinst (pa_cons (pv 0) (pa_cons (pe_bltn (v := .ty "bool") rfl mb boot_bool rfl) pa_nil))))))), ?_⟩
  exact ⟨_, rfl, _, rfl, .int _, _, rfl, iteT ⟨_, rfl, _, rfl, .int _, _, rfl, q⟩⟩
end
/-! ### what the program's defs promise -/
def spShown : Sp := fun vs H Q _ => ∃ (v : V) (t : NN.T), vs = [v] ∧ Tr [] H t v ∧ t.sane ∧ t.line.length ≤ 8000 ∧ t.depth ≤ 100 ∧ ∀ H', Same H H' → Q (.str (tx t.line)) H'
def spRead (C : Addr) : Sp := fun vs H Q E => ∃ (L : List Nat), vs = [.str (tx L)] ∧ NN.Runs 200 L ∧ L.length ≤ 8000 ∧ L.count 91 ≤ 100 ∧ (∀ (t : NN.T) v H', t.wf → t.line = L → Same H H' → Tr [] H' t v → Q v H') ∧ (NN.due L ≠ none → ∀ H', Same H H' → E (.ref C) none H')
def spFault : Sp := fun vs H Q _ => ∃ (L : List Nat), vs = [.str (tx L)] ∧ NN.Runs 200 L ∧ L.length ≤ 8000 ∧ L.count 91 ≤ 100 ∧ ∀ H', Same H H' → Q (match NN.due L with | none => .non | some k => .int ((k : Nat) : Int)) H'
def spLeaves : Sp := fun vs H Q _ => ∃ (v : V) (t : NN.T), vs = [v] ∧ Tr [] H t v ∧ t.size ≤ 200 ∧ t.depth ≤ 100 ∧ ∀ v' H', Same H H' → Tr [] H' (.lst t.leaves) v' → Q v' H'
def spDepth : Sp := fun vs H Q _ => ∃ (v : V) (t : NN.T), vs = [v] ∧ Tr [] H t v ∧ t.size ≤ 200 ∧ t.depth ≤ 100 ∧ ∀ H', Same H H' → Q (.int ((t.depth : Nat) : Int)) H'
theorem grown_ok {ns : List Int} (h : ns.length ≤ 63) : (NN.grownT ns).size ≤ 64 ∧ (NN.grownT ns).fine ∧ (NN.grownT ns).wf ∧ (NN.grownT ns).sane ∧ (NN.grownT ns).line.length ≤ 8000 ∧ (NN.grownT ns).depth ≤ 100 ∧ NN.Runs 60 (NN.grownT ns).line ∧ (NN.grownT ns).line.count 91 ≤ 64 := by
  obtain ⟨h1, h2⟩ := NN.grownT_ok ns
  have hw := NN.T.fine_wf _ h2
  have h3 := NN.T.line_le _ h2
  obtain ⟨c1, c2, c3⟩ := NN.count_le _ hw
  exact ⟨by omega, h2, hw, NN.fine_sane _ h2, by omega, by omega, NN.runs_fine _ h2, by omega⟩
/-! ### the program: fault -/
section
variable {P : Program} {w : World} {K : PySem.W.Frag} {mg : Str → Option Value} {base : Heap} {f g g2 : Addr} {fd gd gd2 : FuncData} {t0 t1 t2 t3 t4 t5 t6 tF tL : Tok}
abbrev NF : List Str := ["line", "state", "unclosed", "place", "sign"]
theorem sc_fault : FnScope NF ["line"] (defScope s_fault) := ⟨rfl, rfl, rfl, by decide +kernel, rfl, by decide +kernel, by decide +kernel⟩
theorem ok_fault (Fn : Fun K "fault" "fault" s_fault f fd) (m_START : mg "START" = some (.str (stS 0) t0)) (m_OPENED : mg "OPENED" = some (.str (stS 1) t1)) (m_CLOSED : mg "CLOSED" = some (.str (stS 2) t2))
    (G_state_behind : FnOk P w K mg base CX0 2 g gd ["sign", "state", "unclosed"] spState) (b_state_behind : Binds K gd ["sign", "state", "unclosed"] []) (k_state_behind : PySem.W.keepIn K (.ref g) = true) (m_state_behind : mg "state_behind" = some (.ref g))
    (G_ends_thing : FnOk P w K mg base CX0 2 g2 gd2 ["state"] spEnds) (b_ends_thing : Binds K gd2 ["state"] []) (k_ends_thing : PySem.W.keepIn K (.ref g2) = true) (m_ends_thing : mg "ends_thing" = some (.ref g2))
    (m_enumerate : mg "enumerate" = none) (m_len : mg "len" = none) : FnOkS P w K mg base 3 f fd ["line"] spFault := by
  refine Fn.okS sc_fault (fun vs H Q E h => ?_) (fun cdv A outer s H vs Q E hr h => ?_)
  · obtain ⟨L, rfl, _⟩ := h
    rfl
  obtain ⟨L, rfl, _, hz, _, q⟩ := h
  refine ⟨_, (pssS_cons (ps_set (i := 1) sc_fault.nd rfl (Or.inl rfl) (pe_glob (v := .str (stS 0)) rfl m_START ⟨_, rfl⟩))
 (pssS_first (psS_int (i := 2) sc_fault.nd rfl (Or.inl rfl))
 (pss_cons (ps_for PassesOwn.never rfl (pi_enumS rfl m_enumerate (pa_cons (pv 0) pa_nil)) (pg_tup rfl (pgs_cons (pg_name (i := 3) sc_fault.nd rfl (Or.inl rfl)) (pgs_cons (pg_name (i := 4) sc_fault.nd rfl (Or.inl rfl)) pgs_nil)))
 (pss_cons (ps_set (i := 1) sc_fault.nd rfl (Or.inl rfl) (pe_call G_state_behind hr rfl m_state_behind k_state_behind b_state_behind .nil pass0 (pa_cons (pv 4) (pa_cons (pv 1) (pa_cons (pv 2) pa_nil)))))
 (pss_cons (ps_if (pt_cmpR op_isN (pv 1) pe_non (nomark _))
 (pss_one (ps_ret (pv 3)))
 pss_nil)
 (pss_cons (ps_if (pt_cmpR op_eq (pv 1) (pe_glob (v := .str (stS 1)) rfl m_OPENED ⟨_, rfl⟩) (nomark _))
 (pss_one (ps_set (i := 2) sc_fault.nd rfl (Or.inl rfl) (pe_op op_add (pv 2) pe_int)))
 pss_nil)
 (pss_one (ps_if (pt_cmpR op_eq (pv 1) (pe_glob (v := .str (stS 2)) rfl m_CLOSED ⟨_, rfl⟩) (nomark _))
 (pss_one (ps_set (i := 2) sc_fault.nd rfl (Or.inl rfl) (pe_op op_sub (pv 2) pe_int)))
 pss_nil))))))
 (pss_cons (ps_if (PW.pt (pw_and (pt_cmpR op_eq (pv 2) pe_int (nomark _)) (pw_and1 (pt_val (pe_call G_ends_thing hr rfl m_ends_thing k_ends_thing b_ends_thing .nil pass0 (pa_cons (pv 1) pa_nil))))))
 (pss_one (ps_ret pe_non))
 pss_nil)
 (pss_one (ps_ret (pe_callB call_len_str rfl m_len PySem.boot_len (pa_cons (pv 0) pa_nil))))))) (fun _ _ _ h => h)), ?_⟩
  refine ⟨_, rfl, tx L, rfl, for_enumS (z := tx L) (fun i σ' H' => ∃ (o3 o4 : Option V) (d : Int), σ' = [some (.str (tx L)), some (.str (stS (NN.stOf (L.take i)))), some (.int d), o3, o4] ∧ Same H H' ∧ NN.Shp (L.take i) d ∧ NN.due L = NN.dueFrom (L.take i) d (L.drop i)) ?_ ?_ ?_⟩
  · exact ⟨_, _, 0, rfl, Same.refl _, NN.Shp.exp [] (by simp), rfl⟩
  · rintro i c σ' H' p hc ⟨o3, o4, d, rfl, hS, shp, hdue⟩ hp
    have hc : L[i]? = some c := hc
    obtain ⟨hi, ec⟩ := List.getElem?_eq_some_iff.mp hc
    have tk : L.take (i + 1) = L.take i ++ [c] := by rw [List.take_add_one, hc]; rfl
    have dr : L.drop i = c :: L.drop (i + 1) := by rw [List.drop_eq_getElem_cons hi, ec]
    have hl : (L.take i).length = i := by rw [List.length_take]; omega
    rw [dr, NN.dueFrom] at hdue
    refine ⟨p, _, rfl, SqT.of upd_same, rfl, _, _, rfl, _, _, rfl, rfl, ?_⟩
    refine ⟨_, rfl, _, rfl, _, rfl, c, NN.stOf (L.take i), d, rfl, NN.stOf_le _, fun H2 S2 => ?_⟩
    have S : Same H H2 := (hS.trans (same_new hp _)).trans S2
    rw [NN.sb_stand shp c]
    cases hst : NN.stand (L.take i) c d with
    | false =>
      rw [hst, if_neg (by decide), hl] at hdue
      refine ⟨_, rfl, rfl, _, rfl, iteT ⟨_, rfl, ?_⟩⟩
      have z := q H2 S
      rw [hdue] at z
      exact z
    | true =>
      rw [hst, if_pos rfl] at hdue
      rw [show stV (if (true : Bool) = true then some (NN.stOf (L.take i ++ [c])) else none) = V.str (stS (NN.stOf (L.take i ++ [c]))) from rfl]
      have shp2 := shp.step hst
      obtain ⟨s1, s2⟩ := NN.stOf_snoc (L.take i) c
      have hk2 := NN.stOf_le (L.take i ++ [c])
      have fin : ∀ d', d' = NN.deepBy d c → ∃ (o3 o4 : Option V) (e : Int), ([some (.str (tx L)), some (.str (stS (NN.stOf (L.take i ++ [c])))), some (.int d'), some (.int ((i : Nat) : Int)), some (.str ⟨#[c]⟩)] : St) = [some (.str (tx L)), some (.str (stS (NN.stOf (L.take (i + 1))))), some (.int e), o3, o4] ∧ Same H H2 ∧ NN.Shp (L.take (i + 1)) e ∧ NN.due L = NN.dueFrom (L.take (i + 1)) e (L.drop (i + 1)) := by
        rintro d' rfl
        refine ⟨some (.int ((i : Nat) : Int)), some (.str ⟨#[c]⟩), NN.deepBy d c, ?_, S, ?_, ?_⟩
        · rw [tk]
        · rw [tk]; exact shp2
        · rw [tk]; exact hdue
      refine ⟨_, rfl, rfl, _, rfl, iteF ?_⟩
      refine ⟨_, rfl, rfl, _, rfl, ?_⟩
      rw [st_eq hk2 (by decide)]
      by_cases h1 : c = 91
      · rw [decide_eq_true (s1.mpr h1)]
        refine iteT ⟨_, rfl, _, _, rfl, rfl, _, rfl, rfl, _, rfl, ?_⟩
        have h2 : ¬ NN.stOf (L.take i ++ [c]) = 2 := fun z => by have := s2.mp z; omega
        rw [st_eq hk2 (by decide), decide_eq_false h2]
        refine iteF (fin _ ?_)
        unfold NN.deepBy
        rw [if_pos h1, if_neg (by omega)]
        omega
      · rw [decide_eq_false (fun z => h1 (s1.mp z))]
        refine iteF ⟨_, rfl, rfl, _, rfl, ?_⟩
        rw [st_eq hk2 (by decide)]
        by_cases h2 : c = 93
        · rw [decide_eq_true (s2.mpr h2)]
          refine iteT ⟨_, rfl, _, _, rfl, rfl, fin _ ?_⟩
          unfold NN.deepBy
          rw [if_neg h1, if_pos h2]
          omega
        · rw [decide_eq_false (fun z => h2 (s2.mp z))]
          refine iteF (fin _ ?_)
          unfold NN.deepBy
          rw [if_neg h1, if_neg h2]
          omega
  · rintro σ' H' ⟨o3, o4, d, rfl, hS, shp, hdue⟩
    have e1 : (tx L).cps.toList.length = L.length := rfl
    rw [e1] at shp hdue ⊢
    rw [List.take_of_length_le (Nat.le_refl _)] at shp hdue ⊢
    rw [List.drop_of_length_le (Nat.le_refl _), NN.dueFrom] at hdue
    have hfin := shp.fin
    have ln : (d = 0 ∧ (NN.stOf L = 2 ∨ NN.stOf L = 4 ∨ NN.stOf L = 5 ∨ NN.stOf L = 6) → Q .non H') := fun z => by
      rw [if_neg (fun y => hfin.mp y z)] at hdue
      have y := q H' hS
      rw [hdue] at y
      exact y
    have ls : ∀ H2, Same H H2 → ¬ (d = 0 ∧ (NN.stOf L = 2 ∨ NN.stOf L = 4 ∨ NN.stOf L = 5 ∨ NN.stOf L = 6)) → Q (.int (((tx L).length : Nat) : Int)) H2 := fun H2 S2 z => by
      rw [if_pos (hfin.mpr z)] at hdue
      have y := q H2 S2
      rw [hdue] at y
      rw [tx_len]
      exact y
    have hzl : (tx L).length ≤ sizeLine := by rw [tx_len]; exact small (by omega)
    refine ⟨_, rfl, rfl, _, rfl, ?_⟩
    by_cases h1 : d = 0
    · rw [decide_eq_true (congrArg V.int h1)]
      refine iteT ⟨_, rfl, NN.stOf L, rfl, NN.stOf_le _, fun H2 S2 => ⟨_, rfl, ?_⟩⟩
      have S := hS.trans S2
      by_cases h2 : NN.stOf L = 2 ∨ NN.stOf L = 4 ∨ NN.stOf L = 5 ∨ NN.stOf L = 6
      · rw [decide_eq_true h2]
        refine iteT ?_
        rw [if_neg (fun y => hfin.mp y ⟨h1, h2⟩)] at hdue
        have y := q H2 S
        rw [hdue] at y
        exact y
      · rw [decide_eq_false h2]
        exact iteF ⟨_, rfl, _, rfl, hzl, ls _ S fun z => h2 z.2⟩
    · rw [decide_eq_false (fun e => h1 (V.int.inj e))]
      exact iteF (iteF ⟨_, rfl, _, rfl, hzl, ls _ hS fun z => h1 z.1⟩)
end
end K5

set_option Elab.async false
set_option linter.all false
set_option maxRecDepth 100000
set_option maxHeartbeats 16000000
namespace K5
open PySem L2
/-! ### the law's own lines -/
def marks : Str := ("!\"#$&'()*+,-./0123456789:;<=>?@ABCDEFGHIJKLMNOPQRSTUVWXYZ[\\]^_`" : Str) ++ ("abcdefghijklmnopqrstuvwxyz{|}~ " : Str)
theorem marks_len : marks.length = 94 := by decide +kernel
def spMarks : Sp := fun vs H Q _ => vs = [] ∧ Q (.str marks) H
def spSpoilt : Sp := fun vs H Q _ => ∃ (W : List Nat) (way spot : Int) (c : Nat), vs = [.str (tx W), .int way, .int spot, .str (tx [c])] ∧ W.length ≤ 6000 ∧ Q (.str (tx (NN.spoil W way (spot % ((W.length : Int) + 1)).toNat c))) H
section
variable {P : Program} {w : World} {K : PySem.W.Frag} {mg : Str → Option Value} {base : Heap} {f g : Addr} {fd gd : FuncData}
theorem sc_marks : FnScope ["_law_signs"] [] (defScope s_marks) := ⟨rfl, rfl, rfl, by decide +kernel, rfl, by decide +kernel, by decide +kernel⟩
theorem ok_marks (Fn : Fun K "_law_marks" "_law_marks" s_marks f fd) : FnOk P w K mg base CX0 1 f fd [] spMarks := by
  refine Fn.ok sc_marks (fun vs H Q E h => ?_) (fun cdv A outer s H vs Q E hr h => ?_)
  · obtain ⟨rfl, _⟩ := h
    rfl
  obtain ⟨rfl, q⟩ := h
  refine ⟨_, (pss_cons (ps_set (i := 0) sc_marks.nd rfl (Or.inl rfl) pe_str)
 (pss_one (ps_ret (pe_op op_add_str (pv 0) pe_str)))), ?_⟩
  exact ⟨_, rfl, _, _, rfl, rfl, by decide +kernel, q⟩
theorem sc_spoilt : FnScope ["_law_line", "_law_way", "_law_spot", "_law_sign", "_law_place"] ["_law_line", "_law_way", "_law_spot", "_law_sign"] (defScope s_spoilt) := ⟨rfl, rfl, rfl, by decide +kernel, rfl, by decide +kernel, by decide +kernel⟩
theorem ok_spoilt (Fn : Fun K "_law_spoilt" "_law_spoilt" s_spoilt f fd) (m_len : mg "len" = none) : FnOk P w K mg base CX0 1 f fd ["_law_line", "_law_way", "_law_spot", "_law_sign"] spSpoilt := by
  refine Fn.ok sc_spoilt (fun vs H Q E h => ?_) (fun cdv A outer s H vs Q E hr h => ?_)
  · obtain ⟨W, way, spot, c, rfl, _⟩ := h
    rfl
  obtain ⟨W, way, spot, c, rfl, hW, q⟩ := h
  refine ⟨_, (pss_cons (ps_set (i := 4) sc_spoilt.nd rfl (Or.inl rfl) (pe_op op_mod (pv 2) (pe_op op_add (pe_callB call_len_str rfl m_len PySem.boot_len (pa_cons (pv 0) pa_nil)) pe_int)))
 (pss_cons (ps_if (pt_cmpR op_eq (pv 1) pe_int (nomark _))
 (pss_one (ps_ret (pe_op op_add_str (pe_op op_add_str (pe_slice sl_str (pv 0) po_none (po_some (pv 4))) (pv 3)) (pe_slice sl_str (pv 0) (po_some (pe_op op_add (pv 4) pe_int)) po_none))))
 pss_nil)
 (pss_cons (ps_if (pt_cmpR op_eq (pv 1) pe_int (nomark _))
 (pss_one (ps_ret (pe_op op_add_str (pe_slice sl_str (pv 0) po_none (po_some (pv 4))) (pe_slice sl_str (pv 0) (po_some (pe_op op_add (pv 4) pe_int)) po_none))))
 pss_nil)
 (pss_cons (ps_if (pt_cmpR op_eq (pv 1) pe_int (nomark _))
 (pss_one (ps_ret (pe_op op_add_str (pe_op op_add_str (pe_slice sl_str (pv 0) po_none (po_some (pv 4))) (pv 3)) (pe_slice sl_str (pv 0) (po_some (pv 4)) po_none))))
 pss_nil)
 (pss_one (ps_ret (pv 0))))))), ?_⟩
  have hle : (tx W).length ≤ sizeLine := by rw [tx_len]; exact small (by omega)
  refine ⟨_, rfl, _, rfl, tx W, rfl, hle, _, _, rfl, rfl, _, _, rfl, rfl, (by show (0 : Int) < ((tx W).length : Int) + 1; omega), ?_⟩
  have h0 := Int.emod_nonneg spot (show ((W.length : Int) + 1) ≠ 0 by omega)
  obtain ⟨p, hp⟩ : ∃ p : Nat, spot % ((W.length : Int) + 1) = (p : Int) := ⟨_, (Int.toNat_of_nonneg h0).symm⟩
  have hp2 : spot % (((tx W).length : Int) + 1) = (p : Int) := by rw [tx_len]; exact hp
  rw [hp, Int.toNat_natCast] at q
  show gName 4 (.int (spot % (((tx W).length : Int) + 1))) _ _ _
  rw [hp2]
  have e1 : ((p : Int) + 1) = ((p + 1 : Nat) : Int) := by omega
  have la : ∀ k : Nat, (Txt.slice (tx W) none (some (k : Int))).length ≤ W.length := fun k => by rw [← cod_len, cod_to, cod_tx, List.length_take]; omega
  have lb : ∀ k : Nat, (Txt.slice (tx W) (some (k : Int)) none).length ≤ W.length := fun k => by rw [← cod_len, cod_from, cod_tx, List.length_drop]; omega
  have l1 : (tx [c]).length = 1 := by rw [tx_len]; rfl
  have ls : ∀ a b : Str, (a ++ b).length = a.length + b.length := fun a b => by rw [← cod_len, cod_app, List.length_append, cod_len, cod_len]
  unfold NN.spoil at q
  refine ⟨_, rfl, rfl, _, rfl, ite2 (fun d => ?_) (fun d => ?_)⟩
  · have d' : way = 1 := V.int.inj (of_decide_eq_true d)
    rw [if_pos d'] at q
    have h1 := la p
    have h2 := lb (p + 1)
    refine ⟨_, rfl, _, rfl, _, rfl, tx W, rfl, hle, _, rfl, _, _, rfl, rfl, small (by omega), _, rfl, _, rfl, _, _, rfl, rfl, _, rfl, tx W, rfl, hle, _, _, rfl, rfl, ?_, ?_⟩
    · rw [e1, ls]; exact small (by omega)
    · rw [e1, show (Txt.slice (tx W) none (some (p : Int)) ++ tx [c] ++ Txt.slice (tx W) (some ((p + 1 : Nat) : Int)) none) = tx (W.take p ++ [c] ++ W.drop (p + 1)) from str_tx (by rw [cod_app, cod_app, cod_to, cod_from])]
      exact q
  · have d' : ¬ way = 1 := fun e => d (decide_eq_true (congrArg V.int e))
    rw [if_neg d'] at q
    refine ⟨_, rfl, rfl, _, rfl, ite2 (fun d2 => ?_) (fun d2 => ?_)⟩
    · have d2' : way = 2 := V.int.inj (of_decide_eq_true d2)
      rw [if_pos d2'] at q
      have h1 := la p
      have h2 := lb (p + 1)
      refine ⟨_, rfl, _, rfl, _, rfl, tx W, rfl, hle, _, rfl, _, rfl, _, _, rfl, rfl, _, rfl, tx W, rfl, hle, _, _, rfl, rfl, ?_, ?_⟩
      · rw [e1]; exact small (by omega)
      · rw [e1, show (Txt.slice (tx W) none (some (p : Int)) ++ Txt.slice (tx W) (some ((p + 1 : Nat) : Int)) none) = tx (W.take p ++ W.drop (p + 1)) from str_tx (by rw [cod_app, cod_to, cod_from])]
        exact q
    · have d2' : ¬ way = 2 := fun e => d2 (decide_eq_true (congrArg V.int e))
      rw [if_neg d2'] at q
      refine ⟨_, rfl, rfl, _, rfl, ite2 (fun d3 => ?_) (fun d3 => ?_)⟩
      · have d3' : way = 3 := V.int.inj (of_decide_eq_true d3)
        rw [if_pos d3'] at q
        have h1 := la p
        have h2 := lb p
        refine ⟨_, rfl, _, rfl, _, rfl, tx W, rfl, hle, _, rfl, _, _, rfl, rfl, small (by omega), _, rfl, _, rfl, _, rfl, tx W, rfl, hle, _, _, rfl, rfl, ?_, ?_⟩
        · rw [ls]; exact small (by omega)
        · rw [show (Txt.slice (tx W) none (some (p : Int)) ++ tx [c] ++ Txt.slice (tx W) (some (p : Int)) none) = tx (W.take p ++ [c] ++ W.drop p) from str_tx (by rw [cod_app, cod_app, cod_to, cod_from])]
          exact q
      · have d3' : ¬ way = 3 := fun e => d3 (decide_eq_true (congrArg V.int e))
        rw [if_neg d3'] at q
        exact ⟨_, rfl, q⟩
end
end K5

set_option Elab.async false
set_option linter.all false
set_option maxRecDepth 100000
set_option maxHeartbeats 16000000
namespace K5
open PySem L2
/-! ### the line that the steps write -/
def spWritten (K : PySem.W.Frag) : Sp := fun vs H Q _ => ∃ (a : Addr) (ns : List Int), vs = [.ref a] ∧ SqL K H a (ns.map V.int) ∧ ns.length ≤ 200 ∧ ∀ H', Same H H' → Q (.str (tx (NN.grownT ns).line)) H'
section
variable {P : Program} {w : World} {K : PySem.W.Frag} {mg : Str → Option Value} {base : Heap} {f g g2 : Addr} {fd gd gd2 : FuncData}
abbrev NWr : List Str := ["_law_cells", "_law_parts", "_law_cell", "_law_way", "_law_inner"]
theorem len_blank : (" " : Str).length ≤ 16 := by decide +kernel
theorem sc_written : FnScope NWr ["_law_cells"] (defScope s_written) := ⟨rfl, rfl, rfl, by decide +kernel, rfl, by decide +kernel, by decide +kernel⟩
theorem ok_written (Fn : Fun K "_law_written" "_law_written" s_written f fd)
    (G__law_word_of : FnOk P w K mg base CX0 2 g gd ["_law_cell"] spWordOf) (b__law_word_of : Binds K gd ["_law_cell"] []) (k__law_word_of : PySem.W.keepIn K (.ref g) = true) (m__law_word_of : mg "_law_word_of" = some (.ref g))
    (G__law_number_of : FnOk P w K mg base CX0 2 g2 gd2 ["_law_cell"] spNumberOf) (b__law_number_of : Binds K gd2 ["_law_cell"] []) (k__law_number_of : PySem.W.keepIn K (.ref g2) = true) (m__law_number_of : mg "_law_number_of" = some (.ref g2))
    (m_len : mg "len" = none) (m_str : mg "str" = none) : FnOk P w K mg base CX0 3 f fd ["_law_cells"] (spWritten K) := by
  refine Fn.ok sc_written (fun vs H Q E h => ?_) (fun cdv A outer s H vs Q E hr h => ?_)
  · obtain ⟨a, ns, rfl, _⟩ := h
    rfl
  obtain ⟨a, ns, rfl, hS, h200, q⟩ := h
  -- behind the loop
  have tail : ∃ t, PSs (CxD P w K mg base NWr "_law_written" s_written f cdv A outer s H E) ((defBody s_written).drop 2) t ∧
      ∀ (R : Addr) (as : List Addr) (rows : List (List NN.T)) (o2 o3 o4 : Option V) (H1 : Hp), Grw H H1 R (lrows rows) as → rows ≠ [] → NN.wrows rows ≤ 201 → NN.fineRows rows →
        oneOr (NN.shutAll rows) = NN.grownT ns →
        t { nx := fun _ H' => Q .non H', rt := Q } [some (.ref a), some (.ref R), o2, o3, o4] H1 := by
    refine ⟨_, (pss_cons (ps_while PassesOwn.never (pt_cmpR op_gt (pe_callB call_len_seq rfl m_len PySem.boot_len (pa_cons (pv 1) pa_nil)) pe_int (nomark _))
      (pss_cons (ps_set (i := 4) sc_written.nd rfl (Or.inl rfl) (pe_op op_add_str (pe_op op_add_str pe_str (pe_bm PySem.F.plainAttrs_str PySem.F.slot_str_join PySem.F.type_str_join mt_join pe_str (pa_cons (pe_bm0 PySem.F.plainAttrs_list PySem.F.slot_list_pop PySem.F.type_list_pop mt_pop (pv 1)) pa_nil))) pe_str))
      (pss_one (ps_expr (pe_bm PySem.F.plainAttrs_list PySem.F.slot_list_append PySem.F.type_list_append mt_append (pe_ix ix_list (pv 1) (pe_un un_neg pe_int) (fun _ _ => rfl)) (pa_cons (pv 4) pa_nil))))))
      (pss_cons (ps_if (pt_cmpR op_eq (pe_callB call_len_seq rfl m_len PySem.boot_len (pa_cons (pe_ix ix_list (pv 1) pe_int (fun _ _ => rfl)) pa_nil)) pe_int (nomark _))
      (pss_one (ps_ret (pe_ix ix_list (pe_ix ix_list (pv 1) pe_int (fun _ _ => rfl)) pe_int (fun _ _ => rfl))))
      pss_nil)
      (pss_one (ps_ret (pe_op op_add_str (pe_op op_add_str pe_str (pe_bm PySem.F.plainAttrs_str PySem.F.slot_str_join PySem.F.type_str_join mt_join pe_str (pa_cons (pe_ix ix_list (pv 1) pe_int (fun _ _ => rfl)) pa_nil))) pe_str))))), fun R as rows o2 o3 o4 H1 g1 hne hw hf hfin => ?_⟩
    refine while_by (fun σ H' => ∃ (as : List Addr) (rows : List (List NN.T)) (o4 : Option V), σ = [some (.ref a), some (.ref R), o2, o3, o4] ∧ Grw H H' R (lrows rows) as ∧ rows ≠ [] ∧ NN.wrows rows ≤ 201 ∧ NN.fineRows rows ∧ oneOr (NN.shutAll rows) = NN.grownT ns)
      (fun (σ : St) (H' : Hp) => match H' R with | some (.lst xs) => xs.length | _ => 0) ⟨as, rows, o4, rfl, g1, hne, hw, hf, hfin⟩ ?_
      (fun σ H Q Q' h z => ?_)
    · rintro σ H' ⟨as, rows, o4, rfl, gr, hne, hw, hf, hfin⟩
      have hlen : as.length = rows.length := by rw [gr.opn.len]; simp [lrows]
      refine ⟨_, rfl, R, _, rfl, .inl (SqL.of gr.at_), _, _, rfl, rfl, _, rfl, ?_⟩
      refine ite2 (fun d => ?_) (fun d => ?_)
      · have d' : (1 : Int) < (((as.reverse.map V.ref).length : Nat) : Int) := of_decide_eq_true d
        rw [List.length_map, List.length_reverse, hlen] at d'
        match rows, as, gr, hlen, d', hne, hw, hf, hfin with
        | r :: s2 :: rest, b :: c :: cs, gr, hlen, d', hne, hw, hf, hfin =>
          obtain ⟨hdl, hlast⟩ := pop_last b (c :: cs)
          obtain ⟨hb, hc, cR, bR⟩ := gr.two
          obtain ⟨w1, w2, w3⟩ := wrap_ok hf.1 (show NN.T.sizes r ≤ 300 by simp only [NN.wrows] at hw; omega)
          refine ⟨rfl, _, rfl, .inl ⟨rfl, _, SqL.of gr.at_⟩, R, _, _, rfl, rfl, gr.at_, hlast, ?_⟩
          refine ⟨" ", b, r.map (fun t => tx t.line), rfl, rfl, SqL.of (by rw [upd_ne bR, List.map_map]; exact hb), len_blank, w1, ?_⟩
          refine ⟨_, _, rfl, rfl, w2, ?_⟩
          refine ⟨_, _, rfl, rfl, w3, ?_⟩
          rw [hdl, wrap_text]
          refine ⟨_, rfl, 1, rfl, R, _, _, _, rfl, rfl, SqL.of upd_same, last_ref cs c, .inl ⟨rfl, _, SqL.of (by rw [upd_ne cR]; exact hc)⟩, _, rfl, c, _, _, rfl, rfl, by rw [upd_ne cR]; exact hc, ?_, ?_⟩
          · have l2 := len_sizes s2
            rw [List.length_map]
            simp only [NN.wrows] at hw
            exact small1000 (by omega)
          · have hw2 : NN.wrows (NN.shut (r :: s2 :: rest)) ≤ 201 := by
              simp only [NN.shut, NN.wrows, NN.T.sizes_app, NN.T.sizes, NN.T.size] at hw ⊢
              omega
            have gs := gr.shutText hc
            refine ⟨⟨c :: cs, NN.shut (r :: s2 :: rest), _, rfl, gs, by simp [NN.shut], hw2, ⟨NN.T.fines_app.mpr ⟨hf.2.1, (show NN.T.fines [.lst r] from ⟨hf.1, trivial⟩)⟩, hf.2.2⟩, ?_⟩, ?_⟩
            · rw [← hfin]
              show oneOr (NN.shutAll ((s2 ++ [NN.T.lst r]) :: rest)) = _
              rw [NN.shutAll.eq_3]
            · show (match upd (upd H' R (.lst ((c :: cs).reverse.map V.ref))) c _ R with | some (.lst xs) => xs.length | _ => 0) < (match H' R with | some (.lst xs) => xs.length | _ => 0)
              rw [upd_ne (Ne.symm cR), upd_same, gr.at_]
              simp
        | [], _, gr, hlen, d', hne, hw, hf, hfin => exact absurd rfl hne
        | [r], _, gr, hlen, d', hne, hw, hf, hfin => simp at d'
        | r :: s2 :: rest, [], gr, hlen, d', hne, hw, hf, hfin => simp at hlen
        | r :: s2 :: rest, [b], gr, hlen, d', hne, hw, hf, hfin => simp at hlen
      · have d' : ¬ (1 : Int) < (((as.reverse.map V.ref).length : Nat) : Int) := fun e => d (decide_eq_true e)
        rw [List.length_map, List.length_reverse, hlen] at d'
        match rows, as, gr, hlen, d', hne, hw, hf, hfin with
        | [r], [b], gr, hlen, d', hne, hw, hf, hfin =>
          have hfin' : oneOr r = NN.grownT ns := by
            rw [← hfin, NN.shutAll.eq_2]
          obtain ⟨_, _, vs, e0, hb, ht, _⟩ := id gr.opn
          cases e0
          have hvs := Trs.leaf.mp ht
          subst hvs
          obtain ⟨w1, w2, w3⟩ := wrap_ok hf.1 (show NN.T.sizes r ≤ 300 by simp only [NN.wrows] at hw; omega)
          refine ⟨_, rfl, R, _, _, _, rfl, rfl, SqL.of gr.at_, rfl, b, _, rfl, .inl (SqL.of hb), rfl, _, rfl, ?_⟩
          rw [List.length_map]
          refine ite2 (fun k => ?_) (fun k => ?_)
          · have k' : ((r.length : Nat) : Int) = 1 := V.int.inj (of_decide_eq_true k)
            match r, k', hfin', hb with
            | [t], k', hfin', hb =>
              refine ⟨_, rfl, R, _, _, _, rfl, rfl, SqL.of gr.at_, rfl, b, _, _, _, rfl, rfl, SqL.of hb, rfl, ?_⟩
              have q1 := q H' gr.same
              rw [← hfin'] at q1
              exact q1
            | [], k', hfin', hb => simp at k'
            | t :: u :: r, k', hfin', hb => simp at k'; omega
          · have k' : ¬ ((r.length : Nat) : Int) = 1 := fun e => k (decide_eq_true (congrArg V.int e))
            refine ⟨rfl, _, rfl, R, _, _, _, rfl, rfl, SqL.of gr.at_, rfl, ?_⟩
            refine ⟨" ", b, r.map (fun t => tx t.line), rfl, rfl, SqL.of (by rw [List.map_map]; exact hb), len_blank, w1, ?_⟩
            refine ⟨_, _, rfl, rfl, w2, ?_⟩
            refine ⟨_, _, rfl, rfl, w3, ?_⟩
            rw [wrap_text]
            have e : NN.grownT ns = .lst r := by
              rw [← hfin']
              match r, k' with
              | [], _ => rfl
              | [t], k' => exact absurd rfl k'
              | t :: u :: r, _ => rfl
            have q1 := q H' gr.same
            rw [e] at q1
            exact q1
        | [], _, gr, hlen, d', hne, hw, hf, hfin => exact absurd rfl hne
        | [r], [], gr, hlen, d', hne, hw, hf, hfin => simp at hlen
        | [r], b :: c :: cs, gr, hlen, d', hne, hw, hf, hfin => simp at hlen
        | r :: s2 :: rest, _, gr, hlen, d', hne, hw, hf, hfin => simp at d'; omega
    · obtain ⟨v, e, p, ys, e1, hs, i, j, e2, e3, k, e4, q⟩ := z
      exact ⟨v, e, p, ys, e1, hs, i, j, e2, e3, k, e4, h _ _ q⟩
  obtain ⟨t1, h1, r1⟩ := tail
  refine ⟨_, (pss_cons (ps_set (i := 1) sc_written.nd rfl (Or.inl rfl) (pe_lst (pa_cons (pe_lst pa_nil) pa_nil)))
      (pss_cons (ps_for PassesOwn.never rfl (pi_list (pv 0)) (pg_name (i := 2) sc_written.nd rfl (Or.inl rfl))
      (pss_cons (ps_set (i := 3) sc_written.nd rfl (Or.inl rfl) (pe_op op_mod (pv 2) pe_int))
      (pss_one (ps_if (pt_cmpR op_eq (pv 3) pe_int (nomark _))
      (pss_one (ps_expr (pe_bm PySem.F.plainAttrs_list PySem.F.slot_list_append PySem.F.type_list_append mt_append (pv 1) (pa_cons (pe_lst pa_nil) pa_nil))))
      (pss_one (ps_if (PW.pt (pw_and (pt_cmpR op_eq (pv 3) pe_int (nomark _)) (pw_and1 (pt_cmpR op_gt (pe_callB call_len_seq rfl m_len PySem.boot_len (pa_cons (pv 1) pa_nil)) pe_int (nomark _)))))
      (pss_cons (ps_set (i := 4) sc_written.nd rfl (Or.inl rfl) (pe_op op_add_str (pe_op op_add_str pe_str (pe_bm PySem.F.plainAttrs_str PySem.F.slot_str_join PySem.F.type_str_join mt_join pe_str (pa_cons (pe_bm0 PySem.F.plainAttrs_list PySem.F.slot_list_pop PySem.F.type_list_pop mt_pop (pv 1)) pa_nil))) pe_str))
      (pss_one (ps_expr (pe_bm PySem.F.plainAttrs_list PySem.F.slot_list_append PySem.F.type_list_append mt_append (pe_ix ix_list (pv 1) (pe_un un_neg pe_int) (fun _ _ => rfl)) (pa_cons (pv 4) pa_nil)))))
      (pss_one (ps_if (pt_cmpR op_lt (pv 3) pe_int (nomark _))
      (pss_one (ps_expr (pe_bm PySem.F.plainAttrs_list PySem.F.slot_list_append PySem.F.type_list_append mt_append (pe_ix ix_list (pv 1) (pe_un un_neg pe_int) (fun _ _ => rfl)) (pa_cons (pe_call G__law_word_of hr rfl m__law_word_of k__law_word_of b__law_word_of .nil pass0 (pa_cons (pv 2) pa_nil)) pa_nil))))
      (pss_one (ps_expr (pe_bm PySem.F.plainAttrs_list PySem.F.slot_list_append PySem.F.type_list_append mt_append (pe_ix ix_list (pv 1) (pe_un un_neg pe_int) (fun _ _ => rfl)) (pa_cons (pe_callTy call_str_int rfl m_str boot_str (pa_cons (pe_call G__law_number_of hr rfl m__law_number_of k__law_number_of b__law_number_of .nil pass0 (pa_cons (pv 2) pa_nil)) pa_nil)) pa_nil))))))))))))
      h1)), ?_⟩
  refine ⟨(by show (0 : Nat) ≤ sizeLine; decide), fun r0 h0 => ⟨(by show (1 : Nat) ≤ sizeLine; decide), fun R hR => ?_⟩⟩
  have g0 : Grw H (upd (upd H r0 (.lst [])) R (.lst [.ref r0])) R (lrows [[]]) [r0] := grw_start h0 hR
  refine ⟨_, rfl, a, rfl, ⟨_, (g0.same).seq hS⟩, for_list (xs := ns.map V.int) (fun i σ H' => ∃ (as : List Addr) (o2 o3 o4 : Option V), σ = [some (.ref a), some (.ref R), o2, o3, o4] ∧ Grw H H' R (lrows ((ns.take i).foldl NN.grow1 [[]])) as)
    ⟨[r0], none, none, none, rfl, g0⟩ (fun i σ H' _ ⟨_, _, _, _, _, gr⟩ => gr.same.seq hS) ?_ ?_⟩
  · rintro i x σ H' hx ⟨as, o2, o3, o4, rfl, gr⟩
    have hi : i < ns.length := by
      have z := (List.getElem?_eq_some_iff.mp hx).1
      rw [List.length_map] at z
      exact z
    obtain ⟨c, hc, rfl⟩ : ∃ c, ns[i]? = some c ∧ x = .int c := by
      rw [List.getElem?_map, List.getElem?_eq_getElem hi] at hx
      exact ⟨ns[i], List.getElem?_eq_getElem hi, (Option.some.inj hx).symm⟩
    have hnext : (ns.take (i + 1)).foldl NN.grow1 [[]] = NN.grow1 ((ns.take i).foldl NN.grow1 [[]]) c := by
      rw [List.take_add_one, hc, List.foldl_append]
      rfl
    rw [hnext]
    obtain ⟨hne, hw, hf⟩ := NN.grow_ok (ns.take i) (rows := [[]]) (by simp) ⟨trivial, trivial⟩
    have hw0 : NN.wrows [[]] = 1 := rfl
    have hwi : NN.wrows ((ns.take i).foldl NN.grow1 [[]]) ≤ 200 := by
      rw [hw0, List.length_take] at hw
      omega
    generalize (ns.take i).foldl NN.grow1 [[]] = rows at gr hne hwi hf
    have hlen : as.length = rows.length := by rw [gr.opn.len]; simp [lrows]
    have hrl := len_wrows rows
    refine ⟨_, rfl, _, _, rfl, rfl, (by show (0 : Int) < 5; decide), _, rfl, rfl, _, rfl, ?_⟩
    refine ite2 (fun d => ?_) (fun d => ?_)
    · have d' : c % 5 = 0 := V.int.inj (of_decide_eq_true d)
      refine ⟨_, rfl, .inl ⟨rfl, _, SqL.of gr.at_⟩, (by show (0 : Nat) ≤ sizeLine; decide), fun p hp => ?_⟩
      have hRp : R ≠ p := fun e => by rw [← e, gr.at_] at hp; cases hp
      refine ⟨R, _, _, rfl, rfl, by rw [upd_ne hRp]; exact gr.at_, ?_, p :: as, _, _, _, rfl, ?_⟩
      · rw [List.length_map, List.length_reverse, hlen]
        exact small1000 (by omega)
      · unfold NN.grow1
        rw [if_pos d']
        exact gr.open_ hp
    · have d' : ¬ c % 5 = 0 := fun e => d (decide_eq_true (congrArg V.int e))
      refine ⟨_, rfl, rfl, _, rfl, ?_⟩
      refine ite_and (c2 := decide ((1 : Int) < (((as.reverse.map V.ref).length : Nat) : Int))) (fun z => ⟨_, rfl, R, _, rfl, .inl (SqL.of gr.at_), _, _, rfl, rfl, _, rfl, z⟩) (ite2 (fun k => ?_) (fun k => ?_))
      · rw [Bool.and_eq_true] at k
        have k1 : c % 5 = 1 := V.int.inj (of_decide_eq_true k.1)
        have k2 : (1 : Int) < (((as.reverse.map V.ref).length : Nat) : Int) := of_decide_eq_true k.2
        rw [List.length_map, List.length_reverse, hlen] at k2
        have hg : NN.grow1 rows c = NN.shut rows := by
          unfold NN.grow1
          rw [if_neg d', if_pos ⟨k1, by omega⟩]
        rw [hg]
        match rows, as, gr, hlen, k2, hwi, hf with
        | r :: s2 :: rest, b :: e :: cs, gr, hlen, k2, hwi, hf =>
          obtain ⟨hdl, hlast⟩ := pop_last b (e :: cs)
          obtain ⟨hb, he, eR, bR⟩ := gr.two
          obtain ⟨w1, w2, w3⟩ := wrap_ok hf.1 (show NN.T.sizes r ≤ 300 by simp only [NN.wrows] at hwi; omega)
          refine ⟨rfl, _, rfl, .inl ⟨rfl, _, SqL.of gr.at_⟩, R, _, _, rfl, rfl, gr.at_, hlast, ?_⟩
          refine ⟨" ", b, r.map (fun t => tx t.line), rfl, rfl, SqL.of (by rw [upd_ne bR, List.map_map]; exact hb), len_blank, w1, ?_⟩
          refine ⟨_, _, rfl, rfl, w2, ?_⟩
          refine ⟨_, _, rfl, rfl, w3, ?_⟩
          rw [hdl, wrap_text]
          refine ⟨_, rfl, 1, rfl, R, _, _, _, rfl, rfl, SqL.of upd_same, last_ref cs e, .inl ⟨rfl, _, SqL.of (by rw [upd_ne eR]; exact he)⟩, _, rfl, e, _, _, rfl, rfl, by rw [upd_ne eR]; exact he, ?_, e :: cs, _, _, _, rfl, gr.shutText he⟩
          have l2 := len_sizes s2
          rw [List.length_map]
          simp only [NN.wrows] at hwi
          exact small1000 (by omega)
        | [], _, gr, hlen, k2, hwi, hf => simp at k2
        | [r], _, gr, hlen, k2, hwi, hf => simp at k2
        | r :: s2 :: rest, [], gr, hlen, k2, hwi, hf => simp at hlen
        | r :: s2 :: rest, [b], gr, hlen, k2, hwi, hf => simp at hlen
      · have k' : ¬ (c % 5 = 1 ∧ 1 < rows.length) := fun ⟨e1, e2⟩ => k (by
          rw [decide_eq_true (congrArg V.int e1), List.length_map, List.length_reverse, hlen, decide_eq_true (show (1 : Int) < ((rows.length : Nat) : Int) by omega)]
          rfl)
        have hg : NN.grow1 rows c = if c % 5 < 3 then NN.push (.str (NN.wordOf c)) rows else NN.push (.int (NN.numberOf c)) rows := by
          unfold NN.grow1
          rw [if_neg d', if_neg k']
        rw [hg]
        match rows, as, gr, hlen, hwi, hne with
        | r :: rest, b :: bs, gr, hlen, hwi, hne =>
          obtain ⟨_, _, vs, e0, hb, ht, _⟩ := id gr.opn
          cases e0
          have hvs := Trs.leaf.mp ht
          subst hvs
          have hvl : (r.map fun t => V.str (tx t.line)).length < sizeLine := by
            have l2 := len_sizes r
            rw [List.length_map]
            simp only [NN.wrows] at hwi
            exact small1000 (by omega)
          refine ⟨_, rfl, _, _, rfl, rfl, _, rfl, ?_⟩
          refine ite2 (fun j => ?_) (fun j => ?_)
          · have j' : c % 5 < 3 := of_decide_eq_true j
            rw [if_pos j', lrows_push]
            refine ⟨_, rfl, 1, rfl, R, _, _, _, rfl, rfl, SqL.of gr.at_, last_ref bs b, .inl ⟨rfl, _, SqL.of hb⟩, _, rfl, c, rfl, b, _, _, rfl, rfl, hb, hvl, _, _, _, _, rfl, Grw.push gr hb ?_⟩
            rw [lf, Tr]
            rfl
          · have j' : ¬ c % 5 < 3 := fun e => j (decide_eq_true e)
            rw [if_neg j', lrows_push]
            refine ⟨_, rfl, 1, rfl, R, _, _, _, rfl, rfl, SqL.of gr.at_, last_ref bs b, .inl ⟨rfl, _, SqL.of hb⟩, _, rfl, c, rfl, fun H2 e2 => ?_⟩
            have gr2 := gr.later e2
            refine ⟨_, rfl, log_num c, b, _, _, rfl, rfl, e2 _ _ hb, hvl, _, _, _, _, rfl, Grw.push gr2 (e2 _ _ hb) ?_⟩
            rw [lf, Tr]
            exact congrArg V.str (str_tx (cod_str _))
        | [], _, gr, hlen, hwi, hne => exact absurd rfl hne
        | r :: rest, [], gr, hlen, hwi, hne => simp at hlen
  · rintro σ H' ⟨as, o2, o3, o4, rfl, gr⟩
    rw [List.length_map, List.take_of_length_le (Nat.le_refl _)] at gr
    obtain ⟨hne, hw, hf⟩ := NN.grow_ok ns (rows := [[]]) (by simp) ⟨trivial, trivial⟩
    have hw0 : NN.wrows [[]] = 1 := rfl
    exact r1 R as _ o2 o3 o4 H' gr hne (by rw [hw0] at hw; omega) hf (grownT_eq ns).symm
end
end K5

set_option Elab.async false
set_option linter.all false
set_option maxRecDepth 100000
set_option maxHeartbeats 16000000
namespace K5
open PySem L2
/-! ### the program: leaf_of, pieces_of, thing_of, read -/
def leafV : NN.T → V
  | .int i => .int i
  | .str cs => .str (tx cs)
  | .lst _ => .non
theorem leaf_tr {L : List Addr} {H : Hp} {u : NN.T} (h : NN.okLeaf u) : Tr L H u (leafV u) := by
  cases u with
  | int i => rw [Tr]; rfl
  | str cs => rw [Tr]; rfl
  | lst ts => exact False.elim h
def spLeafOf : Sp := fun vs H Q _ => ∃ u : NN.T, vs = [.str (tx u.line)] ∧ NN.okLeaf u ∧ u.line.length ≤ 10000 ∧ ∀ H', Same H H' → Q (leafV u) H'
def spPieces : Sp := fun vs H Q _ => ∃ t : NN.T, vs = [.str (tx t.line)] ∧ t.wf ∧ t.line.length ≤ 8000 ∧ ∀ l H', Same H H' → H l = none → H' l = some (.lst ((NN.toks t).map fun k => V.str (tx k.txt))) → Q (.ref l) H'
def spThing : Sp := fun vs H Q _ => ∃ t : NN.T, vs = [.str (tx t.line)] ∧ t.sane ∧ t.line.length ≤ 8000 ∧ ∀ v H', Same H H' → Tr [] H' t v → Q v H'
theorem repl1_len (L : List Nat) : (Txt.replace (tx L) "[" "[ ").length ≤ 2 * L.length := by
  have e1 : ("[" : Str) = ⟨#[91]⟩ := by decide +kernel
  have e3 : ("[ " : Str).cps.toList = [91, 32] := by decide +kernel
  have e : (Txt.replace (tx L) "[" "[ ").cps.toList = NN.subst 91 [91, 32] L := by rw [e1, StrLaws.replace_subst, e3]
  rw [← cod_len]
  show (Txt.replace (tx L) "[" "[ ").cps.toList.length ≤ _
  rw [e]
  unfold NN.subst
  induction L with
  | nil => simp
  | cons c L ih =>
    rw [List.flatMap_cons, List.length_append, List.length_cons]
    have : (if c = 91 then [91, 32] else [c]).length ≤ 2 := by split <;> simp
    have ih' := ih (by rw [e1, StrLaws.replace_subst, e3])
    omega
theorem repl2_len (L : List Nat) : (Txt.replace (Txt.replace (tx L) "[" "[ ") "]" " ]").length ≤ 2 * L.length := by
  have e1 : ("[" : Str) = ⟨#[91]⟩ := by decide +kernel
  have e2 : ("]" : Str) = ⟨#[93]⟩ := by decide +kernel
  have e3 : ("[ " : Str).cps.toList = [91, 32] := by decide +kernel
  have e4 : (" ]" : Str).cps.toList = [32, 93] := by decide +kernel
  have ec : (Txt.replace (Txt.replace (tx L) "[" "[ ") "]" " ]").cps.toList = L.flatMap NN.sg := by
    rw [e1, e2, StrLaws.replace_subst, StrLaws.replace_subst, e3, e4]
    exact NN.subst2 L
  rw [← cod_len]
  show (Txt.replace (Txt.replace (tx L) "[" "[ ") "]" " ]").cps.toList.length ≤ _
  rw [ec]
  exact NN.sg_len L
section
variable {P : Program} {w : World} {K : PySem.W.Frag} {mg : Str → Option Value} {base : Heap} {f g g2 C : Addr} {fd gd gd2 : FuncData}
theorem sc_leaf_of : FnScope ["piece"] ["piece"] (defScope s_leaf_of) := ⟨rfl, rfl, rfl, by decide +kernel, rfl, by decide +kernel, by decide +kernel⟩
theorem ok_leaf_of (Fn : Fun K "leaf_of" "leaf_of" s_leaf_of f fd) (G_is_number : FnOk P w K mg base CX0 2 g gd ["line"] spNumber) (b_is_number : Binds K gd ["line"] []) (k_is_number : PySem.W.keepIn K (.ref g) = true) (m_is_number : mg "is_number" = some (.ref g)) (m_int : mg "int" = none) :
    FnOk P w K mg base CX0 3 f fd ["piece"] spLeafOf := by
  refine Fn.ok sc_leaf_of (fun vs H Q E h => ?_) (fun cdv A outer s H vs Q E hr h => ?_)
  · obtain ⟨u, rfl, _⟩ := h
    rfl
  obtain ⟨u, rfl, hu, hz, q⟩ := h
  refine ⟨_, (pss_one (ps_ret (pe_ifExp (pt_val (pe_call G_is_number hr rfl m_is_number k_is_number b_is_number .nil pass0 (pa_cons (pv 0) pa_nil))) (pe_callTy call_int_line rfl m_int boot_int (pa_cons (pv 0) pa_nil)) (pv 0)))), ?_⟩
  refine ⟨_, rfl, tx u.line, rfl, hz, fun H2 S2 => ⟨_, rfl, ?_⟩⟩
  cases u with
  | int i =>
    have hl : (NN.line i).length ≤ 200 := hu
    rw [show cod (tx (NN.T.int i).line) = NN.line i from by rw [NN.T.line], NN.line_isNum]
    refine iteT ⟨_, rfl, i, by rw [NN.T.line], by omega, q H2 S2⟩
  | str cs =>
    have hw : NN.isWord cs = true := hu
    rw [show cod (tx (NN.T.str cs).line) = cs from by rw [NN.T.line], NN.word_isNum hw]
    refine iteF ⟨_, rfl, ?_⟩
    have z := q H2 S2
    rw [show leafV (.str cs) = V.str (tx (NN.T.str cs).line) from by rw [NN.T.line]; rfl] at z
    exact z
  | lst ts => exact False.elim hu
theorem sc_pieces_of : FnScope ["line"] ["line"] (defScope s_pieces_of) := ⟨rfl, rfl, rfl, by decide +kernel, rfl, by decide +kernel, by decide +kernel⟩
theorem ok_pieces_of (Fn : Fun K "pieces_of" "pieces_of" s_pieces_of f fd) : FnOkP P w K mg base CX0 1 f fd ["line"] spPieces := by
  refine Fn.okP sc_pieces_of (fun vs H Q E h => ?_) (fun cdv A outer s H vs Q E hr h => ?_)
  · obtain ⟨t, rfl, _⟩ := h
    rfl
  obtain ⟨t, rfl, hw, hz, q⟩ := h
  refine ⟨_, pssP_one (psP_ret (peP_bm0 PySem.F.plainAttrs_str PySem.F.slot_str_split PySem.F.type_str_split mt_split0 (peP_repl (by decide +kernel) (by decide +kernel) (peP_repl (by decide +kernel) (by decide +kernel) (PE.toP (pv 0)))))), ?_⟩
  have l1 := repl1_len t.line
  have l2 := repl2_len t.line
  refine ⟨_, rfl, tx t.line, rfl, by rw [tx_len]; omega, _, rfl, by omega, rfl, _, rfl, rfl, by omega, fun l hl => ?_⟩
  rw [cut_line t hw, List.map_map]
  exact q l _ (same_new hl _) hl upd_same
abbrev NT : List Str := ["line", "outermost", "pile", "piece", "closed"]
theorem sc_thing_of : FnScope NT ["line"] (defScope s_thing_of) := ⟨rfl, rfl, rfl, by decide +kernel, rfl, by decide +kernel, by decide +kernel⟩
theorem ok_thing_of (Fn : Fun K "thing_of" "thing_of" s_thing_of f fd) (G_pieces_of : FnOkP P w K mg base CX0 3 g gd ["line"] spPieces) (b_pieces_of : Binds K gd ["line"] []) (k_pieces_of : PySem.W.keepIn K (.ref g) = true) (m_pieces_of : mg "pieces_of" = some (.ref g))
    (G_leaf_of : FnOk P w K mg base CX0 3 g2 gd2 ["piece"] spLeafOf) (b_leaf_of : Binds K gd2 ["piece"] []) (k_leaf_of : PySem.W.keepIn K (.ref g2) = true) (m_leaf_of : mg "leaf_of" = some (.ref g2)) : FnOkP P w K mg base CX0 4 f fd ["line"] spThing := by
  refine Fn.okP sc_thing_of (fun vs H Q E h => ?_) (fun cdv A outer s H vs Q E hr h => ?_)
  · obtain ⟨t, rfl, _⟩ := h
    rfl
  obtain ⟨t, rfl, hsn, hz, q⟩ := h
  have hwf := NN.sane_wf t hsn
  refine ⟨_, (pssP_cons (ps_set (i := 1) sc_thing_of.nd rfl (Or.inl rfl) (pe_lst pa_nil))
 (pssP_cons (ps_set (i := 2) sc_thing_of.nd rfl (Or.inl rfl) (pe_lst (pa_cons (pv 1) pa_nil)))
 (pssP_first (psP_for PassesOwn.never rfl (piP_list (peP_call (E := fun _ _ _ => False) G_pieces_of hr rfl m_pieces_of k_pieces_of b_pieces_of .nil pass0 (pa_cons (pv 0) pa_nil))) (pg_name (i := 3) sc_thing_of.nd rfl (Or.inl rfl))
 (pss_one (ps_if (pt_cmpR op_eq (pv 3) pe_str (nomark _))
 (pss_one (ps_expr (pe_bm PySem.F.plainAttrs_list PySem.F.slot_list_append PySem.F.type_list_append mt_append (pv 2) (pa_cons (pe_lst pa_nil) pa_nil))))
 (pss_one (ps_if (pt_cmpR op_eq (pv 3) pe_str (nomark _))
 (pss_cons (ps_set (i := 4) sc_thing_of.nd rfl (Or.inl rfl) (pe_bm0 PySem.F.plainAttrs_list PySem.F.slot_list_pop PySem.F.type_list_pop mt_pop (pv 2)))
 (pss_one (ps_expr (pe_bm PySem.F.plainAttrs_list PySem.F.slot_list_append PySem.F.type_list_append mt_append (pe_ix ix_list (pv 2) (pe_un un_neg pe_int) (fun _ _ => rfl)) (pa_cons (pv 4) pa_nil)))))
 (pss_one (ps_expr (pe_bm PySem.F.plainAttrs_list PySem.F.slot_list_append PySem.F.type_list_append mt_append (pe_ix ix_list (pv 2) (pe_un un_neg pe_int) (fun _ _ => rfl)) (pa_cons (pe_call G_leaf_of hr rfl m_leaf_of k_leaf_of b_leaf_of .nil pass0 (pa_cons (pv 3) pa_nil)) pa_nil)))))))))
 (pss_one (ps_ret (pe_ix ix_list (pv 1) pe_int (fun _ _ => rfl))))))), ?_⟩
  refine ⟨(by show (0 : Nat) ≤ sizeLine; decide), fun o ho => ?_⟩
  refine ⟨_, rfl, (by show (1 : Nat) ≤ sizeLine; decide), fun R hR => ?_⟩
  have g0 := grw_start ho hR
  refine ⟨_, rfl, t, rfl, hwf, hz, fun l H1 S1 hl el => ?_⟩
  have g1 := g0.later S1
  have lo : l ≠ o := fun e => by rw [e] at hl; have := g0.opn.get o (by simp); obtain ⟨_, z⟩ := this; rw [hl] at z; cases z
  have lR : l ≠ R := fun e => by rw [e, g0.at_] at hl; cases hl
  have tl := NN.toks_len t hwf
  refine ⟨l, rfl, ⟨_, SqL.of el⟩, for_list (xs := (NN.toks t).map fun k => V.str (tx k.txt)) (fun i σ' H2 => ∃ (rows : List (List NN.T)) (as : List Addr) (o3 o4 : Option V), σ' = [some (.str (tx t.line)), some (.ref o), some (.ref R), o3, o4] ∧ Grw H H2 R rows as ∧ as.getLast? = some o ∧
    NN.Good t rows ((NN.toks t).drop i) ∧ NN.held rows ≤ i + 1 ∧ H2 l = some (.lst ((NN.toks t).map fun k => V.str (tx k.txt))) ∧ l ∉ R :: as) ?_ ?_ ?_ ?_⟩
  · exact ⟨[[]], [o], none, none, rfl, g1, rfl, NN.good_all t hsn, by simp [NN.held], el, by simp [lo, lR]⟩
  · rintro i σ' H2 _ ⟨_, _, _, _, rfl, _, _, _, _, e, _⟩
    exact SqL.of e
  · rintro i x σ' H2 hx ⟨rows, as, o3, o4, rfl, gr, hlast, good, hheld, el2, nl⟩
    rw [List.getElem?_map] at hx
    cases hk : (NN.toks t)[i]? with
    | none => rw [hk] at hx; cases hx
    | some k =>
    rw [hk] at hx
    have ex : x = .str (tx k.txt) := (Option.some.inj hx).symm
    subst ex
    obtain ⟨hi, ek⟩ := List.getElem?_eq_some_iff.mp hk
    have dr : (NN.toks t).drop i = k :: (NN.toks t).drop (i + 1) := by rw [List.drop_eq_getElem_cons hi, ek]
    rw [dr] at good
    have hshort := NN.toks_short t k (List.mem_of_getElem? hk)
    have hasl := gr.opn.len
    have e91 : ∀ z : List Nat, decide (V.str (tx z) = V.str "[") = decide (z = [91]) := fun z => eq_tx z [91] "[" c91
    have e93 : ∀ z : List Nat, decide (V.str (tx z) = V.str "]") = decide (z = [93]) := fun z => eq_tx z [93] "]" c93
    refine ⟨_, rfl, rfl, _, rfl, ?_⟩
    rw [e91]
    cases k with
    | opn =>
      obtain ⟨hne, good⟩ := good
      rw [decide_eq_true (show NN.Tk.txt .opn = [91] from rfl)]
      refine iteT ⟨_, rfl, .inl ⟨rfl, _, SqL.of gr.at_⟩, (by show (0 : Nat) ≤ sizeLine; decide), fun p hp => ?_⟩
      have Rp : R ≠ p := ne_of_none gr.at_ hp
      have lp : l ≠ p := ne_of_none el2 hp
      have hrl : rows.length ≤ NN.held rows := by
        clear good hheld hasl gr hne
        induction rows with
        | nil => simp
        | cons r rest ih => rw [NN.held, List.length_cons]; omega
      refine ⟨R, _, _, rfl, rfl, (by rw [upd_ne Rp]; exact gr.at_), ?_, ?_⟩
      · rw [List.length_map, List.length_reverse, hasl]
        exact Nat.lt_of_le_of_lt (show rows.length ≤ 9000 by omega) (by decide)
      · refine ⟨[] :: rows, p :: as, _, _, rfl, gr.open_ hp, ?_, good, by rw [NN.held]; simp; omega, ?_, ?_⟩
        · rw [List.getLast?_cons, hlast]; rfl
        · rw [upd_ne (fun e => nl (by simp [e])), upd_ne lp]; exact el2
        · intro m
          rcases List.mem_cons.mp m with z | z
          · exact nl (by simp [z])
          · rcases List.mem_cons.mp z with z | z
            · exact lp z
            · exact nl (by simp [z])
    | cls =>
      obtain ⟨r, s2, rest, rfl, good⟩ := good
      rw [decide_eq_false (show ¬ NN.Tk.txt .cls = [91] from by decide)]
      refine iteF ⟨_, rfl, rfl, _, rfl, ?_⟩
      rw [e93, decide_eq_true (show NN.Tk.txt .cls = [93] from rfl)]
      match as, gr, hlast, nl, hasl with
      | b :: c :: cs, gr, hlast, nl, hasl =>
        obtain ⟨_, _, _, e0, _, _, _, _, ws, e1, hc, ht, _⟩ := id gr.opn
        cases e0
        cases e1
        have cR : c ≠ R := fun e => by
          have nd := gr.nd
          rw [List.nodup_cons] at nd
          exact nd.1 (by simp [e])
        obtain ⟨hdl, hlst⟩ := pop_last b (c :: cs)
        refine iteT ⟨_, rfl, .inl ⟨rfl, _, SqL.of gr.at_⟩, R, _, _, rfl, rfl, gr.at_, hlst, ?_⟩
        rw [hdl]
        refine ⟨_, rfl, 1, rfl, R, _, _, _, rfl, rfl, SqL.of upd_same, last_ref cs c, .inl ⟨rfl, ws, SqL.of (by rw [upd_ne cR]; exact hc)⟩, _, rfl, c, ws, _, rfl, rfl, by rw [upd_ne cR]; exact hc, ?_, ?_⟩
        · have l1 := ht.len
          rw [NN.held, NN.held] at hheld
          exact Nat.lt_of_le_of_lt (show ws.length ≤ 9000 by omega) (by decide)
        · refine ⟨NN.shut (r :: s2 :: rest), c :: cs, _, _, rfl, gr.shut hc, ?_, good, ?_, ?_, fun m => nl (List.mem_cons.mpr ((List.mem_cons.mp m).imp id fun z => List.mem_cons_of_mem _ z))⟩
          · rw [List.getLast?_cons_cons] at hlast; exact hlast
          · show NN.held ((s2 ++ [.lst r]) :: rest) ≤ _
            rw [NN.held, NN.held] at hheld
            rw [NN.held, List.length_append, List.length_singleton]; omega
          · rw [upd_ne (fun e => nl (by simp [e])), upd_ne (fun e => nl (by simp [e]))]; exact el2
      | [], gr, hlast, nl, hasl => simp at hasl
      | [_], gr, hlast, nl, hasl => simp at hasl
    | leaf u =>
      obtain ⟨hu, r, rest, rfl, good⟩ := good
      obtain ⟨n1, n2⟩ := NN.leaf_ne hu
      rw [decide_eq_false (show ¬ NN.Tk.txt (.leaf u) = [91] from n1)]
      refine iteF ⟨_, rfl, rfl, _, rfl, ?_⟩
      rw [e93, decide_eq_false (show ¬ NN.Tk.txt (.leaf u) = [93] from n2)]
      have hshort' : u.line.length ≤ t.line.length := hshort
      match as, gr, hlast, nl, hasl with
      | a :: bs, gr, hlast, nl, hasl =>
        obtain ⟨_, _, vs, e0, ha, ht, _⟩ := id gr.opn
        cases e0
        refine iteF ⟨_, rfl, 1, rfl, R, _, _, _, rfl, rfl, SqL.of gr.at_, last_ref bs a, .inl ⟨rfl, vs, SqL.of ha⟩, _, rfl, u, rfl, hu, by omega, fun H3 S3 => ?_⟩
        have gr3 := gr.later S3
        refine ⟨a, vs, _, rfl, rfl, S3 _ _ ha, ?_, ?_⟩
        · have l1 := ht.len
          rw [NN.held] at hheld
          exact Nat.lt_of_le_of_lt (show vs.length ≤ 9000 by omega) (by decide)
        · refine ⟨NN.push u (r :: rest), a :: bs, _, _, rfl, gr3.push (S3 _ _ ha) (leaf_tr hu), hlast, good, ?_, ?_, nl⟩
          · show NN.held ((r ++ [u]) :: rest) ≤ _
            rw [NN.held] at hheld
            rw [NN.held, List.length_append, List.length_singleton]; omega
          · rw [upd_ne (fun e => nl (by simp [e]))]; exact S3 _ _ el2
      | [], gr, hlast, nl, hasl => simp at hasl
  · rintro σ' H2 ⟨rows, as, o3, o4, rfl, gr, hlast, good, hheld, el2, nl⟩
    rw [List.length_map, List.drop_of_length_le (Nat.le_refl _)] at good
    have e0 : rows = [[t]] := good
    subst e0
    have hasl := gr.opn.len
    match as, gr, hlast, hasl with
    | [a], gr, hlast, hasl =>
      have ea : a = o := by simpa using hlast
      subst ea
      obtain ⟨_, _, vs, e0, ha, ht, _⟩ := id gr.opn
      cases e0
      rw [Trs] at ht
      obtain ⟨v, r2, rfl, ht, e2⟩ := ht
      rw [Trs] at e2
      subst e2
      exact ⟨_, rfl, a, _, _, v, rfl, rfl, SqL.of ha, rfl, q v H2 gr.same (ht.mono fun b o _ z => ⟨by simp, z⟩)⟩
    | [], gr, hlast, hasl => simp at hasl
    | _ :: _ :: _, gr, hlast, hasl => simp at hasl
end
theorem FnOkP.up {P : Program} {w : World} {K : PySem.W.Frag} {mg : Str → Option Value} {base : Heap} {CX : CXT} {j k : Nat} {f : Addr} {fd : FuncData} {ps : List Str} {sp : Sp} (F : FnOkP P w K mg base CX j f fd ps sp) (h : j ≤ k) : FnOkP P w K mg base CX k f fd ps sp :=
  ⟨F.1, fun A outer s H args us vs Q E hp hr => F.2 A outer s H args us vs Q E hp (hr.mono h)⟩
theorem FnOkS.up {P : Program} {w : World} {K : PySem.W.Frag} {mg : Str → Option Value} {base : Heap} {j k : Nat} {f : Addr} {fd : FuncData} {ps : List Str} {sp : Sp} (F : FnOkS P w K mg base j f fd ps sp) (h : j ≤ k) : FnOkS P w K mg base k f fd ps sp :=
  ⟨F.1, fun A outer s H args us vs Q E hr => F.2 A outer s H args us vs Q E (hr.mono h)⟩
section
variable {P : Program} {w : World} {K : PySem.W.Frag} {mg : Str → Option Value} {base : Heap} {f g g2 C : Addr} {fd gd gd2 : FuncData}
theorem sc_read : FnScope ["line"] ["line"] (defScope s_read) := ⟨rfl, rfl, rfl, by decide +kernel, rfl, by decide +kernel, by decide +kernel⟩
theorem ok_read (Fn : Fun K "read" "read" s_read f fd) (G_fault : FnOkS P w K mg base 4 g gd ["line"] spFault) (b_fault : Binds K gd ["line"] []) (k_fault : PySem.W.keepIn K (.ref g) = true) (m_fault : mg "fault" = some (.ref g))
    (G_thing_of : FnOkP P w K mg base CX0 4 g2 gd2 ["line"] spThing) (b_thing_of : Binds K gd2 ["line"] []) (k_thing_of : PySem.W.keepIn K (.ref g2) = true) (m_thing_of : mg "thing_of" = some (.ref g2))
    (m_NoThing : mg "NoThing" = some (.ref C)) (k_NoThing : PySem.W.excIn K C bmV "ValueError.__new__" = true) : FnOk P w K mg base (CXR P w) 5 f fd ["line"] (spRead C) := by
  refine Fn.okR sc_read (fun vs H Q E h => ?_) (fun cdv A outer s H vs Q E hr h => ?_)
  · obtain ⟨L, rfl, _⟩ := h
    rfl
  obtain ⟨L, rfl, hruns, hz, hct, q, qe⟩ := h
  refine ⟨_, (pss_SP (psS_if (ptS_cmpR op_notN (peS_call (E := fun _ _ _ => False) G_fault hr rfl m_fault k_fault b_fault .nil (pa_cons (pv 0) pa_nil)) pe_non (nomark _))
      (pss_one (ps_raise (E := E) (C := C) (fun _ _ _ _ _ _ _ I m hE => raiseR I m hE) rfl rfl m_NoThing k_NoThing (pa_cons pe_str pa_nil))) pss_nil)
    (pssP_one (psP_ret (peP_call (E := fun _ _ _ => False) G_thing_of.calm hr rfl m_thing_of k_thing_of b_thing_of .nil passNo (pa_cons (pv 0) pa_nil))))), ?_⟩
  refine ⟨_, rfl, L, rfl, hruns, hz, hct, fun H2 S2 => ⟨rfl, _, rfl, ?_⟩⟩
  cases hd : NN.due L with
  | none =>
    obtain ⟨t, hw, rfl⟩ := (NN.due_none_iff L).mp hd
    exact iteF ⟨_, rfl, t, rfl, NN.sane_runs t hw hruns, hz, fun v H3 S3 tv => q t v H3 hw rfl (S2.trans S3) tv⟩
  | some k => exact iteT ⟨(by show (1 : Nat) ≤ sizeLine; decide), qe (by rw [hd]; simp) _ S2⟩
end
end K5

set_option Elab.async false
set_option linter.all false
set_option maxRecDepth 100000
set_option maxHeartbeats 16000000
namespace K5
open PySem L2
def spAt (K : PySem.W.Frag) : Sp := fun vs H Q _ => ∃ (a : Addr) (ns : List Int) (k : Nat), vs = [.ref a, .int k] ∧ SqL K H a (ns.map V.int) ∧ ns.length ≤ 63 ∧ Q (.int (ns.getD k 0)) H
section
variable {P : Program} {w : World} {K : PySem.W.Frag} {mg : Str → Option Value} {base : Heap} {f g g2 C CN CT : Addr} {fd gd gd2 : FuncData} {kk : Nat}
theorem sc_at : FnScope ["_law_script", "_law_k"] ["_law_script", "_law_k"] (defScope s_at) := ⟨rfl, rfl, rfl, by decide +kernel, rfl, by decide +kernel, by decide +kernel⟩
theorem ok_at (Fn : Fun K "_law_at" "_law_at" s_at f fd) (ml : mg "len" = none) : FnOk P w K mg base CX0 1 f fd ["_law_script", "_law_k"] (spAt K) := by
  refine Fn.ok sc_at (fun vs H Q E h => ?_) (fun cdv A outer s H vs Q E hr h => ?_)
  · obtain ⟨a, ns, k, rfl, _⟩ := h
    rfl
  obtain ⟨a, ns, k, rfl, hS, _, q⟩ := h
  refine ⟨_, pss_cons (ps_if (pt_cmpR op_lt (pv 1) (pe_callB call_len_seq rfl ml PySem.boot_len (pa_cons (pv 0) pa_nil)) (nomark _)) (pss_one (ps_ret (pe_ix ix_list (pv 0) (pv 1) (fun _ _ => rfl)))) pss_nil) (pss_one (ps_ret pe_int)), ?_⟩
  refine ⟨_, rfl, _, rfl, a, _, rfl, .inl hS, _, _, rfl, rfl, _, rfl, ?_⟩
  have hlen : (ns.map V.int).length = ns.length := List.length_map ..
  refine ite2 (fun d => ?_) (fun d => ?_)
  · have d' : ((k : Nat) : Int) < (((ns.map V.int).length : Nat) : Int) := of_decide_eq_true d
    rw [hlen] at d'
    have hk : k < ns.length := by omega
    refine ⟨_, rfl, _, rfl, a, _, _, .int (ns.getD k 0), rfl, rfl, hS, atI_nat ?_, q⟩
    rw [List.getElem?_map, List.getD_eq_getElem?_getD, List.getElem?_eq_getElem hk]
    rfl
  · have d' : ¬ ((k : Nat) : Int) < (((ns.map V.int).length : Nat) : Int) := fun e => d (decide_eq_true e)
    rw [hlen] at d'
    have hk : ns.length ≤ k := by omega
    rw [List.getD_eq_getElem?_getD, List.getElem?_eq_none hk] at q
    exact q
end
/-! ### some line -/
def spSomeLine (K : PySem.W.Frag) : Sp := fun vs H Q _ => ∃ (a : Addr) (ns : List Int), vs = [.ref a] ∧ SqL K H a (ns.map V.int) ∧ ns.length ≤ 63 ∧ ∀ L H', NN.okLine L → Same H H' → Q (.str (tx L)) H'
theorem sign_at {z : Str} {n : Int} (i : Int) (hz : (z.length : Int) = n) (h : 0 < n) : ∃ c, atI z.cps.toList (i % n) = some c := by
  have m0 : 0 ≤ i % n := Int.emod_nonneg _ (by omega)
  have m1 : i % n < n := Int.emod_lt_of_pos _ h
  have hl : z.cps.toList.length = z.length := cod_len z
  exact ⟨_, atI_ofNat m0 (by omega)⟩
theorem two_str {a b : Str} {σ : St} {H : Hp} {Q : VK} (h : ∀ p H', Same H H' → H' p = some (.tup [.str a, .str b]) → Q (.ref p) H') : tTup (tCons (tC (.str a)) (tCons (tC (.str b)) tNil)) σ H Q :=
  ⟨by show (2 : Nat) ≤ sizeLine; decide, fun p hp => h p _ (same_new hp _) upd_same⟩
theorem star_tup {ts es : List Expr} {c : Nat} {pos : Pos} {env : Env} : starEach (.Tuple ts c pos :: es) env = (false, eval (.Tuple ts c pos) env) :: starEach es env := by rfl
theorem pa_tup {X : Cx} {ts es : List Expr} {c : Nat} {pos : Pos} {t : TA} {t2 : TA} (h : PA X ts t) (hr : PA X es t2) : PA X (.Tuple ts c pos :: es) (tCons (tTup t) t2) := pa_cons (pe_tup h) hr star_tup
/-- a list display of pairs of texts -/
def pairsT : List (Str × Str) → TA
  | [] => tNil
  | p :: r => tCons (tTup (tCons (tC (.str p.1)) (tCons (tC (.str p.2)) tNil))) (pairsT r)
def Pairs (H : Hp) : List (Str × Str) → List V → Prop
  | [], vs => vs = []
  | p :: r, vs => ∃ q ws, vs = .ref q :: ws ∧ H q = some (.tup [.str p.1, .str p.2]) ∧ Pairs H r ws
theorem Pairs.same {H H' : Hp} (S : Same H H') : ∀ {ps : List (Str × Str)} {vs : List V}, Pairs H ps vs → Pairs H' ps vs
  | [], _, h => h
  | p :: r, vs, h => by
    obtain ⟨q, ws, e, h1, h2⟩ := h
    exact ⟨q, ws, e, S _ _ h1, h2.same S⟩
theorem Pairs.app {H : Hp} : ∀ {ps qs : List (Str × Str)} {vs ws : List V}, Pairs H ps vs → Pairs H qs ws → Pairs H (ps ++ qs) (vs ++ ws)
  | [], _, vs, ws, h, g => by
    have e : vs = [] := h
    subst e
    exact g
  | p :: r, _, vs, ws, h, g => by
    obtain ⟨q, us, rfl, h1, h2⟩ := h
    exact ⟨q, us ++ ws, rfl, h1, h2.app g⟩
theorem Pairs.len {H : Hp} : ∀ {ps : List (Str × Str)} {vs : List V}, Pairs H ps vs → vs.length = ps.length
  | [], vs, h => by
    have e : vs = [] := h
    subst e
    rfl
  | p :: r, vs, h => by
    obtain ⟨q, ws, rfl, h1, h2⟩ := h
    rw [List.length_cons, List.length_cons, h2.len]
theorem Pairs.get {H : Hp} : ∀ {ps : List (Str × Str)} {vs : List V} {i : Nat} {p : Str × Str}, Pairs H ps vs → ps[i]? = some p → ∃ q, vs[i]? = some (.ref q) ∧ H q = some (.tup [.str p.1, .str p.2])
  | [], _, i, p, _, h => by simp at h
  | p :: r, vs, i, p', h, g => by
    obtain ⟨q, ws, rfl, h1, h2⟩ := h
    cases i with
    | zero =>
      simp at g
      subst g
      exact ⟨q, rfl, h1⟩
    | succ i =>
      obtain ⟨q', e1, e2⟩ := h2.get (i := i) (by simpa using g)
      exact ⟨q', by simpa using e1, e2⟩
theorem pairs_read {σ : St} : ∀ {ps : List (Str × Str)} {H : Hp} {Q : List V → Hp → Prop}, (∀ vs H', Same H H' → Pairs H' ps vs → Q vs H') → pairsT ps σ H Q
  | [], H, Q, h => h [] H (Same.refl H) rfl
  | p :: r, H, Q, h => by
    rw [pairsT]
    unfold tCons
    refine two_str fun q H1 S1 t1 => ?_
    exact pairs_read (ps := r) fun vs H2 S2 t2 => h _ _ (S1.trans S2) ⟨q, vs, rfl, S2 _ _ t1, t2⟩
theorem lst_pairs {σ : St} {ps : List (Str × Str)} {H : Hp} {Q : VK} (hl : ps.length ≤ 1000) (h : ∀ l vs H', Same H H' → H' l = some (.lst vs) → Pairs H' ps vs → Q (.ref l) H') : tLst (pairsT ps) σ H Q :=
  pairs_read fun vs H1 S1 t1 => ⟨by rw [t1.len]; exact small (by omega), fun l hl => h l vs _ (S1.trans (same_new hl _)) upd_same (t1.same (same_new hl _))⟩
def pairsOf : List Expr → Option (List (Str × Str))
  | [] => some []
  | .Tuple [.Constant (.str a) _ _, .Constant (.str b) _ _] _ _ :: r => (pairsOf r).map ((a, b) :: ·)
  | _ => none
theorem pa_pairs {X : Cx} : ∀ {es : List Expr} {ps : List (Str × Str)}, pairsOf es = some ps → PA X es (pairsT ps) := by
  intro es
  induction es with
  | nil =>
    intro ps h
    cases h
    exact pa_nil
  | cons e r ih =>
    intro ps h
    unfold pairsOf at h
    split at h
    · rename_i e1
      cases e1
    · rename_i e1
      cases e1
      cases hr : pairsOf r with
      | none => rw [hr] at h; cases h
      | some ys =>
        rw [hr] at h
        cases h
        exact pa_tup (pa_cons pe_str (pa_cons pe_str pa_nil)) (ih hr)
    · cases h
theorem pss_pairs {X : Cx} {i : Nat} {x : Str} {es : List Expr} {ps : List (Str × Str)} {rest : List Stmt} {u : TS} {pos pos' pl : Pos} (hN : X.N.Nodup) (hi : X.N[i]? = some x) (hx : Loc X.env.scope x) (h : pairsOf es = some ps) (h2 : PSs X rest u) (hf : X.fn x = true ∨ X.env.scope.names.lookup x = some .local) :
    PSs X (.Assign [.Name x pos'] (.List es pl) pos :: rest) (tSeq (tAsg (tLst (pairsT ps)) (gName i)) u) := pss_cons (ps_set hN hi hx (pe_lst (pa_pairs h)) rfl hf) h2
theorem seq_pairs {ps : List (Str × Str)} {g : TG} {ts : TS} {D : Ends} {σ : St} {H : Hp} (hl : ps.length ≤ 1000) (h : ∀ l vs H', Same H H' → H' l = some (.lst vs) → Pairs H' ps vs → g (.ref l) σ H' (ts D)) : tSeq (tAsg (tLst (pairsT ps)) g) ts D σ H := by
  unfold tSeq tAsg
  exact lst_pairs hl h
theorem cat_pairs {K : PySem.W.Frag} {ps : List (Str × Str)} {i : Nat} {l : Addr} {us : List V} {g : TG} {ts : TS} {D : Ends} {σ : St} {H : Hp} (hl : ps.length ≤ 1000) (hi : σ[i]? = some (some (.ref l))) (hu : H l = some (.lst us)) (hz : us.length ≤ 1000)
    (h : ∀ l vs H', Same H H' → H' l = some (.lst (us ++ vs)) → Pairs H' ps vs → g (.ref l) σ H' (ts D)) : tSeq (tAsg (tOp rCat (tVar i) (tLst (pairsT ps))) g) ts D σ H := by
  unfold tSeq tAsg tOp
  refine ⟨_, hi, ?_⟩
  refine lst_pairs hl fun l2 vs H1 S1 h1 t1 => ?_
  refine ⟨l, l2, us, vs, rfl, rfl, S1 _ _ hu, h1, ?_, fun l3 h3 => ?_⟩
  · rw [t1.len]; exact small (by omega)
  · exact h l3 vs _ (S1.trans (same_new h3 _)) upd_same (t1.same (same_new h3 _))
def ends6 : List (Str × Str) := [("", " "), ("", " a"), ("", " 7"), ("", " []"), ("[", " aZ]"), ("[", " qQ b]")]
def ends2 : List (Str × Str) := [("[", " 00]"), ("[", " -0]")]
theorem ends_len : (ends6 ++ ends2).all (fun p => decide (p.1.length ≤ 2 ∧ p.2.length ≤ 10)) = true := by decide +kernel
theorem ends_ok (k : Nat) (h : k < 8) : ∃ p, (ends6 ++ ends2)[k]? = some p ∧ p.1.length ≤ 2 ∧ p.2.length ≤ 10 := by
  have hk : k < (ends6 ++ ends2).length := h
  exact ⟨_, List.getElem?_eq_getElem hk, of_decide_eq_true (List.all_eq_true.mp ends_len _ (List.getElem_mem hk))⟩
def sgs : Str := "[] -05az+_Z"
theorem sgs_len : sgs.length = 11 := by decide +kernel
section
variable {P : Program} {w : World} {K : PySem.W.Frag} {mg : Str → Option Value} {base : Heap} {f g1 g2 g3 g4 : Addr} {fd d1 d2 d3 d4 : FuncData} {kk : Nat}
abbrev NSL : List Str := ["_law_script", "_law_way", "_law_ends", "_law_pair", "_law_sign"]
theorem sc_some_line : FnScope NSL ["_law_script"] (defScope s_some_line) := ⟨rfl, rfl, rfl, by decide +kernel, rfl, by decide +kernel, by decide +kernel⟩
theorem ok_some_line (Fn : Fun K "_law_some_line" "_law_some_line" s_some_line f fd)
    (G__law_at : FnOk P w K mg base CX0 kk g1 d1 ["_law_script", "_law_k"] (spAt K)) (b__law_at : Binds K d1 ["_law_script", "_law_k"] []) (k__law_at : PySem.W.keepIn K (.ref g1) = true) (m__law_at : mg "_law_at" = some (.ref g1))
    (G__law_written : FnOk P w K mg base CX0 kk g2 d2 ["_law_cells"] (spWritten K)) (b__law_written : Binds K d2 ["_law_cells"] []) (k__law_written : PySem.W.keepIn K (.ref g2) = true) (m__law_written : mg "_law_written" = some (.ref g2))
    (G__law_marks : FnOk P w K mg base CX0 kk g3 d3 [] spMarks) (b__law_marks : Binds K d3 [] []) (k__law_marks : PySem.W.keepIn K (.ref g3) = true) (m__law_marks : mg "_law_marks" = some (.ref g3))
    (G__law_spoilt : FnOk P w K mg base CX0 kk g4 d4 ["_law_line", "_law_way", "_law_spot", "_law_sign"] spSpoilt) (b__law_spoilt : Binds K d4 ["_law_line", "_law_way", "_law_spot", "_law_sign"] []) (k__law_spoilt : PySem.W.keepIn K (.ref g4) = true) (m__law_spoilt : mg "_law_spoilt" = some (.ref g4))
    (m_len : mg "len" = none) : FnOk P w K mg base CX0 (kk + 1) f fd ["_law_script"] (spSomeLine K) := by
  refine Fn.ok sc_some_line (fun vs H Q E h => ?_) (fun cdv A outer s H vs Q E hr h => ?_)
  · obtain ⟨a, ns, rfl, _⟩ := h
    rfl
  obtain ⟨a, ns, rfl, hS, h63, q⟩ := h
  have S1 : CompScope (CxD P w K mg base NSL "_law_some_line" s_some_line f cdv A outer s H E)
      { kind := PySem.ScopeKind.function, names := [(PySem.Str.ofString ".0", PySem.NameKind.local), (PySem.Str.ofString "_law_cell", PySem.NameKind.local)], isGenerator := false, isCoroutine := false, more := [] }
      [] "_law_cell" [] [] := comp_closed rfl (by decide +kernel) (by decide +kernel) (by decide +kernel) rfl
  -- what is written of the script's cells
  obtain ⟨W, hW⟩ : ∃ W, W = (NN.grownT ((ns.drop 3).take 95)).line := ⟨_, rfl⟩
  have l63 : ((ns.drop 3).take 95).length ≤ 63 := by rw [List.length_take, List.length_drop]; omega
  obtain ⟨w1, w2, w3, w4, w5, w6, w7, w8⟩ := grown_ok l63
  have w9 := NN.T.line_le _ w2
  rw [← hW] at w5 w7 w8 w9
  have w10 : W.length ≤ 6000 := by omega
  have wr : ∀ {H1 : Hp} {Q1 : VK}, Same H H1 → (∀ H2, Same H1 H2 → Q1 (.str (tx W)) H2) → ∀ (σ : St), σ[0]? = some (some (.ref a)) → (tCall (spWritten K) [] (fun _ _ _ => False) (tCons (tSl (rSlL K) (tVar 0) (tPart (tC (.int 3))) (tPart (tC (.int 98)))) tNil)) σ H1 Q1 := fun {H1 Q1} S1 h σ hσ => by
    refine ⟨_, hσ, _, rfl, _, rfl, a, _, rfl, S1.seq hS, fun l hl => ⟨l, (ns.drop 3).take 95, rfl, SqL.of ?_, by omega, fun H2 S2 => ?_⟩⟩
    · rw [upd_same]
      exact congrArg (fun z => some (HO.lst z)) (cutV_ints ns 3 98)
    · rw [← hW]
      exact h H2 ((same_new hl _).trans S2)
  refine ⟨_, (pss_cons (ps_set (i := 1) sc_some_line.nd rfl (Or.inl rfl) (pe_op op_mod (pe_call G__law_at hr rfl m__law_at k__law_at b__law_at .nil pass0 (pa_cons (pv 0) (pa_cons pe_int pa_nil))) pe_int))
 (pss_cons (ps_if (pt_cmpR op_eq (pv 1) pe_int (nomark _))
 (pss_one (ps_ret (pe_bm PySem.F.plainAttrs_str PySem.F.slot_str_join PySem.F.type_str_join mt_join pe_str (pa_cons (pe_comp rfl S1 (pi_list (pe_slice sl_list (pv 0) (po_some pe_int) (po_some pe_int))) (fun _ _ _ _ => (pe_ix ix_str pe_str (pe_op op_mod (pv 0) pe_int) (fun _ _ => rfl)))) pa_nil))))
 pss_nil)
 (pss_cons (ps_if (pt_cmpR op_eq (pv 1) pe_int (nomark _))
 (@pss_pairs _ 2 _ _ ends6 _ _ _ _ _ sc_some_line.nd rfl (Or.inl rfl) rfl
 (pss_cons (ps_set (i := 2) sc_some_line.nd rfl (Or.inl rfl) (pe_op op_cat (pv 2) (pe_lst (pa_tup (pa_cons pe_str (pa_cons pe_str pa_nil)) (pa_tup (pa_cons pe_str (pa_cons pe_str pa_nil)) pa_nil)))))
 (pss_cons (ps_set (i := 3) sc_some_line.nd rfl (Or.inl rfl) (pe_ix ix_list (pv 2) (pe_op op_mod (pe_call G__law_at hr rfl m__law_at k__law_at b__law_at .nil pass0 (pa_cons (pv 0) (pa_cons pe_int pa_nil))) pe_int) (fun _ _ => rfl)))
 (pss_one (ps_ret (pe_op op_add_str (pe_op op_add_str (pe_ix ix_tup (pv 3) pe_int (fun _ _ => rfl)) (pe_call G__law_written hr rfl m__law_written k__law_written b__law_written .nil pass0 (pa_cons (pe_slice sl_list (pv 0) (po_some pe_int) (po_some pe_int)) pa_nil))) (pe_ix ix_tup (pv 3) pe_int (fun _ _ => rfl))))))) (by first | exact .inl rfl | exact .inr rfl))
 pss_nil)
 (pss_cons (ps_set (i := 4) sc_some_line.nd rfl (Or.inl rfl) (pe_ix ix_str pe_str (pe_op op_mod (pe_call G__law_at hr rfl m__law_at k__law_at b__law_at .nil pass0 (pa_cons (pv 0) (pa_cons pe_int pa_nil))) pe_int) (fun _ _ => rfl)))
 (pss_cons (ps_if (pt_cmpR op_eq (pe_op op_mod (pe_op op_fdiv (pe_call G__law_at hr rfl m__law_at k__law_at b__law_at .nil pass0 (pa_cons (pv 0) (pa_cons pe_int pa_nil))) pe_int) pe_int) pe_int (nomark _))
 (pss_one (ps_set (i := 4) sc_some_line.nd rfl (Or.inl rfl) (pe_ix ix_str (pe_call0 G__law_marks hr rfl m__law_marks k__law_marks b__law_marks .nil pass0) (pe_op op_mod (pe_call G__law_at hr rfl m__law_at k__law_at b__law_at .nil pass0 (pa_cons (pv 0) (pa_cons pe_int pa_nil))) (pe_callB call_len_str rfl m_len PySem.boot_len (pa_cons (pe_call0 G__law_marks hr rfl m__law_marks k__law_marks b__law_marks .nil pass0) pa_nil))) (fun _ _ => rfl))))
 pss_nil)
 (pss_one (ps_ret (pe_call G__law_spoilt hr rfl m__law_spoilt k__law_spoilt b__law_spoilt .nil pass0 (pa_cons (pe_call G__law_written hr rfl m__law_written k__law_written b__law_written .nil pass0 (pa_cons (pe_slice sl_list (pv 0) (po_some pe_int) (po_some pe_int)) pa_nil)) (pa_cons (pv 1) (pa_cons (pe_call G__law_at hr rfl m__law_at k__law_at b__law_at .nil pass0 (pa_cons (pv 0) (pa_cons pe_int pa_nil))) (pa_cons (pv 4) pa_nil)))))))))))), ?_⟩
  refine ⟨_, rfl, a, ns, 0, rfl, hS, h63, _, _, rfl, rfl, (by show (0 : Int) < 6; decide), _, rfl, rfl, _, rfl, ite2 (fun c4 => ?_) (fun c4 => ?_)⟩
  · -- signs at will
    obtain ⟨cs, hcs⟩ : ∃ cs, cs = (ns.drop 1).take 99 := ⟨_, rfl⟩
    have hcl : cs.length ≤ 63 := by rw [hcs, List.length_take, List.length_drop]; omega
    have sg : ∀ c : Int, ∃ k, atI (cod sgs) (c % 11) = some k := fun c => sign_at (z := sgs) c (by rw [sgs_len]; rfl) (by decide)
    obtain ⟨sf, hsf⟩ : ∃ sf : Int → Nat, ∀ c, atI (cod sgs) (c % 11) = some (sf c) := ⟨fun c => (sg c).choose, fun c => (sg c).choose_spec⟩
    refine ⟨(by rfl), _, rfl, _, rfl, _, rfl, a, _, rfl, hS, fun l hl => ?_⟩
    have hc : upd H l (.lst (cutV (ns.map V.int) (some 1) (some 100))) l = some (.lst (cs.map V.int)) := by
      rw [upd_same, hcs]
      exact congrArg (fun z => some (HO.lst z)) (cutV_ints ns 1 100)
    have S1 : Same H (upd H l (.lst (cutV (ns.map V.int) (some 1) (some 100)))) := same_new hl _
    generalize upd H l (.lst (cutV (ns.map V.int) (some 1) (some 100))) = H1 at hc S1 ⊢
    have hml : (cs.map V.int).length = cs.length := List.length_map ..
    refine ⟨l, rfl, ⟨_, SqL.of hc⟩, fun i m ys H' => H' = H1 ∧ ys = ((cs.take i).map fun c => V.str (tx [sf c])) ∧ m = cs.length - i ∧ i ≤ cs.length, ⟨_, rfl, rfl, rfl, Nat.zero_le _⟩, ?_⟩
    rintro i m ys H' ⟨rfl, rfl, rfl, hi⟩
    have hy : ((cs.take i).map fun c => V.str (tx [sf c])).length ≤ 1000 := by rw [List.length_map, List.length_take]; omega
    by_cases hlt : i < cs.length
    · have hci : cs[i]? = some cs[i] := List.getElem?_eq_getElem hlt
      refine .inr ⟨⟨_, V.int cs[i], SqL.of hc, by rw [List.getElem?_map, hci]; rfl⟩, small1000 hy, fun x H2 y => ?_⟩
      obtain ⟨e, y⟩ := y
      subst e
      have hx := y _ (SqL.of hc)
      rw [List.getElem?_map, hci] at hx
      have ex : V.int cs[i] = x := Option.some.inj hx
      subst ex
      refine ⟨_, rfl, _, _, rfl, rfl, (by show (0 : Int) < 11; decide), sgs, _, sf cs[i], rfl, rfl, (by rw [sgs_len]; decide), hsf _, cs.length - (i + 1), by omega, rfl, ?_, rfl, hlt⟩
      rw [List.take_add_one, hci, List.map_append]
      rfl
    · have e : i = cs.length := by omega
      subst e
      refine .inl ⟨⟨_, SqL.of hc, by rw [hml]; exact Nat.le_refl _⟩, Nat.le_of_lt (small1000 hy), fun p hp => ?_⟩
      rw [List.take_of_length_le (Nat.le_refl _)]
      have css : (cs.map fun c => V.str (tx [sf c])) = ((cs.map fun c => [sf c]).map tx).map V.str := by rw [List.map_map, List.map_map]; rfl
      have hfl : (cs.map fun c => [sf c]).flatten.length = cs.length := by
        rw [List.length_flatten, List.map_map]
        clear css hy hlt hml hc hcl hcs hi
        induction cs with
        | nil => rfl
        | cons c r ih => rw [List.map_cons, List.sum_cons, ih, List.length_cons]; simp; omega
      have hsum : (((cs.map fun c => [sf c]).map tx).map (·.length)).sum = (cs.map fun c => [sf c]).flatten.length := by
        rw [List.map_map, List.length_flatten]
        congr 1
      refine ⟨"", p, (cs.map fun c => [sf c]).map tx, rfl, rfl, SqL.of (by rw [upd_same, css]), (by decide +kernel), ?_, ?_⟩
      · rw [hsum, hfl, List.length_map, List.length_map]; omega
      · rw [show Txt.join "" ((cs.map fun c => [sf c]).map tx) = tx (cs.map fun c => [sf c]).flatten from str_tx (by rw [cod_join0])]
        exact q _ _ (NN.okLine_short (by omega)) (S1.trans (same_new hp _))
  refine ⟨_, rfl, rfl, _, rfl, ite2 (fun c5 => ?_) (fun c5 => ?_)⟩
  · -- what stands at the ends
    refine seq_pairs (ps := ends6) (by decide) fun l1 v1 H1 S1 hl1 t1 => ?_
    refine cat_pairs (K := K) (ps := ends2) (by decide) rfl hl1 (by rw [t1.len]; decide) fun l3 v2 H3 S2 hl3 t2 => ?_
    have t4 := (t1.same S2).app t2
    have S3 : Same H H3 := S1.trans S2
    have m0 : 0 ≤ ns.getD 2 0 % 8 := Int.emod_nonneg _ (by decide)
    have m1 : ns.getD 2 0 % 8 < 8 := Int.emod_lt_of_pos _ (by decide)
    obtain ⟨k, hk⟩ : ∃ k : Nat, ns.getD 2 0 % 8 = ((k : Nat) : Int) := ⟨_, (Int.toNat_of_nonneg m0).symm⟩
    obtain ⟨p, hp, hp1, hp2⟩ := ends_ok k (by omega)
    obtain ⟨qq, hq1, hq2⟩ := t4.get hp
    refine ⟨_, rfl, _, rfl, a, ns, 2, rfl, S3.seq hS, h63, _, _, rfl, rfl, (by show (0 : Int) < 8; decide), l3, _, _, .ref qq, rfl, rfl, SqL.of hl3, (by rw [hk]; exact atI_nat hq1), ?_⟩
    refine ⟨_, rfl, qq, _, _, .str p.1, rfl, rfl, SqT.of hq2, rfl, ?_⟩
    refine wr S3 (fun H4 S4 => ?_) _ rfl
    have cA : (cod p.1).length ≤ 2 := by rw [cod_len]; exact hp1
    have cB : (cod p.2).length ≤ 10 := by rw [cod_len]; exact hp2
    refine ⟨p.1, tx W, rfl, rfl, ?_, _, rfl, qq, _, _, .str p.2, rfl, rfl, SqT.of (S4 _ _ hq2), rfl, p.1 ++ tx W, p.2, rfl, rfl, ?_, ?_⟩
    · exact small (show p.1.length + (tx W).length ≤ 1000000 by have hx := tx_len W; omega)
    · refine small (show (p.1 ++ tx W).length + p.2.length ≤ 1000000 from ?_)
      have hx := tx_len W
      have hy : (p.1 ++ tx W).length = p.1.length + (tx W).length := by rw [← cod_len, cod_app, List.length_append, cod_len, cod_len]
      omega
    · rw [show p.1 ++ tx W ++ p.2 = tx (cod p.1 ++ W ++ cod p.2) from str_tx (by rw [cod_app, cod_app])]
      exact q _ _ (NN.okLine_ends w7 w10 (by omega) cA cB) (S3.trans S4)
  · obtain ⟨c1, hc1⟩ := sign_at (z := sgs) (ns.getD 2 0) (by rw [sgs_len]; rfl) (show (0 : Int) < 11 by decide)
    obtain ⟨c2, hc2⟩ := sign_at (z := marks) (ns.getD 2 0) (by rw [marks_len]; rfl) (show (0 : Int) < 94 by decide)
    refine ⟨_, rfl, a, ns, 2, rfl, hS, h63, _, _, rfl, rfl, (by show (0 : Int) < 11; decide), sgs, _, c1, rfl, rfl, (by rw [sgs_len]; decide), hc1, ?_⟩
    have fin : ∀ (c : Nat) (o2 o3 : Option V), (tRet (tCall spSpoilt [] (fun _ _ _ => False) (tCons (tCall (spWritten K) [] (fun _ _ _ => False) (tCons (tSl (rSlL K) (tVar 0) (tPart (tC (.int 3))) (tPart (tC (.int 98)))) tNil)) (tCons (tVar 1) (tCons (tCall (spAt K) [] (fun _ _ _ => False) (tCons (tVar 0) (tCons (tC (.int 1)) tNil))) (tCons (tVar 4) tNil)))))) { nx := fun _ H' => Q .non H', rt := Q } [some (.ref a), some (.int (ns.getD 0 0 % 6)), o2, o3, some (.str (tx [c]))] H := fun c o2 o3 => by
      unfold tRet tCall
      refine wr (Same.refl H) (fun H4 S4 => ?_) _ rfl
      refine ⟨_, rfl, _, rfl, a, ns, 1, rfl, S4.seq hS, h63, _, rfl, W, ns.getD 0 0 % 6, ns.getD 1 0, c, rfl, w10, ?_⟩
      exact q _ _ (NN.okLine_spoil _ _ _ w7 w10 (by omega)) S4
    refine ⟨_, rfl, a, ns, 2, rfl, hS, h63, _, _, rfl, rfl, ⟨by decide, by decide⟩, _, _, rfl, rfl, (by show (0 : Int) < 3; decide), rfl, _, rfl, ite2 (fun c6 => ?_) (fun c6 => ?_)⟩
    · refine ⟨rfl, _, rfl, a, ns, 2, rfl, hS, h63, rfl, _, rfl, (by rw [marks_len]; decide), _, _, rfl, rfl, ?_, marks, _, c2, rfl, rfl, (by rw [marks_len]; decide), ?_, ?_⟩
      · show (0 : Int) < (marks.length : Int)
        rw [marks_len]; decide
      · rw [show ((marks.length : Nat) : Int) = 94 by rw [marks_len]; rfl]
        exact hc2
      · exact fin c2 _ _
    · exact fin c1 _ _
end
end K5

set_option Elab.async false
set_option linter.all false
set_option maxRecDepth 100000
set_option maxHeartbeats 16000000
namespace K5
open PySem L2
/-! ### may a sign stand there -/
def spOneOf : Sp := fun vs H Q _ => ∃ (o : Option Nat) (B : List Nat), vs = [.str (tx o.toList), .str (tx B)] ∧ Q (.bl (o.any fun c => decide (c ∈ B))) H
def spMayStand : Sp := fun vs H Q _ => ∃ (A : List Nat) (c : Nat) (d : Int), vs = [.str (tx A), .str (tx [c]), .int d] ∧ A.length ≤ 8000 ∧ Q (.bl (NN.stand A c d)) H
def spDue : Sp := fun vs H Q _ => ∃ (L : List Nat), vs = [.str (tx L)] ∧ L.length ≤ 8000 ∧ Q (.int (match NN.due L with | none => -1 | some k => ((k : Nat) : Int))) H
section
variable {P : Program} {w : World} {K : PySem.W.Frag} {mg : Str → Option Value} {base : Heap} {f g g2 : Addr} {fd gd gd2 : FuncData}
theorem sc_one_of : FnScope ["_law_sign", "_law_signs"] ["_law_sign", "_law_signs"] (defScope s_one_of) := ⟨rfl, rfl, rfl, by decide +kernel, rfl, by decide +kernel, by decide +kernel⟩
theorem ok_one_of (Fn : Fun K "_law_one_of" "_law_one_of" s_one_of f fd) : FnOk P w K mg base CX0 1 f fd ["_law_sign", "_law_signs"] spOneOf := by
  refine Fn.ok sc_one_of (fun vs H Q E h => ?_) (fun cdv A outer s H vs Q E hr h => ?_)
  · obtain ⟨o, B, rfl, _⟩ := h
    rfl
  obtain ⟨o, B, rfl, q⟩ := h
  refine ⟨_, (pss_one (ps_ret (pe_and (pe_cmpR op_ne (pv 0) pe_str (nomark _)) (pe_one (pe_cmpR op_in_str (pv 0) (pv 1) rfl))))), ?_⟩
  cases o with
  | none => exact ⟨_, rfl, rfl, _, rfl, iteF q⟩
  | some c =>
    refine ⟨_, rfl, rfl, _, rfl, ?_⟩
    rw [eq_tx (some c).toList [] "" rfl]
    refine iteT ⟨_, rfl, _, rfl, _, _, rfl, rfl, ?_⟩
    have e := in_tx c (tx B) B rfl
    show Q (.bl (!(Builtin.Str.occurrences (tx B) (tx [c]) 0 (tx B).length 1).isEmpty)) H
    rw [e]
    exact q
theorem sc_may_stand : FnScope ["_law_ahead", "_law_sign", "_law_deep", "_law_last", "_law_letters", "_law_figures"] ["_law_ahead", "_law_sign", "_law_deep"] (defScope s_may_stand) := ⟨rfl, rfl, rfl, by decide +kernel, rfl, by decide +kernel, by decide +kernel⟩
theorem start_in (c : Nat) : decide (c ∈ ([91, 45] ++ abc) ++ digs) = (decide (c = 91) || decide (c = 45) || NN.letter c || NN.fig c) := by
  rw [← mem_abc, ← mem_digs, Bool.eq_iff_iff]
  simp only [decide_eq_true_eq, Bool.or_eq_true, List.mem_append, List.mem_cons, List.not_mem_nil, or_false]
theorem nine_in (c : Nat) : decide (c ∈ cod ("123456789" : Str)) = (decide (49 ≤ c) && decide (c ≤ 57)) := by
  have e : cod ("123456789" : Str) = [49, 50, 51, 52, 53, 54, 55, 56, 57] := by decide +kernel
  rw [e, Bool.eq_iff_iff, Bool.and_eq_true, decide_eq_true_eq, decide_eq_true_eq, decide_eq_true_eq]
  simp only [List.mem_cons, List.not_mem_nil, or_false]
  omega
theorem ok_may_stand (Fn : Fun K "_law_may_stand" "_law_may_stand" s_may_stand f fd) (G__law_one_of : FnOk P w K mg base CX0 1 g gd ["_law_sign", "_law_signs"] spOneOf) (b__law_one_of : Binds K gd ["_law_sign", "_law_signs"] []) (k__law_one_of : PySem.W.keepIn K (.ref g) = true) (m__law_one_of : mg "_law_one_of" = some (.ref g)) :
    FnOk P w K mg base CX0 2 f fd ["_law_ahead", "_law_sign", "_law_deep"] spMayStand := by
  refine Fn.ok sc_may_stand (fun vs H Q E h => ?_) (fun cdv A outer s H vs Q E hr h => ?_)
  · obtain ⟨A, c, d, rfl, _⟩ := h
    rfl
  obtain ⟨A, c, d, rfl, hA, q⟩ := h
  refine ⟨_, (pss_cons (ps_set (i := 3) sc_may_stand.nd rfl (Or.inl rfl) (pe_slice sl_str (pv 0) (po_some (pe_un un_neg pe_int)) po_none))
 (pss_cons (ps_set (i := 4) sc_may_stand.nd rfl (Or.inl rfl) pe_str)
 (pss_cons (ps_set (i := 5) sc_may_stand.nd rfl (Or.inl rfl) pe_str)
 (pss_cons (ps_if (PW.pt (pw_or (pt_cmpR op_eq (pv 3) pe_str (nomark _)) (pw_or (pt_cmpR op_eq (pv 3) pe_str (nomark _)) (pw_or1 (pt_cmpR op_eq (pv 3) pe_str (nomark _))))))
 (pss_one (ps_ret (pe_or (pe_cmpR op_in_str (pv 1) (pe_op op_add_str (pe_op op_add_str pe_str (pv 4)) (pv 5)) rfl) (pe_one (pe_and (pe_cmpR op_eq (pv 3) pe_str (nomark _)) (pe_one (pe_cmpR op_eq (pv 1) pe_str (nomark _))))))))
 pss_nil)
 (pss_cons (ps_if (pt_cmpR op_eq (pv 3) pe_str (nomark _))
 (pss_one (ps_ret (pe_cmpR op_in_str (pv 1) pe_str rfl)))
 pss_nil)
 (pss_cons (ps_if (PW.pt (pw_or (pt_cmpR op_eq (pv 1) pe_str (nomark _)) (pw_or1 (pt_cmpR op_eq (pv 1) pe_str (nomark _)))))
 (pss_one (ps_ret (pe_cmpR op_gt (pv 2) pe_int (nomark _))))
 pss_nil)
 (pss_cons (ps_if (pt_cmpR op_in_str (pv 3) (pv 4) rfl)
 (pss_one (ps_ret (pe_cmpR op_in_str (pv 1) (pv 4) rfl)))
 pss_nil)
 (pss_cons (ps_if (PW.pt (pw_and (pt_cmpR op_eq (pv 3) pe_str (nomark _)) (pw_and1 (pt_not (pt_val (pe_call G__law_one_of hr rfl m__law_one_of k__law_one_of b__law_one_of .nil pass0 (pa_cons (pe_slice sl_str (pv 0) (po_some (pe_un un_neg pe_int)) (po_some (pe_un un_neg pe_int))) (pa_cons (pv 5) pa_nil))))))))
 (pss_one (ps_ret pe_bl))
 pss_nil)
 (pss_one (ps_ret (pe_and (pe_cmpR op_in_str (pv 3) (pv 5) rfl) (pe_one (pe_cmpR op_in_str (pv 1) (pv 5) rfl))))))))))))), ?_⟩
  have e3 : Txt.slice (tx A) (some (-1)) none = tx A.getLast?.toList := str_tx (by rw [cod_last])
  refine ⟨_, rfl, 1, rfl, _, rfl, tx A, rfl, small (by rw [tx_len]; omega), ?_⟩
  rw [e3]
  unfold NN.stand at q
  generalize hl : A.getLast? = l at q
  have hsum : ∀ z : Str, cod z = [91, 45] ++ abc ++ digs → (!(Builtin.Str.occurrences z (tx [c]) 0 z.length 1).isEmpty) = (decide (c = 91) || decide (c = 45) || NN.letter c || NN.fig c) := fun z hz => by rw [in_tx c z _ hz]; exact start_in c
  have hz : cod ((("[-" : Str) ++ ("abcdefghijklmnopqrstuvwxyz" : Str)) ++ ("0123456789" : Str)) = [91, 45] ++ abc ++ digs := by rw [cod_app, cod_app, cod_abc, cod_digs]; rfl
  have hin := hsum _ hz
  refine ⟨_, rfl, rfl, _, rfl, ?_⟩
  cases l with
  | none =>
    rw [if_pos (.inl rfl)] at q
    refine iteT (iteT ?_)
    refine ⟨_, rfl, _, rfl, _, _, rfl, rfl, (by decide +kernel), _, rfl, _, _, rfl, rfl, (by decide +kernel), _, _, rfl, rfl, _, rfl, ?_⟩
    rw [hin]
    refine ite2 (fun d => ?_) (fun d => ?_)
    · rw [d] at q; exact q
    · rw [Bool.not_eq_true] at d
      rw [d, Bool.false_or] at q
      exact ⟨_, rfl, rfl, _, rfl, iteF q⟩
  | some x =>
    by_cases x32 : x = 32
    · subst x32
      rw [if_pos (.inr (.inl rfl))] at q
      refine iteF ⟨_, rfl, rfl, _, rfl, iteT (iteT ?_)⟩
      refine ⟨_, rfl, _, rfl, _, _, rfl, rfl, (by decide +kernel), _, rfl, _, _, rfl, rfl, (by decide +kernel), _, _, rfl, rfl, _, rfl, ?_⟩
      rw [hin]
      refine ite2 (fun d => ?_) (fun d => ?_)
      · rw [d] at q; exact q
      · rw [Bool.not_eq_true] at d
        rw [d, Bool.false_or] at q
        exact ⟨_, rfl, rfl, _, rfl, iteF q⟩
    by_cases x91 : x = 91
    · subst x91
      rw [if_pos (.inr (.inr rfl))] at q
      refine iteF ⟨_, rfl, rfl, _, rfl, iteF ⟨_, rfl, rfl, _, rfl, iteT ?_⟩⟩
      refine ⟨_, rfl, _, rfl, _, _, rfl, rfl, (by decide +kernel), _, rfl, _, _, rfl, rfl, (by decide +kernel), _, _, rfl, rfl, _, rfl, ?_⟩
      rw [hin]
      refine ite2 (fun d => ?_) (fun d => ?_)
      · rw [d] at q; exact q
      · rw [Bool.not_eq_true] at d
        rw [d, Bool.false_or] at q
        refine ⟨_, rfl, rfl, _, rfl, iteT ⟨_, rfl, rfl, ?_⟩⟩
        rw [eq_tx [c] [93] "]" (by decide +kernel)]
        have e : decide ([c] = [93]) = decide (c = 93) := by rw [Bool.eq_iff_iff]; simp
        rw [e]
        exact q
    have one : ∀ (k : Nat) (z : Str), cod z = [k] → decide (V.str (tx (some x).toList) = V.str z) = decide (x = k) := fun k z hz => by
      rw [eq_tx _ [k] z hz, Bool.eq_iff_iff]
      simp
    have none_ : decide (V.str (tx (some x).toList) = V.str "") = false := by
      rw [eq_tx _ [] "" rfl]
      simp
    have onec : ∀ (k : Nat) (z : Str), cod z = [k] → decide (V.str (tx [c]) = V.str z) = decide (c = k) := fun k z hz => by
      rw [eq_tx _ [k] z hz, Bool.eq_iff_iff]
      simp
    rw [if_neg (by simp [x32, x91])] at q
    rw [none_]
    refine iteF ⟨_, rfl, rfl, _, rfl, ?_⟩
    rw [one 32 " " (by decide +kernel), decide_eq_false x32]
    refine iteF ⟨_, rfl, rfl, _, rfl, ?_⟩
    rw [one 91 "[" (by decide +kernel), decide_eq_false x91]
    refine iteF ⟨_, rfl, rfl, _, rfl, ?_⟩
    rw [one 45 "-" (by decide +kernel)]
    by_cases x45 : x = 45
    · subst x45
      rw [if_pos rfl] at q
      refine iteT ⟨_, rfl, _, _, rfl, rfl, ?_⟩
      rw [in_tx c "123456789" _ rfl, nine_in]
      exact q
    rw [if_neg (by simp [x45])] at q
    rw [decide_eq_false x45]
    refine iteF ⟨_, rfl, rfl, _, rfl, ?_⟩
    rw [onec 32 " " (by decide +kernel)]
    by_cases c32 : c = 32
    · rw [if_pos (.inl c32)] at q
      rw [decide_eq_true c32]
      exact iteT (iteT ⟨_, rfl, _, _, rfl, rfl, q⟩)
    rw [decide_eq_false c32]
    refine iteF ⟨_, rfl, rfl, _, rfl, ?_⟩
    rw [onec 93 "]" (by decide +kernel)]
    by_cases c93 : c = 93
    · rw [if_pos (.inr c93)] at q
      rw [decide_eq_true c93]
      exact iteT ⟨_, rfl, _, _, rfl, rfl, q⟩
    rw [decide_eq_false c93]
    rw [if_neg (by simp [c32, c93])] at q
    refine iteF ⟨_, rfl, _, rfl, _, _, rfl, rfl, _, rfl, ?_⟩
    have inl : ∀ k : Nat, (!(Builtin.Str.occurrences ("abcdefghijklmnopqrstuvwxyz" : Str) (tx [k]) 0 ("abcdefghijklmnopqrstuvwxyz" : Str).length 1).isEmpty) = NN.letter k := fun k => by rw [in_tx k _ _ cod_abc, mem_abc]
    have ind : ∀ k : Nat, (!(Builtin.Str.occurrences ("0123456789" : Str) (tx [k]) 0 ("0123456789" : Str).length 1).isEmpty) = NN.fig k := fun k => by rw [in_tx k _ _ cod_digs, mem_digs]
    have il := inl x
    have ic := inl c
    have dl := ind x
    have dc := ind c
    show if (!(Builtin.Str.occurrences ("abcdefghijklmnopqrstuvwxyz" : Str) (tx [x]) 0 ("abcdefghijklmnopqrstuvwxyz" : Str).length 1).isEmpty) = true then _ else _
    rw [il]
    by_cases hx : NN.letter x = true
    · rw [if_pos (show (some x).any NN.letter = true from hx)] at q
      rw [hx]
      refine iteT ⟨_, rfl, _, rfl, _, _, rfl, rfl, ?_⟩
      rw [ic]
      exact q
    rw [if_neg (show ¬ (some x).any NN.letter = true from hx)] at q
    rw [Bool.not_eq_true] at hx
    rw [hx]
    refine iteF ⟨_, rfl, rfl, _, rfl, ?_⟩
    rw [one 48 "0" (by decide +kernel)]
    have e2 : Txt.slice (tx A) (some (-2)) (some (-1)) = tx A.dropLast.getLast?.toList := str_tx (by rw [cod_last2])
    have fin : ¬ (x = 48 ∧ ¬ A.dropLast.getLast?.any NN.fig = true) → ∀ {D : Ends}, D.rt = Q → tRet (tAndV (tOp (fun x y H Q => ∃ i j, x = V.str i ∧ y = V.str j ∧ Q (.bl (!(Builtin.Str.occurrences j i 0 j.length 1).isEmpty)) H) (tVar 3) (tVar 5)) (tOp (fun x y H Q => ∃ i j, x = V.str i ∧ y = V.str j ∧ Q (.bl (!(Builtin.Str.occurrences j i 0 j.length 1).isEmpty)) H) (tVar 1) (tVar 5))) D
        [some (.str (tx A)), some (.str (tx [c])), some (.int d), some (.str (tx (some x).toList)), some (.str "abcdefghijklmnopqrstuvwxyz"), some (.str "0123456789")] H := fun hn D hD => by
      rw [if_neg (fun z => hn ⟨by simpa using z.1, z.2⟩)] at q
      refine ⟨_, rfl, _, rfl, _, _, rfl, rfl, _, rfl, ?_⟩
      show if (!(Builtin.Str.occurrences ("0123456789" : Str) (tx [x]) 0 ("0123456789" : Str).length 1).isEmpty) = true then _ else _
      rw [dl]
      have q : Q (.bl (NN.fig x && NN.fig c)) H := q
      cases hf : NN.fig x with
      | false => rw [hf, Bool.false_and] at q; exact iteF (by rw [hD]; exact q)
      | true =>
        rw [hf, Bool.true_and] at q
        refine iteT ⟨_, rfl, _, rfl, _, _, rfl, rfl, ?_⟩
        rw [dc, hD]
        exact q
    by_cases x48 : x = 48
    · rw [decide_eq_true x48]
      refine iteT ⟨_, rfl, 2, rfl, _, rfl, 1, rfl, _, rfl, tx A, rfl, small (by rw [tx_len]; omega), _, rfl, A.dropLast.getLast?, digs, ?_, ?_⟩
      · rw [e2]
        have ed : ("0123456789" : Str) = tx digs := str_tx cod_digs
        rw [← ed]
        rfl
      · have em : (A.dropLast.getLast?.any fun c => decide (c ∈ digs)) = A.dropLast.getLast?.any NN.fig := by
          congr 1
          funext k
          exact mem_digs k
        refine ⟨_, rfl, ?_⟩
        rw [em]
        by_cases hb : A.dropLast.getLast?.any NN.fig = true
        · rw [hb]
          exact iteF (fin (fun z => z.2 hb) rfl)
        · rw [if_pos ⟨by rw [x48], hb⟩] at q
          rw [Bool.not_eq_true] at hb
          rw [hb]
          exact iteT q
    · rw [decide_eq_false x48]
      exact iteF (iteF (fin (fun z => x48 z.1) rfl))
theorem sc_due : FnScope ["_law_line", "_law_deep", "_law_k"] ["_law_line"] (defScope s_due) := ⟨rfl, rfl, rfl, by decide +kernel, rfl, by decide +kernel, by decide +kernel⟩
theorem ok_due (Fn : Fun K "_law_due" "_law_due" s_due f fd) (G__law_may_stand : FnOk P w K mg base CX0 2 g gd ["_law_ahead", "_law_sign", "_law_deep"] spMayStand) (b__law_may_stand : Binds K gd ["_law_ahead", "_law_sign", "_law_deep"] []) (k__law_may_stand : PySem.W.keepIn K (.ref g) = true) (m__law_may_stand : mg "_law_may_stand" = some (.ref g))
    (m_range : mg "range" = none) (m_len : mg "len" = none) (m_int : mg "int" = none) : FnOk P w K mg base CX0 3 f fd ["_law_line"] spDue := by
  refine Fn.ok sc_due (fun vs H Q E h => ?_) (fun cdv A outer s H vs Q E hr h => ?_)
  · obtain ⟨L, rfl, _⟩ := h
    rfl
  obtain ⟨L, rfl, hL, q⟩ := h
  have hlen : (tx L).length ≤ sizeLine := small (by rw [tx_len]; omega)
  have tail : ∃ t, PSs (CxD P w K mg base ["_law_line", "_law_deep", "_law_k"] "_law_due" s_due f cdv A outer s H E) ((defBody s_due).drop 2) t ∧
      ∀ (d : Int) (o : Option V), NN.due L = NN.dueFrom L d [] → t { nx := fun _ H' => Q .non H', rt := Q } [some (.str (tx L)), some (.int d), o] H := by
    refine ⟨_, (pss_cons (ps_if (PW.pt (pw_or (pt_cmpR op_gt (pv 1) pe_int (nomark _)) (pw_or (pt_cmpR op_eq (pv 0) pe_str (nomark _)) (pw_or1 (pt_cmpR op_eq (pe_ix ix_str (pv 0) (pe_un un_neg pe_int) (fun _ _ => rfl)) pe_str (nomark _))))))
 (pss_one (ps_ret (pe_callB call_len_str rfl m_len PySem.boot_len (pa_cons (pv 0) pa_nil))))
 pss_nil)
 (pss_one (ps_ret (pe_un un_neg pe_int)))), fun d o hd => ?_⟩
    rw [hd, NN.dueFrom] at q
    have yes : (0 < d ∨ L = [] ∨ L.getLast? = some 45) → Q (.int ((((tx L).length : Nat)) : Int)) H := fun z => by
      rw [if_pos z] at q
      rw [tx_len]
      exact q
    refine ⟨_, rfl, _, _, rfl, rfl, _, rfl, ?_⟩
    refine ite2 (fun z => iteT ⟨_, rfl, _, rfl, hlen, yes (.inl (of_decide_eq_true z))⟩) (fun z => ⟨_, rfl, rfl, _, rfl, ?_⟩)
    have z1 : ¬ 0 < d := fun e => z (decide_eq_true e)
    rw [eq_tx L [] "" rfl]
    refine ite2 (fun y => iteT ⟨_, rfl, _, rfl, hlen, yes (.inr (.inl (of_decide_eq_true y)))⟩) (fun y => ?_)
    have y1 : ¬ L = [] := fun e => y (decide_eq_true e)
    rcases list_cases_last L with e | ⟨B, x, e⟩
    · exact absurd e y1
    have hx : L.getLast? = some x := by rw [e, List.getLast?_concat]
    refine ⟨_, rfl, 1, rfl, tx L, _, x, rfl, rfl, hlen, ?_, rfl, _, rfl, ?_⟩
    · show atI L (-1) = some x
      rw [e]
      exact atI_last _ _
    have ex : decide (V.str (⟨#[x]⟩ : Str) = V.str "-") = decide (x = 45) := by
      have z := eq_tx [x] [45] "-" (by decide +kernel)
      rw [Bool.eq_iff_iff] at z ⊢
      simpa using z
    rw [ex]
    refine ite2 (fun u => ⟨_, rfl, _, rfl, hlen, yes (.inr (.inr (by rw [hx, of_decide_eq_true u])))⟩) (fun u => ?_)
    have u1 : ¬ x = 45 := fun e => u (decide_eq_true e)
    rw [if_neg (by rw [hx]; simp [z1, y1, u1])] at q
    exact ⟨1, rfl, q⟩
  obtain ⟨t1, h1, r1⟩ := tail
  refine ⟨_, (pss_cons (ps_set (i := 1) sc_due.nd rfl (Or.inl rfl) pe_int)
 (pss_cons (ps_for PassesOwn.never rfl (pi_range1 rfl m_range (pa_cons (pe_callB call_len_str rfl m_len PySem.boot_len (pa_cons (pv 0) pa_nil)) pa_nil)) (pg_name (i := 2) sc_due.nd rfl (Or.inl rfl))
 (pss_cons (ps_if (pt_not (pt_val (pe_call G__law_may_stand hr rfl m__law_may_stand k__law_may_stand b__law_may_stand .nil pass0 (pa_cons (pe_slice sl_str (pv 0) po_none (po_some (pv 2))) (pa_cons (pe_ix ix_str (pv 0) (pv 2) (fun _ _ => rfl)) (pa_cons (pv 1) pa_nil))))))
 (pss_one (ps_ret (pv 2)))
 pss_nil)
 (pss_one (ps_set (i := 1) sc_due.nd rfl (Or.inl rfl) (pe_op op_sub (pe_op op_add (pv 1) (pe_callTy call_int1 rfl m_int boot_int (pa_cons (pe_cmpR op_eq (pe_ix ix_str (pv 0) (pv 2) (fun _ _ => rfl)) pe_str (nomark _)) pa_nil))) (pe_callTy call_int1 rfl m_int boot_int (pa_cons (pe_cmpR op_eq (pe_ix ix_str (pv 0) (pv 2) (fun _ _ => rfl)) pe_str (nomark _)) pa_nil)))))))
 h1)), ?_⟩
  refine ⟨_, rfl, _, rfl, hlen, _, rfl, ?_, ?_, ?_⟩
  · show -(2 ^ 62) ≤ (((tx L).length : Nat) : Int); omega
  · show (((tx L).length : Nat) : Int) < 2 ^ 62; rw [tx_len]; omega
  rw [Int.toNat_natCast]
  refine for_range (lo := 0) (n := (tx L).length) (fun i σ H' => H' = H ∧ ∃ (d : Int) (o : Option V), σ = [some (.str (tx L)), some (.int d), o] ∧ NN.due L = NN.dueFrom (L.take i) d (L.drop i)) ⟨rfl, 0, none, rfl, by rw [List.take_zero, List.drop_zero]; rfl⟩ ?_ ?_
  · rintro i σ H' hi ⟨rfl, d, o, rfl, hd⟩
    rw [tx_len] at hi
    rw [Int.zero_add]
    have hget : L[i]? = some L[i] := List.getElem?_eq_getElem hi
    rw [List.drop_eq_getElem_cons hi, NN.dueFrom] at hd
    have e2 : Txt.slice (tx L) none (some ((i : Nat) : Int)) = tx (L.take i) := str_tx (by rw [cod_to])
    have hat : atI (cod (tx L)) ((i : Nat) : Int) = some L[i] := atI_nat hget
    refine ⟨_, rfl, _, rfl, _, rfl, tx L, rfl, hlen, _, rfl, _, rfl, tx L, _, L[i], rfl, rfl, hlen, hat, _, rfl, L.take i, L[i], d, ?_, ?_, _, rfl, ?_⟩
    · rw [e2]; rfl
    · rw [List.length_take]; omega
    by_cases hs : NN.stand (L.take i) L[i] d = true
    · rw [if_pos hs] at hd
      rw [hs]
      refine iteF ?_
      have cmp : ∀ (k : Nat) (z : Str), cod z = [k] → decide (V.str (⟨#[L[i]]⟩ : Str) = V.str z) = decide (L[i] = k) := fun k z hz => by
        have y := eq_tx [L[i]] [k] z hz
        rw [Bool.eq_iff_iff] at y ⊢
        simpa using y
      refine ⟨_, rfl, _, rfl, _, rfl, tx L, _, L[i], rfl, rfl, hlen, hat, rfl, .inr ⟨_, rfl, _, _, rfl, rfl, _, rfl, _, rfl, tx L, _, L[i], rfl, rfl, hlen, hat, rfl, .inr ⟨_, rfl, _, _, rfl, rfl, rfl, NN.deepBy d L[i], some (.int ((i : Nat) : Int)), ?_, ?_⟩⟩⟩
      · rw [cmp 91 "[" (by decide +kernel), cmp 93 "]" (by decide +kernel)]
        unfold NN.deepBy
        simp only [decide_eq_true_eq]
        rfl
      · rw [hd, List.take_add_one, hget]
        rfl
    · rw [if_neg hs] at hd
      rw [hd] at q
      rw [Bool.not_eq_true] at hs
      rw [hs]
      have e : (L.take i).length = i := by rw [List.length_take]; omega
      rw [e] at q
      exact iteT ⟨_, rfl, q⟩
  · rintro σ H' ⟨rfl, d, o, rfl, hd⟩
    rw [tx_len, List.take_of_length_le (Nat.le_refl _), List.drop_of_length_le (Nat.le_refl _)] at hd
    exact r1 d o hd
end
end K5

set_option Elab.async false
set_option linter.all false
set_option maxRecDepth 100000
set_option maxHeartbeats 16000000
namespace K5
open PySem L2
/-! ### what the base class tells -/
def spTells : Sp := fun vs H Q _ => ∃ (L : List Nat), vs = [.str (tx L)] ∧ NN.okLine L ∧ ∀ H', Same H H' → Q (.bl (NN.due L).isSome) H'
section
variable {P : Program} {w : World} {K : PySem.W.Frag} {mg : Str → Option Value} {base : Heap} {f g g2 C CN CP : Addr} {fd gd gd2 : FuncData} {kk : Nat}
theorem boot_ValueError : bootBuiltins "ValueError" = some (.type "ValueError") := by decide +kernel
theorem sc_base_tells : FnScope ["_law_line", "_law_many", "e"] ["_law_line"] (defScope s_base_tells) := ⟨rfl, rfl, rfl, by decide +kernel, rfl, by decide +kernel, by decide +kernel⟩
theorem kit_self (C : Addr) : PySem.W.kitOne K (.ref C) (.ref C) = some true := by
  unfold PySem.W.kitOne
  rw [if_pos (by simp)]
theorem ok_base_tells (Fn : Fun K "_law_base_tells" "_law_base_tells" s_base_tells f fd) (G_read : FnOk P w K mg base (CXR P w) kk g gd ["line"] (spRead C)) (b_read : Binds K gd ["line"] []) (k_read : PySem.W.keepIn K (.ref g) = true) (m_read : mg "read" = some (.ref g))
    (m_NoThing : mg "NoThing" = some (.ref C)) (k_C : PySem.W.excIn K C bmV "ValueError.__new__" = true) (m_NoteError : mg "NoteError" = some (.ref CN)) (k_NoteError : PySem.W.excIn K CN bmV "ValueError.__new__" = true) (n_NoteError : below K C CN = true) (m_NoPart : mg "NoPart" = some (.ref CP))
    (m_isinstance : mg "isinstance" = none) (m_int : mg "int" = none) (m_ValueError : mg "ValueError" = none) (Lk : ExcLk K C) (q_P : PySem.W.kitOne K (.ref C) (.ref CP) = some false) (q_V : PySem.W.kitOne K (.ref C) (.type "ValueError") = some true) :
    FnOk P w K mg base CX0 (kk + 1) f fd ["_law_line"] spTells := by
  refine Fn.ok sc_base_tells (fun vs H Q E h => ?_) (fun cdv A outer s H vs Q E hr h => ?_)
  · obtain ⟨L, rfl, _⟩ := h
    rfl
  obtain ⟨L, rfl, ⟨hR, hl, hc⟩, q⟩ := h
  refine ⟨_, (pss_cons (ps_tryAs (i := 2) (C := C) (Cb := CN) rfl rfl sc_base_tells.nd rfl rfl (fun pins0 R => (pss_one (ps_expr (pe_callT (X := CxD P w K mg base ["_law_line", "_law_many", "e"] "_law_base_tells" s_base_tells f cdv A outer s H E) (pins0 := pins0) (R := R) G_read hr rfl m_read k_read b_read .nil (pa_cons (pv 0) pa_nil)))))
 (fun a oe hc => (pss_cons (ps_set (i := 1) sc_base_tells.nd rfl (Or.inl rfl) (pe_op op_add (pe_callTy call_int1 rfl m_int boot_int (pa_cons (pe_callB (call_isx Lk mem_held hc) rfl m_isinstance boot_isinst (pa_cons (pv 2) (pa_cons (pe_glob (v := .ref C) rfl m_NoThing rfl) pa_nil))) pa_nil)) (pe_callTy call_int1 rfl m_int boot_int (pa_cons (pe_callB (call_isx Lk mem_held hc) rfl m_isinstance boot_isinst (pa_cons (pv 2) (pa_cons (pe_glob (v := .ref CP) rfl m_NoPart rfl) pa_nil))) pa_nil))))
 (pss_one (ps_ret (pe_and (pe_callB (call_isx Lk mem_held hc) rfl m_isinstance boot_isinst (pa_cons (pv 2) (pa_cons (pe_bltn (v := .ty "ValueError") rfl m_ValueError boot_ValueError rfl) pa_nil))) (pe_one (pe_cmpR op_eq (pv 1) pe_int (nomark _)))))))) rfl m_NoteError k_C k_NoteError n_NoteError)
 (pss_one (ps_ret pe_bl))), ?_⟩
  refine ⟨fun σ' cls d H' => σ' = [some (.str (tx L)), none, none] ∧ cls = .ref C ∧ Same H H' ∧ NN.due L ≠ none, ⟨_, rfl, L, rfl, hR, by omega, hc, fun t v' H' ht hline S _ => ?_, fun hn H' S => ⟨rfl, rfl, S, hn⟩⟩, ?_⟩
  · have z := q H' S
    rw [← hline, NN.due_line t ht] at z
    exact z
  · rintro σ' H' cls d ⟨rfl, rfl, S, hn⟩
    refine ⟨rfl, fun a ha => ?_⟩
    have z := q H' S
    rw [show (NN.due L).isSome = true from Option.isSome_iff_ne_none.mpr hn] at z
    exact ⟨_, rfl, .ref C, .ref C, true, rfl, fun u r => r, kit_self C, .inr ⟨_, rfl, _, rfl, .ref CP, .ref CP, false, rfl, fun u r => r, q_P, .inr ⟨_, rfl, _, _, rfl, rfl, _, rfl, .ty "ValueError", .type "ValueError", true, rfl, fun u r => r, q_V, _, rfl, iteT ⟨_, rfl, rfl, z⟩⟩⟩⟩
end
/-! ### the law -/
def spLaw (K : PySem.W.Frag) : Sp := fun vs H Q _ => ∃ (a : Addr) (ns : List Int), vs = [.ref a] ∧ SqL K H a (ns.map V.int) ∧ ns.length ≤ 63 ∧ ∀ H', Q (.bl true) H'
section
variable {P : Program} {w : World} {K : PySem.W.Frag} {mg : Str → Option Value} {base : Heap} {f g1 g2 g3 g4 g5 g6 C : Addr} {fd d1 d2 d3 d4 d5 d6 : FuncData} {kk : Nat}
abbrev NL : List Str := ["_law_script", "_law_line", "_law_spot", "_law_found", "_law_refused"]
theorem sc_law : FnScope NL ["_law_script"] (defScope s_law) := ⟨rfl, rfl, rfl, by decide +kernel, rfl, by decide +kernel, by decide +kernel⟩
theorem ok_law (Fn : Fun K "law" "law" s_law f fd)
    (G__law_some_line : FnOk P w K mg base CX0 kk g1 d1 ["_law_script"] (spSomeLine K)) (b__law_some_line : Binds K d1 ["_law_script"] []) (k__law_some_line : PySem.W.keepIn K (.ref g1) = true) (m__law_some_line : mg "_law_some_line" = some (.ref g1))
    (G__law_due : FnOk P w K mg base CX0 kk g2 d2 ["_law_line"] spDue) (b__law_due : Binds K d2 ["_law_line"] []) (k__law_due : PySem.W.keepIn K (.ref g2) = true) (m__law_due : mg "_law_due" = some (.ref g2))
    (G_fault : FnOk P w K mg base CX0 kk g3 d3 ["line"] spFault) (b_fault : Binds K d3 ["line"] []) (k_fault : PySem.W.keepIn K (.ref g3) = true) (m_fault : mg "fault" = some (.ref g3))
    (G_read : FnOk P w K mg base (CXR P w) kk g4 d4 ["line"] (spRead C)) (b_read : Binds K d4 ["line"] []) (k_read : PySem.W.keepIn K (.ref g4) = true) (m_read : mg "read" = some (.ref g4))
    (G__law_base_tells : FnOk P w K mg base CX0 kk g5 d5 ["_law_line"] spTells) (b__law_base_tells : Binds K d5 ["_law_line"] []) (k__law_base_tells : PySem.W.keepIn K (.ref g5) = true) (m__law_base_tells : mg "_law_base_tells" = some (.ref g5))
    (G__law_whole : FnOk P w K mg base CX0 kk g6 d6 ["_law_found"] spWhole) (b__law_whole : Binds K d6 ["_law_found"] []) (k__law_whole : PySem.W.keepIn K (.ref g6) = true) (m__law_whole : mg "_law_whole" = some (.ref g6))
    (m_NoThing : mg "NoThing" = some (.ref C)) (k_C : PySem.W.excIn K C bmV "ValueError.__new__" = true) (n_NoThing : below K C C = true) : FnOk P w K mg base CX0 (kk + 1) f fd ["_law_script"] (spLaw K) := by
  refine Fn.ok sc_law (fun vs H Q E h => ?_) (fun cdv A outer s H vs Q E hr h => ?_)
  · obtain ⟨a, ns, rfl, _⟩ := h
    rfl
  obtain ⟨a, ns, rfl, hS, h63, q⟩ := h
  have k_NoThing := k_C
  have T5 : ∃ t, PSs (CxD P w K mg base NL "law" s_law f cdv A outer s H E) ((defBody s_law).drop 5) t ∧ ∀ (L : List Nat) (H1 : Hp), NN.okLine L → t { nx := fun _ H' => Q .non H', rt := Q } [some (.ref a), some (.str (tx L)), some (.int (match NN.due L with | none => -1 | some k => ((k : Nat) : Int))), some (match NN.due L with | none => .non | some k => .int ((k : Nat) : Int)), some (.bl (NN.due L).isSome)] H1 := by
    refine ⟨_, (pss_cons (ps_if (pt_cmpR op_ne (pe_call G__law_base_tells hr rfl m__law_base_tells k__law_base_tells b__law_base_tells .nil pass0 (pa_cons (pv 1) pa_nil)) (pv 4) (nomark _))
 (pss_one (ps_ret pe_bl))
 pss_nil)
 (pss_cons (ps_if (pt_cmpR op_lt (pv 2) pe_int (nomark _))
 (pss_one (ps_ret (pe_and (pe_cmpR op_isN (pv 3) pe_non (nomark _)) (pe_one (pe_not (pv 4))))))
 pss_nil)
 (pss_one (ps_ret (pe_and (pv 4) (pe_and (pe_call G__law_whole hr rfl m__law_whole k__law_whole b__law_whole .nil pass0 (pa_cons (pv 3) pa_nil)) (pe_one (pe_cmpR op_eq (pv 3) (pv 2) (nomark _))))))))), fun L H1 hL => ?_⟩
    refine ⟨_, rfl, L, rfl, hL, fun H2 S2 => ⟨_, rfl, rfl, _, rfl, iteNS rfl ?_⟩⟩
    cases hd : NN.due L with
    | none =>
      refine ⟨_, rfl, _, _, rfl, rfl, _, rfl, iteT ?_⟩
      refine ⟨_, rfl, rfl, _, rfl, iteT ⟨_, rfl, _, rfl, ?_⟩⟩
      exact q _
    | some k =>
      refine ⟨_, rfl, _, _, rfl, rfl, _, rfl, ?_⟩
      have e : decide (((k : Nat) : Int) < 0) = false := decide_eq_false (by omega)
      show if (decide (((k : Nat) : Int) < 0)) = true then _ else _
      rw [e]
      refine iteF ⟨_, rfl, _, rfl, iteT ⟨_, rfl, ((k : Nat) : Int), rfl, _, rfl, iteT ⟨_, rfl, _, rfl, rfl, ?_⟩⟩⟩
      show Q (.bl (decide (V.int ((k : Nat) : Int) = V.int ((k : Nat) : Int)))) _
      rw [decide_eq_true rfl]
      exact q _
  obtain ⟨t5, h5, r5⟩ := T5
  refine ⟨_, (pss_cons (ps_set (i := 1) sc_law.nd rfl (Or.inl rfl) (pe_call G__law_some_line hr rfl m__law_some_line k__law_some_line b__law_some_line .nil pass0 (pa_cons (pv 0) pa_nil)))
 (pss_cons (ps_set (i := 2) sc_law.nd rfl (Or.inl rfl) (pe_call G__law_due hr rfl m__law_due k__law_due b__law_due .nil pass0 (pa_cons (pv 1) pa_nil)))
 (pss_cons (ps_set (i := 3) sc_law.nd rfl (Or.inl rfl) (pe_call G_fault hr rfl m_fault k_fault b_fault .nil pass0 (pa_cons (pv 1) pa_nil)))
 (pss_cons (ps_set (i := 4) sc_law.nd rfl (Or.inl rfl) pe_bl)
 (pss_cons (ps_try (C := C) (Cb := C) rfl rfl (fun pins0 R => (pss_one (ps_expr (pe_callT (X := CxD P w K mg base NL "law" s_law f cdv A outer s H E) (pins0 := pins0) (R := R) G_read hr rfl m_read k_read b_read .nil (pa_cons (pv 1) pa_nil)))))
 (fun a => (pss_one (ps_set (i := 4) sc_law.nd rfl (Or.inl rfl) pe_bl))) rfl m_NoThing k_C k_NoThing n_NoThing)
 h5))))), ?_⟩
  refine ⟨_, rfl, a, ns, rfl, hS, h63, fun L H1 hL S1 => ?_⟩
  obtain ⟨hR, hl, hc⟩ := id hL
  refine ⟨_, rfl, L, rfl, by omega, ?_⟩
  refine ⟨_, rfl, L, rfl, hR, by omega, hc, fun H2 S2 => ?_⟩
  refine ⟨fun σ' cls d H' => σ' = [some (.ref a), some (.str (tx L)), some (.int (match NN.due L with | none => -1 | some k => ((k : Nat) : Int))), some (match NN.due L with | none => .non | some k => .int ((k : Nat) : Int)), some (.bl false)] ∧ cls = .ref C ∧ Same H2 H' ∧ NN.due L ≠ none, ⟨_, rfl, L, rfl, hR, by omega, hc, fun t v' H' ht hline S _ => ?_, fun hn H' S => ⟨rfl, rfl, S, hn⟩⟩, ?_⟩
  · have z := r5 L H' hL
    have hd : NN.due L = none := by rw [← hline]; exact NN.due_line t ht
    rw [hd] at z ⊢
    exact z
  · rintro σ' H' cls d ⟨rfl, rfl, S, hn⟩
    refine ⟨rfl, ?_⟩
    have z := r5 L H' hL
    rw [show (NN.due L).isSome = true from Option.isSome_iff_ne_none.mpr hn] at z
    exact z
end
end K5

set_option Elab.async false
set_option linter.all false
set_option maxRecDepth 100000
set_option maxHeartbeats 16000000
namespace K5
open PySem L2
/-! ### the program's top -/

theorem all_mk {l : PySem.W.OpenLaw} {w : World} {K : PySem.W.Frag} {h : Heap} {mg : Str → Option Value} {fa f1 f2 f3 f4 f5 f6 f7 f8 f9 f10 f11 f12 f13 f14 f15 f16 f17 f18 f19 f20 f21 f22 f23 f24 f25 f26 C_NoThing C_NoPart C_NoteError : Addr} (X : K.In h) (G : h.Ns mainGlobals mg) (hfa : mg "law" = some (.ref fa))
    {od1 an1 od2 an2 od3 an3 od4 an4 od5 an5 od6 an6 od7 an7 od8 an8 od9 an9 od10 an10 od11 an11 od12 an12 od13 an13 od14 an14 od15 an15 od16 an16 od17 an17 od18 an18 od19 an19 od20 an20 od21 an21 od22 an22 od23 an23 od24 an24 od25 an25 od26 an26 : Option Addr} {sl1 sl2 sl3 sl4 sl5 sl6 sl7 sl8 sl9 sl10 sl11 sl12 sl13 sl14 sl15 sl16 sl17 sl18 sl19 sl20 sl21 sl22 sl23 sl24 sl25 sl26 : Array (Option Value)} {oc1 kV1 dc1 pm1 cd1 ct1 oc2 kV2 dc2 pm2 cd2 ct2 oc3 kV3 dc3 pm3 cd3 ct3 oc4 kV4 dc4 pm4 cd4 ct4 oc5 kV5 dc5 pm5 cd5 ct5 oc6 kV6 dc6 pm6 cd6 ct6 oc7 kV7 dc7 pm7 cd7 ct7 oc8 kV8 dc8 pm8 cd8 ct8 oc9 kV9 dc9 pm9 cd9 ct9 oc10 kV10 dc10 pm10 cd10 ct10 oc11 kV11 dc11 pm11 cd11 ct11 oc12 kV12 dc12 pm12 cd12 ct12 oc13 kV13 dc13 pm13 cd13 ct13 oc14 kV14 dc14 pm14 cd14 ct14 oc15 kV15 dc15 pm15 cd15 ct15 oc16 kV16 dc16 pm16 cd16 ct16 oc17 kV17 dc17 pm17 cd17 ct17 oc18 kV18 dc18 pm18 cd18 ct18 oc19 kV19 dc19 pm19 cd19 ct19 oc20 kV20 dc20 pm20 cd20 ct20 oc21 kV21 dc21 pm21 cd21 ct21 oc22 kV22 dc22 pm22 cd22 ct22 oc23 kV23 dc23 pm23 cd23 ct23 oc24 kV24 dc24 pm24 cd24 ct24 oc25 kV25 dc25 pm25 cd25 ct25 oc26 kV26 dc26 pm26 cd26 ct26 : Value} {t_LETTERS t_FIGURES t_START t_OPENED t_CLOSED t_MINUS t_NOUGHT t_NUMBER t_WORD : Tok}
    (a1 : PySem.W.nsIn K mainGlobals "is_number" = some (some (.ref f1))) (l1 : K.lookup f1 = some ⟨oc1, od1, .func (PySem.W.fnOf "is_number" "is_number" (defArgs s_is_number) (defBody s_is_number) (defScope s_is_number) .none kV1 dc1 pm1 an1 cd1 ct1), sl1⟩) (c1 : PySem.W.codeIn K cd1 "is_number" = true) (k1 : PySem.W.keepIn K (.ref f1) = true)
    (a2 : PySem.W.nsIn K mainGlobals "is_made_of" = some (some (.ref f2))) (l2 : K.lookup f2 = some ⟨oc2, od2, .func (PySem.W.fnOf "is_made_of" "is_made_of" (defArgs s_is_made_of) (defBody s_is_made_of) (defScope s_is_made_of) .none kV2 dc2 pm2 an2 cd2 ct2), sl2⟩) (c2 : PySem.W.codeIn K cd2 "is_made_of" = true) (k2 : PySem.W.keepIn K (.ref f2) = true)
    (a3 : PySem.W.nsIn K mainGlobals "read" = some (some (.ref f3))) (l3 : K.lookup f3 = some ⟨oc3, od3, .func (PySem.W.fnOf "read" "read" (defArgs s_read) (defBody s_read) (defScope s_read) .none kV3 dc3 pm3 an3 cd3 ct3), sl3⟩) (c3 : PySem.W.codeIn K cd3 "read" = true) (k3 : PySem.W.keepIn K (.ref f3) = true)
    (a4 : PySem.W.nsIn K mainGlobals "fault" = some (some (.ref f4))) (l4 : K.lookup f4 = some ⟨oc4, od4, .func (PySem.W.fnOf "fault" "fault" (defArgs s_fault) (defBody s_fault) (defScope s_fault) .none kV4 dc4 pm4 an4 cd4 ct4), sl4⟩) (c4 : PySem.W.codeIn K cd4 "fault" = true) (k4 : PySem.W.keepIn K (.ref f4) = true)
    (a5 : PySem.W.nsIn K mainGlobals "ends_thing" = some (some (.ref f5))) (l5 : K.lookup f5 = some ⟨oc5, od5, .func (PySem.W.fnOf "ends_thing" "ends_thing" (defArgs s_ends_thing) (defBody s_ends_thing) (defScope s_ends_thing) .none kV5 dc5 pm5 an5 cd5 ct5), sl5⟩) (c5 : PySem.W.codeIn K cd5 "ends_thing" = true) (k5 : PySem.W.keepIn K (.ref f5) = true)
    (a6 : PySem.W.nsIn K mainGlobals "state_behind" = some (some (.ref f6))) (l6 : K.lookup f6 = some ⟨oc6, od6, .func (PySem.W.fnOf "state_behind" "state_behind" (defArgs s_state_behind) (defBody s_state_behind) (defScope s_state_behind) .none kV6 dc6 pm6 an6 cd6 ct6), sl6⟩) (c6 : PySem.W.codeIn K cd6 "state_behind" = true) (k6 : PySem.W.keepIn K (.ref f6) = true)
    (a7 : PySem.W.nsIn K mainGlobals "state_behind_first" = some (some (.ref f7))) (l7 : K.lookup f7 = some ⟨oc7, od7, .func (PySem.W.fnOf "state_behind_first" "state_behind_first" (defArgs s_state_behind_first) (defBody s_state_behind_first) (defScope s_state_behind_first) .none kV7 dc7 pm7 an7 cd7 ct7), sl7⟩) (c7 : PySem.W.codeIn K cd7 "state_behind_first" = true) (k7 : PySem.W.keepIn K (.ref f7) = true)
    (a8 : PySem.W.nsIn K mainGlobals "state_behind_thing" = some (some (.ref f8))) (l8 : K.lookup f8 = some ⟨oc8, od8, .func (PySem.W.fnOf "state_behind_thing" "state_behind_thing" (defArgs s_state_behind_thing) (defBody s_state_behind_thing) (defScope s_state_behind_thing) .none kV8 dc8 pm8 an8 cd8 ct8), sl8⟩) (c8 : PySem.W.codeIn K cd8 "state_behind_thing" = true) (k8 : PySem.W.keepIn K (.ref f8) = true)
    (a9 : PySem.W.nsIn K mainGlobals "thing_of" = some (some (.ref f9))) (l9 : K.lookup f9 = some ⟨oc9, od9, .func (PySem.W.fnOf "thing_of" "thing_of" (defArgs s_thing_of) (defBody s_thing_of) (defScope s_thing_of) .none kV9 dc9 pm9 an9 cd9 ct9), sl9⟩) (c9 : PySem.W.codeIn K cd9 "thing_of" = true) (k9 : PySem.W.keepIn K (.ref f9) = true)
    (a10 : PySem.W.nsIn K mainGlobals "pieces_of" = some (some (.ref f10))) (l10 : K.lookup f10 = some ⟨oc10, od10, .func (PySem.W.fnOf "pieces_of" "pieces_of" (defArgs s_pieces_of) (defBody s_pieces_of) (defScope s_pieces_of) .none kV10 dc10 pm10 an10 cd10 ct10), sl10⟩) (c10 : PySem.W.codeIn K cd10 "pieces_of" = true) (k10 : PySem.W.keepIn K (.ref f10) = true)
    (a11 : PySem.W.nsIn K mainGlobals "leaf_of" = some (some (.ref f11))) (l11 : K.lookup f11 = some ⟨oc11, od11, .func (PySem.W.fnOf "leaf_of" "leaf_of" (defArgs s_leaf_of) (defBody s_leaf_of) (defScope s_leaf_of) .none kV11 dc11 pm11 an11 cd11 ct11), sl11⟩) (c11 : PySem.W.codeIn K cd11 "leaf_of" = true) (k11 : PySem.W.keepIn K (.ref f11) = true)
    (a12 : PySem.W.nsIn K mainGlobals "_law_any" = some (some (.ref f12))) (l12 : K.lookup f12 = some ⟨oc12, od12, .func (PySem.W.fnOf "_law_any" "_law_any" (defArgs s_any) (defBody s_any) (defScope s_any) .none kV12 dc12 pm12 an12 cd12 ct12), sl12⟩) (c12 : PySem.W.codeIn K cd12 "_law_any" = true) (k12 : PySem.W.keepIn K (.ref f12) = true)
    (a13 : PySem.W.nsIn K mainGlobals "_law_any_word" = some (some (.ref f13))) (l13 : K.lookup f13 = some ⟨oc13, od13, .func (PySem.W.fnOf "_law_any_word" "_law_any_word" (defArgs s_any_word) (defBody s_any_word) (defScope s_any_word) .none kV13 dc13 pm13 an13 cd13 ct13), sl13⟩) (c13 : PySem.W.codeIn K cd13 "_law_any_word" = true) (k13 : PySem.W.keepIn K (.ref f13) = true)
    (a14 : PySem.W.nsIn K mainGlobals "_law_word_of" = some (some (.ref f14))) (l14 : K.lookup f14 = some ⟨oc14, od14, .func (PySem.W.fnOf "_law_word_of" "_law_word_of" (defArgs s_word_of) (defBody s_word_of) (defScope s_word_of) .none kV14 dc14 pm14 an14 cd14 ct14), sl14⟩) (c14 : PySem.W.codeIn K cd14 "_law_word_of" = true) (k14 : PySem.W.keepIn K (.ref f14) = true)
    (a15 : PySem.W.nsIn K mainGlobals "_law_number_of" = some (some (.ref f15))) (l15 : K.lookup f15 = some ⟨oc15, od15, .func (PySem.W.fnOf "_law_number_of" "_law_number_of" (defArgs s_number_of) (defBody s_number_of) (defScope s_number_of) .none kV15 dc15 pm15 an15 cd15 ct15), sl15⟩) (c15 : PySem.W.codeIn K cd15 "_law_number_of" = true) (k15 : PySem.W.keepIn K (.ref f15) = true)
    (a16 : PySem.W.nsIn K mainGlobals "_law_whole" = some (some (.ref f16))) (l16 : K.lookup f16 = some ⟨oc16, od16, .func (PySem.W.fnOf "_law_whole" "_law_whole" (defArgs s_whole) (defBody s_whole) (defScope s_whole) .none kV16 dc16 pm16 an16 cd16 ct16), sl16⟩) (c16 : PySem.W.codeIn K cd16 "_law_whole" = true) (k16 : PySem.W.keepIn K (.ref f16) = true)
    (a17 : PySem.W.nsIn K mainGlobals "_law_at" = some (some (.ref f17))) (l17 : K.lookup f17 = some ⟨oc17, od17, .func (PySem.W.fnOf "_law_at" "_law_at" (defArgs s_at) (defBody s_at) (defScope s_at) .none kV17 dc17 pm17 an17 cd17 ct17), sl17⟩) (c17 : PySem.W.codeIn K cd17 "_law_at" = true) (k17 : PySem.W.keepIn K (.ref f17) = true)
    (a18 : PySem.W.nsIn K mainGlobals "_law_marks" = some (some (.ref f18))) (l18 : K.lookup f18 = some ⟨oc18, od18, .func (PySem.W.fnOf "_law_marks" "_law_marks" (defArgs s_marks) (defBody s_marks) (defScope s_marks) .none kV18 dc18 pm18 an18 cd18 ct18), sl18⟩) (c18 : PySem.W.codeIn K cd18 "_law_marks" = true) (k18 : PySem.W.keepIn K (.ref f18) = true)
    (a19 : PySem.W.nsIn K mainGlobals "_law_spoilt" = some (some (.ref f19))) (l19 : K.lookup f19 = some ⟨oc19, od19, .func (PySem.W.fnOf "_law_spoilt" "_law_spoilt" (defArgs s_spoilt) (defBody s_spoilt) (defScope s_spoilt) .none kV19 dc19 pm19 an19 cd19 ct19), sl19⟩) (c19 : PySem.W.codeIn K cd19 "_law_spoilt" = true) (k19 : PySem.W.keepIn K (.ref f19) = true)
    (a20 : PySem.W.nsIn K mainGlobals "_law_some_line" = some (some (.ref f20))) (l20 : K.lookup f20 = some ⟨oc20, od20, .func (PySem.W.fnOf "_law_some_line" "_law_some_line" (defArgs s_some_line) (defBody s_some_line) (defScope s_some_line) .none kV20 dc20 pm20 an20 cd20 ct20), sl20⟩) (c20 : PySem.W.codeIn K cd20 "_law_some_line" = true) (k20 : PySem.W.keepIn K (.ref f20) = true)
    (a21 : PySem.W.nsIn K mainGlobals "_law_written" = some (some (.ref f21))) (l21 : K.lookup f21 = some ⟨oc21, od21, .func (PySem.W.fnOf "_law_written" "_law_written" (defArgs s_written) (defBody s_written) (defScope s_written) .none kV21 dc21 pm21 an21 cd21 ct21), sl21⟩) (c21 : PySem.W.codeIn K cd21 "_law_written" = true) (k21 : PySem.W.keepIn K (.ref f21) = true)
    (a22 : PySem.W.nsIn K mainGlobals "_law_one_of" = some (some (.ref f22))) (l22 : K.lookup f22 = some ⟨oc22, od22, .func (PySem.W.fnOf "_law_one_of" "_law_one_of" (defArgs s_one_of) (defBody s_one_of) (defScope s_one_of) .none kV22 dc22 pm22 an22 cd22 ct22), sl22⟩) (c22 : PySem.W.codeIn K cd22 "_law_one_of" = true) (k22 : PySem.W.keepIn K (.ref f22) = true)
    (a23 : PySem.W.nsIn K mainGlobals "_law_may_stand" = some (some (.ref f23))) (l23 : K.lookup f23 = some ⟨oc23, od23, .func (PySem.W.fnOf "_law_may_stand" "_law_may_stand" (defArgs s_may_stand) (defBody s_may_stand) (defScope s_may_stand) .none kV23 dc23 pm23 an23 cd23 ct23), sl23⟩) (c23 : PySem.W.codeIn K cd23 "_law_may_stand" = true) (k23 : PySem.W.keepIn K (.ref f23) = true)
    (a24 : PySem.W.nsIn K mainGlobals "_law_due" = some (some (.ref f24))) (l24 : K.lookup f24 = some ⟨oc24, od24, .func (PySem.W.fnOf "_law_due" "_law_due" (defArgs s_due) (defBody s_due) (defScope s_due) .none kV24 dc24 pm24 an24 cd24 ct24), sl24⟩) (c24 : PySem.W.codeIn K cd24 "_law_due" = true) (k24 : PySem.W.keepIn K (.ref f24) = true)
    (a25 : PySem.W.nsIn K mainGlobals "_law_base_tells" = some (some (.ref f25))) (l25 : K.lookup f25 = some ⟨oc25, od25, .func (PySem.W.fnOf "_law_base_tells" "_law_base_tells" (defArgs s_base_tells) (defBody s_base_tells) (defScope s_base_tells) .none kV25 dc25 pm25 an25 cd25 ct25), sl25⟩) (c25 : PySem.W.codeIn K cd25 "_law_base_tells" = true) (k25 : PySem.W.keepIn K (.ref f25) = true)
    (a26 : PySem.W.nsIn K mainGlobals "law" = some (some (.ref f26))) (l26 : K.lookup f26 = some ⟨oc26, od26, .func (PySem.W.fnOf "law" "law" (defArgs s_law) (defBody s_law) (defScope s_law) .none kV26 dc26 pm26 an26 cd26 ct26), sl26⟩) (c26 : PySem.W.codeIn K cd26 "law" = true) (k26 : PySem.W.keepIn K (.ref f26) = true)
    (v_LETTERS : PySem.W.nsIn K mainGlobals "LETTERS" = some (some (.str letters t_LETTERS)))
    (v_FIGURES : PySem.W.nsIn K mainGlobals "FIGURES" = some (some (.str figures t_FIGURES)))
    (v_START : PySem.W.nsIn K mainGlobals "START" = some (some (.str (stS 0) t_START)))
    (v_OPENED : PySem.W.nsIn K mainGlobals "OPENED" = some (some (.str (stS 1) t_OPENED)))
    (v_CLOSED : PySem.W.nsIn K mainGlobals "CLOSED" = some (some (.str (stS 2) t_CLOSED)))
    (v_MINUS : PySem.W.nsIn K mainGlobals "MINUS" = some (some (.str (stS 3) t_MINUS)))
    (v_NOUGHT : PySem.W.nsIn K mainGlobals "NOUGHT" = some (some (.str (stS 4) t_NOUGHT)))
    (v_NUMBER : PySem.W.nsIn K mainGlobals "NUMBER" = some (some (.str (stS 5) t_NUMBER)))
    (v_WORD : PySem.W.nsIn K mainGlobals "WORD" = some (some (.str (stS 6) t_WORD)))
    (e_NoThing : PySem.W.nsIn K mainGlobals "NoThing" = some (some (.ref C_NoThing)))
    (e_NoPart : PySem.W.nsIn K mainGlobals "NoPart" = some (some (.ref C_NoPart)))
    (e_NoteError : PySem.W.nsIn K mainGlobals "NoteError" = some (some (.ref C_NoteError)))
    (x_NoThing : PySem.W.excIn K C_NoThing bmV "ValueError.__new__" = true)
    (x_NoteError : PySem.W.excIn K C_NoteError bmV "ValueError.__new__" = true)
    (y_TT : below K C_NoThing C_NoThing = true)
    (y_TN : below K C_NoThing C_NoteError = true)
    (g1 : PySem.W.findIn K (.ref C_NoThing) "__getattribute__" = some (some (.builtin "BaseException.__getattribute__")))
    (g2 : PySem.W.findIn K (.ref C_NoThing) "__getattr__" = some none)
    (g3 : PySem.W.findIn K (.ref C_NoThing) "__class__" = some (some (.builtin "object.__class__")))
    (g4 : PySem.W.subIn K (.ref C_NoThing) (.type "BaseException") = some true)
    (g5 : PySem.W.subIn K (.ref C_NoThing) (.type "object") = some true)
    (g6 : (PySem.W.clsIn K C_NoThing).isSome = true)
    (q1 : PySem.W.kitOne K (.ref C_NoThing) (.ref C_NoPart) = some false)
    (q2 : PySem.W.kitOne K (.ref C_NoThing) (.type "ValueError") = some true)
    (z_isinstance : PySem.W.nsIn K mainGlobals "isinstance" = some none)
    (z_int : PySem.W.nsIn K mainGlobals "int" = some none)
    (z_bool : PySem.W.nsIn K mainGlobals "bool" = some none)
    (z_str : PySem.W.nsIn K mainGlobals "str" = some none)
    (z_len : PySem.W.nsIn K mainGlobals "len" = some none)
    (z_abs : PySem.W.nsIn K mainGlobals "abs" = some none)
    (z_enumerate : PySem.W.nsIn K mainGlobals "enumerate" = some none)
    (z_all : PySem.W.nsIn K mainGlobals "all" = some none)
    (z_range : PySem.W.nsIn K mainGlobals "range" = some none)
    (z_ValueError : PySem.W.nsIn K mainGlobals "ValueError" = some none)
    : ∃ fd : FuncData, (∀ (s : Shared) (v : Value), BindsTo s fd ⟨[v], []⟩ [("_law_script", v)]) ∧ ∀ base : Heap, K.In base → base.Ns mainGlobals mg → FnOk l.prog w K mg base CX0 7 fa fd ["_law_script"] (spLaw K) := by
  have e := hfa.symm.trans (PySem.W.mg_of X G a26)
  cases e
  have F_is_number := fun_mk (st := s_is_number) l1 c1 k1
  have m_is_number := PySem.W.mg_of X G a1
  have k_is_number := k1
  have b_is_number := F_is_number.binds (ps := ["line"]) fun _ _ _ _ _ _ us hl => match us, hl with | [_], _ => rfl
  have F_is_made_of := fun_mk (st := s_is_made_of) l2 c2 k2
  have m_is_made_of := PySem.W.mg_of X G a2
  have k_is_made_of := k2
  have b_is_made_of := F_is_made_of.binds (ps := ["line", "allowed"]) fun _ _ _ _ _ _ us hl => match us, hl with | [_, _], _ => rfl
  have F_read := fun_mk (st := s_read) l3 c3 k3
  have m_read := PySem.W.mg_of X G a3
  have k_read := k3
  have b_read := F_read.binds (ps := ["line"]) fun _ _ _ _ _ _ us hl => match us, hl with | [_], _ => rfl
  have F_fault := fun_mk (st := s_fault) l4 c4 k4
  have m_fault := PySem.W.mg_of X G a4
  have k_fault := k4
  have b_fault := F_fault.binds (ps := ["line"]) fun _ _ _ _ _ _ us hl => match us, hl with | [_], _ => rfl
  have F_ends_thing := fun_mk (st := s_ends_thing) l5 c5 k5
  have m_ends_thing := PySem.W.mg_of X G a5
  have k_ends_thing := k5
  have b_ends_thing := F_ends_thing.binds (ps := ["state"]) fun _ _ _ _ _ _ us hl => match us, hl with | [_], _ => rfl
  have F_state_behind := fun_mk (st := s_state_behind) l6 c6 k6
  have m_state_behind := PySem.W.mg_of X G a6
  have k_state_behind := k6
  have b_state_behind := F_state_behind.binds (ps := ["sign", "state", "unclosed"]) fun _ _ _ _ _ _ us hl => match us, hl with | [_, _, _], _ => rfl
  have F_state_behind_first := fun_mk (st := s_state_behind_first) l7 c7 k7
  have m_state_behind_first := PySem.W.mg_of X G a7
  have k_state_behind_first := k7
  have b_state_behind_first := F_state_behind_first.binds (ps := ["sign"]) fun _ _ _ _ _ _ us hl => match us, hl with | [_], _ => rfl
  have F_state_behind_thing := fun_mk (st := s_state_behind_thing) l8 c8 k8
  have m_state_behind_thing := PySem.W.mg_of X G a8
  have k_state_behind_thing := k8
  have b_state_behind_thing := F_state_behind_thing.binds (ps := ["sign"]) fun _ _ _ _ _ _ us hl => match us, hl with | [_], _ => rfl
  have F_thing_of := fun_mk (st := s_thing_of) l9 c9 k9
  have m_thing_of := PySem.W.mg_of X G a9
  have k_thing_of := k9
  have b_thing_of := F_thing_of.binds (ps := ["line"]) fun _ _ _ _ _ _ us hl => match us, hl with | [_], _ => rfl
  have F_pieces_of := fun_mk (st := s_pieces_of) l10 c10 k10
  have m_pieces_of := PySem.W.mg_of X G a10
  have k_pieces_of := k10
  have b_pieces_of := F_pieces_of.binds (ps := ["line"]) fun _ _ _ _ _ _ us hl => match us, hl with | [_], _ => rfl
  have F_leaf_of := fun_mk (st := s_leaf_of) l11 c11 k11
  have m_leaf_of := PySem.W.mg_of X G a11
  have k_leaf_of := k11
  have b_leaf_of := F_leaf_of.binds (ps := ["piece"]) fun _ _ _ _ _ _ us hl => match us, hl with | [_], _ => rfl
  have F__law_any := fun_mk (st := s_any) l12 c12 k12
  have m__law_any := PySem.W.mg_of X G a12
  have k__law_any := k12
  have b__law_any := F__law_any.binds (ps := ["_law_cell"]) fun _ _ _ _ _ _ us hl => match us, hl with | [_], _ => rfl
  have F__law_any_word := fun_mk (st := s_any_word) l13 c13 k13
  have m__law_any_word := PySem.W.mg_of X G a13
  have k__law_any_word := k13
  have b__law_any_word := F__law_any_word.binds (ps := ["_law_cell"]) fun _ _ _ _ _ _ us hl => match us, hl with | [_], _ => rfl
  have F__law_word_of := fun_mk (st := s_word_of) l14 c14 k14
  have m__law_word_of := PySem.W.mg_of X G a14
  have k__law_word_of := k14
  have b__law_word_of := F__law_word_of.binds (ps := ["_law_cell"]) fun _ _ _ _ _ _ us hl => match us, hl with | [_], _ => rfl
  have F__law_number_of := fun_mk (st := s_number_of) l15 c15 k15
  have m__law_number_of := PySem.W.mg_of X G a15
  have k__law_number_of := k15
  have b__law_number_of := F__law_number_of.binds (ps := ["_law_cell"]) fun _ _ _ _ _ _ us hl => match us, hl with | [_], _ => rfl
  have F__law_whole := fun_mk (st := s_whole) l16 c16 k16
  have m__law_whole := PySem.W.mg_of X G a16
  have k__law_whole := k16
  have b__law_whole := F__law_whole.binds (ps := ["_law_found"]) fun _ _ _ _ _ _ us hl => match us, hl with | [_], _ => rfl
  have F__law_at := fun_mk (st := s_at) l17 c17 k17
  have m__law_at := PySem.W.mg_of X G a17
  have k__law_at := k17
  have b__law_at := F__law_at.binds (ps := ["_law_script", "_law_k"]) fun _ _ _ _ _ _ us hl => match us, hl with | [_, _], _ => rfl
  have F__law_marks := fun_mk (st := s_marks) l18 c18 k18
  have m__law_marks := PySem.W.mg_of X G a18
  have k__law_marks := k18
  have b__law_marks := F__law_marks.binds (ps := []) fun _ _ _ _ _ _ us hl => match us, hl with | [], _ => rfl
  have F__law_spoilt := fun_mk (st := s_spoilt) l19 c19 k19
  have m__law_spoilt := PySem.W.mg_of X G a19
  have k__law_spoilt := k19
  have b__law_spoilt := F__law_spoilt.binds (ps := ["_law_line", "_law_way", "_law_spot", "_law_sign"]) fun _ _ _ _ _ _ us hl => match us, hl with | [_, _, _, _], _ => rfl
  have F__law_some_line := fun_mk (st := s_some_line) l20 c20 k20
  have m__law_some_line := PySem.W.mg_of X G a20
  have k__law_some_line := k20
  have b__law_some_line := F__law_some_line.binds (ps := ["_law_script"]) fun _ _ _ _ _ _ us hl => match us, hl with | [_], _ => rfl
  have F__law_written := fun_mk (st := s_written) l21 c21 k21
  have m__law_written := PySem.W.mg_of X G a21
  have k__law_written := k21
  have b__law_written := F__law_written.binds (ps := ["_law_cells"]) fun _ _ _ _ _ _ us hl => match us, hl with | [_], _ => rfl
  have F__law_one_of := fun_mk (st := s_one_of) l22 c22 k22
  have m__law_one_of := PySem.W.mg_of X G a22
  have k__law_one_of := k22
  have b__law_one_of := F__law_one_of.binds (ps := ["_law_sign", "_law_signs"]) fun _ _ _ _ _ _ us hl => match us, hl with | [_, _], _ => rfl
  have F__law_may_stand := fun_mk (st := s_may_stand) l23 c23 k23
  have m__law_may_stand := PySem.W.mg_of X G a23
  have k__law_may_stand := k23
  have b__law_may_stand := F__law_may_stand.binds (ps := ["_law_ahead", "_law_sign", "_law_deep"]) fun _ _ _ _ _ _ us hl => match us, hl with | [_, _, _], _ => rfl
  have F__law_due := fun_mk (st := s_due) l24 c24 k24
  have m__law_due := PySem.W.mg_of X G a24
  have k__law_due := k24
  have b__law_due := F__law_due.binds (ps := ["_law_line"]) fun _ _ _ _ _ _ us hl => match us, hl with | [_], _ => rfl
  have F__law_base_tells := fun_mk (st := s_base_tells) l25 c25 k25
  have m__law_base_tells := PySem.W.mg_of X G a25
  have k__law_base_tells := k25
  have b__law_base_tells := F__law_base_tells.binds (ps := ["_law_line"]) fun _ _ _ _ _ _ us hl => match us, hl with | [_], _ => rfl
  have F_law := fun_mk (st := s_law) l26 c26 k26
  have m_law := PySem.W.mg_of X G a26
  have k_law := k26
  have m_LETTERS := PySem.W.mg_of X G v_LETTERS
  have m_FIGURES := PySem.W.mg_of X G v_FIGURES
  have m_START := PySem.W.mg_of X G v_START
  have m_OPENED := PySem.W.mg_of X G v_OPENED
  have m_CLOSED := PySem.W.mg_of X G v_CLOSED
  have m_MINUS := PySem.W.mg_of X G v_MINUS
  have m_NOUGHT := PySem.W.mg_of X G v_NOUGHT
  have m_NUMBER := PySem.W.mg_of X G v_NUMBER
  have m_WORD := PySem.W.mg_of X G v_WORD
  have m_NoThing := PySem.W.mg_of X G e_NoThing
  have m_NoPart := PySem.W.mg_of X G e_NoPart
  have m_NoteError := PySem.W.mg_of X G e_NoteError
  have m_isinstance := PySem.W.mg_none_of X G z_isinstance
  have m_int := PySem.W.mg_none_of X G z_int
  have m_bool := PySem.W.mg_none_of X G z_bool
  have m_str := PySem.W.mg_none_of X G z_str
  have m_len := PySem.W.mg_none_of X G z_len
  have m_abs := PySem.W.mg_none_of X G z_abs
  have m_enumerate := PySem.W.mg_none_of X G z_enumerate
  have m_all := PySem.W.mg_none_of X G z_all
  have m_range := PySem.W.mg_none_of X G z_range
  have m_ValueError := PySem.W.mg_none_of X G z_ValueError
  refine ⟨PySem.W.fnOf "law" "law" (defArgs s_law) (defBody s_law) (defScope s_law) .none kV26 dc26 pm26 an26 cd26 ct26, fun s v => .of_eq rfl, fun base _ _ => ?_⟩
  have G__law_any := ok_any (P := l.prog) (w := w) (mg := mg) (base := base) F__law_any
  have G__law_any_word := ok_any_word (P := l.prog) (w := w) (mg := mg) (base := base) F__law_any_word m_abs
  have G__law_word_of := ok_word_of F__law_word_of G__law_any_word b__law_any_word k__law_any_word m__law_any_word
  have G__law_number_of := ok_number_of F__law_number_of G__law_any b__law_any k__law_any m__law_any
  have G__law_whole := ok_whole (P := l.prog) (w := w) (mg := mg) (base := base) F__law_whole m_isinstance m_int m_bool
  have G__law_written := ok_written F__law_written G__law_word_of b__law_word_of k__law_word_of m__law_word_of G__law_number_of b__law_number_of k__law_number_of m__law_number_of m_len m_str
  have G__law_at := ok_at (P := l.prog) (w := w) (mg := mg) (base := base) F__law_at m_len
  have G__law_marks := ok_marks (P := l.prog) (w := w) (mg := mg) (base := base) F__law_marks
  have G__law_spoilt := ok_spoilt (P := l.prog) (w := w) (mg := mg) (base := base) F__law_spoilt m_len
  have G__law_some_line := ok_some_line (kk := 3) F__law_some_line (G__law_at.mono (by decide)) b__law_at k__law_at m__law_at G__law_written b__law_written k__law_written m__law_written (G__law_marks.mono (by decide)) b__law_marks k__law_marks m__law_marks (G__law_spoilt.mono (by decide)) b__law_spoilt k__law_spoilt m__law_spoilt m_len
  have G__law_one_of := ok_one_of (P := l.prog) (w := w) (mg := mg) (base := base) F__law_one_of
  have G__law_may_stand := ok_may_stand F__law_may_stand G__law_one_of b__law_one_of k__law_one_of m__law_one_of
  have G__law_due := ok_due F__law_due G__law_may_stand b__law_may_stand k__law_may_stand m__law_may_stand m_range m_len m_int
  have G_is_made_of := ok_made (P := l.prog) (w := w) (mg := mg) (base := base) F_is_made_of m_all
  have G_is_number := ok_number F_is_number G_is_made_of b_is_made_of k_is_made_of m_is_made_of m_FIGURES
  have G_leaf_of := ok_leaf_of F_leaf_of G_is_number b_is_number k_is_number m_is_number m_int
  have G_pieces_of := FnOkP.up (k := 3) (ok_pieces_of (P := l.prog) (w := w) (mg := mg) (base := base) F_pieces_of) (by decide)
  have G_thing_of := ok_thing_of F_thing_of G_pieces_of b_pieces_of k_pieces_of m_pieces_of G_leaf_of b_leaf_of k_leaf_of m_leaf_of
  have G_ends_thing := (ok_ends_thing (P := l.prog) (w := w) (mg := mg) (base := base) F_ends_thing m_CLOSED m_NOUGHT m_NUMBER m_WORD).mono (k := 2) (by decide)
  have G_state_behind_first := ok_state_behind_first (P := l.prog) (w := w) (mg := mg) (base := base) F_state_behind_first m_OPENED m_MINUS m_NOUGHT m_NUMBER m_WORD m_FIGURES m_LETTERS
  have G_state_behind_thing := ok_state_behind_thing (P := l.prog) (w := w) (mg := mg) (base := base) F_state_behind_thing m_START m_CLOSED
  have G_state_behind := ok_state_behind F_state_behind m_START m_OPENED m_CLOSED m_MINUS m_NUMBER m_WORD m_FIGURES m_LETTERS G_state_behind_first b_state_behind_first k_state_behind_first m_state_behind_first G_state_behind_thing b_state_behind_thing k_state_behind_thing m_state_behind_thing
  have G_faultS := FnOkS.up (k := 4) (ok_fault F_fault m_START m_OPENED m_CLOSED G_state_behind b_state_behind k_state_behind m_state_behind G_ends_thing b_ends_thing k_ends_thing m_ends_thing m_enumerate m_len) (by decide)
  have G_read := ok_read F_read G_faultS b_fault k_fault m_fault G_thing_of b_thing_of k_thing_of m_thing_of m_NoThing x_NoThing
  have G_fault := G_faultS.ok
  have G__law_base_tells := ok_base_tells (kk := 5) F__law_base_tells G_read b_read k_read m_read m_NoThing x_NoThing m_NoteError x_NoteError y_TN m_NoPart m_isinstance m_int m_ValueError ⟨g1, g2, g3, g4, g5, g6⟩ q1 q2
  exact ok_law (kk := 6) F_law (G__law_some_line.mono (by decide)) b__law_some_line k__law_some_line m__law_some_line (G__law_due.mono (by decide)) b__law_due k__law_due m__law_due (G_fault.mono (by decide)) b_fault k_fault m_fault (G_read.mono (by decide)) b_read k_read m_read G__law_base_tells b__law_base_tells k__law_base_tells m__law_base_tells (G__law_whole.mono (by decide)) b__law_whole k__law_whole m__law_whole m_NoThing x_NoThing y_TT
theorem walk {l : PySem.W.OpenLaw} {q : Program} {loose : List Str} {XP : (Str → Option Value) → Heap → Prop} {YP : World → Heap → Prop} {d : DefRec} {K : Params → PySem.W.Frag} (hn : l.most = some 63) (hdf : d.params.defaults = [])
    (hY : ∀ (w : World) (h : Heap), YP w h → (K w.params).In h)
    (F : ∀ (w : World) (mg : Str → Option Value) (fa : Addr) (h : Heap), (K w.params).In h → h.Ns mainGlobals mg → mg d.name = some (.ref fa) →
      ∃ fd : FuncData, (∀ (s : Shared) (u : Value), BindsTo s fd ⟨[u], []⟩ [("_law_script", u)]) ∧ ∀ base : Heap, (K w.params).In base → base.Ns mainGlobals mg → FnOk l.prog w (K w.params) mg base CX0 7 fa fd ["_law_script"] (spLaw (K w.params))) :
    PySem.W.WalkO q loose XP YP l.row.toRowW d [] (fun f vs => PySem.call f vs) :=
  L2.walk_of (n := 63) (k := 7) (x := "_law_script") (CX := fun _ => CX0) (sp := fun w => spLaw (K w.params)) hn (by decide) hdf ⟨rfl, by decide, by decide⟩ hY F (fun _ _ a ns hl _ hS => ⟨a, ns, rfl, hS, hl, fun _ => rfl⟩) fun _ _ _ _ _ z => z
end K5

set_option Elab.async false
open PySem PySem.W PyProof.Rows
set_option maxRecDepth 100000 in
set_option maxHeartbeats 0 in
theorem PySem.Challenge.cw_nestnote_k05_first_fault_holds : PySem.Challenge.rw_nestnote_k05_first_fault.Holds := by
  w_on; o_law; k_head; (case hw => w_witness2)
  k_fill
  refine K5.walk (l := PySem.Challenge.rw_nestnote_k05_first_fault) rfl rfl (fun w h Y => PySem.W.kIn_of Y) ?F
  case F =>
    intro w mg fa h KX G hmg
    refine' K5.all_mk KX G hmg ?a1 ?l1 ?c1 ?k1 ?a2 ?l2 ?c2 ?k2 ?a3 ?l3 ?c3 ?k3 ?a4 ?l4 ?c4 ?k4 ?a5 ?l5 ?c5 ?k5 ?a6 ?l6 ?c6 ?k6 ?a7 ?l7 ?c7 ?k7 ?a8 ?l8 ?c8 ?k8 ?a9 ?l9 ?c9 ?k9 ?a10 ?l10 ?c10 ?k10 ?a11 ?l11 ?c11 ?k11 ?a12 ?l12 ?c12 ?k12 ?a13 ?l13 ?c13 ?k13 ?a14 ?l14 ?c14 ?k14 ?a15 ?l15 ?c15 ?k15 ?a16 ?l16 ?c16 ?k16 ?a17 ?l17 ?c17 ?k17 ?a18 ?l18 ?c18 ?k18 ?a19 ?l19 ?c19 ?k19 ?a20 ?l20 ?c20 ?k20 ?a21 ?l21 ?c21 ?k21 ?a22 ?l22 ?c22 ?k22 ?a23 ?l23 ?c23 ?k23 ?a24 ?l24 ?c24 ?k24 ?a25 ?l25 ?c25 ?k25 ?a26 ?l26 ?c26 ?k26 ?v_LETTERS ?v_FIGURES ?v_START ?v_OPENED ?v_CLOSED ?v_MINUS ?v_NOUGHT ?v_NUMBER ?v_WORD ?e_NoThing ?e_NoPart ?e_NoteError ?x_NoThing ?x_NoteError ?y_TT ?y_TN ?g1 ?g2 ?g3 ?g4 ?g5 ?g6 ?q1 ?q2 ?z_isinstance ?z_int ?z_bool ?z_str ?z_len ?z_abs ?z_enumerate ?z_all ?z_range ?z_ValueError
    (case a1 => k_is)
    (case l1 => k_is)
    (case c1 => k_is)
    (case k1 => k_is)
    (case a2 => k_is)
    (case l2 => k_is)
    (case c2 => k_is)
    (case k2 => k_is)
    (case a3 => k_is)
    (case l3 => k_is)
    (case c3 => k_is)
    (case k3 => k_is)
    (case a4 => k_is)
    (case l4 => k_is)
    (case c4 => k_is)
    (case k4 => k_is)
    (case a5 => k_is)
    (case l5 => k_is)
    (case c5 => k_is)
    (case k5 => k_is)
    (case a6 => k_is)
    (case l6 => k_is)
    (case c6 => k_is)
    (case k6 => k_is)
    (case a7 => k_is)
    (case l7 => k_is)
    (case c7 => k_is)
    (case k7 => k_is)
    (case a8 => k_is)
    (case l8 => k_is)
    (case c8 => k_is)
    (case k8 => k_is)
    (case a9 => k_is)
    (case l9 => k_is)
    (case c9 => k_is)
    (case k9 => k_is)
    (case a10 => k_is)
    (case l10 => k_is)
    (case c10 => k_is)
    (case k10 => k_is)
    (case a11 => k_is)
    (case l11 => k_is)
    (case c11 => k_is)
    (case k11 => k_is)
    (case a12 => k_is)
    (case l12 => k_is)
    (case c12 => k_is)
    (case k12 => k_is)
    (case a13 => k_is)
    (case l13 => k_is)
    (case c13 => k_is)
    (case k13 => k_is)
    (case a14 => k_is)
    (case l14 => k_is)
    (case c14 => k_is)
    (case k14 => k_is)
    (case a15 => k_is)
    (case l15 => k_is)
    (case c15 => k_is)
    (case k15 => k_is)
    (case a16 => k_is)
    (case l16 => k_is)
    (case c16 => k_is)
    (case k16 => k_is)
    (case a17 => k_is)
    (case l17 => k_is)
    (case c17 => k_is)
    (case k17 => k_is)
    (case a18 => k_is)
    (case l18 => k_is)
    (case c18 => k_is)
    (case k18 => k_is)
    (case a19 => k_is)
    (case l19 => k_is)
    (case c19 => k_is)
    (case k19 => k_is)
    (case a20 => k_is)
    (case l20 => k_is)
    (case c20 => k_is)
    (case k20 => k_is)
    (case a21 => k_is)
    (case l21 => k_is)
    (case c21 => k_is)
    (case k21 => k_is)
    (case a22 => k_is)
    (case l22 => k_is)
    (case c22 => k_is)
    (case k22 => k_is)
    (case a23 => k_is)
    (case l23 => k_is)
    (case c23 => k_is)
    (case k23 => k_is)
    (case a24 => k_is)
    (case l24 => k_is)
    (case c24 => k_is)
    (case k24 => k_is)
    (case a25 => k_is)
    (case l25 => k_is)
    (case c25 => k_is)
    (case k25 => k_is)
    (case a26 => k_is)
    (case l26 => k_is)
    (case c26 => k_is)
    (case k26 => k_is)
    (case v_LETTERS => k_is)
    (case v_FIGURES => k_is)
    (case v_START => k_is)
    (case v_OPENED => k_is)
    (case v_CLOSED => k_is)
    (case v_MINUS => k_is)
    (case v_NOUGHT => k_is)
    (case v_NUMBER => k_is)
    (case v_WORD => k_is)
    (case e_NoThing => k_is)
    (case e_NoPart => k_is)
    (case e_NoteError => k_is)
    (case x_NoThing => kernel_rfl)
    (case x_NoteError => kernel_rfl)
    (case y_TT => kernel_rfl)
    (case y_TN => kernel_rfl)
    (case g1 => k_is)
    (case g2 => k_is)
    (case g3 => k_is)
    (case g4 => k_is)
    (case g5 => k_is)
    (case g6 => kernel_rfl)
    (case q1 => kernel_rfl)
    (case q2 => kernel_rfl)
    (case z_isinstance => k_is)
    (case z_int => k_is)
    (case z_bool => k_is)
    (case z_str => k_is)
    (case z_len => k_is)
    (case z_abs => k_is)
    (case z_enumerate => k_is)
    (case z_all => k_is)
    (case z_range => k_is)
    (case z_ValueError => k_is)
#print axioms PySem.Challenge.cw_nestnote_k05_first_fault_holds
