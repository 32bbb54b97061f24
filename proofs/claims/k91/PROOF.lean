import PyProof.Rows.All
import Wide.All
import OpenK.AllK
import Wide.FinOn
import PyProof.EqAt
import PyProof.EqKinds
import PyProof.TupleCall
import KE.BitLaws
import PySem.SetOps
import KE.KSortTup
import PyProof.ReprLen
import KE.KDictList
import PyProof.Rows.TupDisplay
import PyProof.Walk
import PyProof.WalkInts
import PyProof.Rows.CallKwBuiltin
import PyProof.Rows.RuleN_abs
import PyProof.Rows.SumAny
import PyProof.ExcClass3
import KE.KTryDeep
import KE.KTryMore
import OpenK.KOwn
import PyProof.ExcBaseAll.ValueError
import KE.KLam
import KE.RegKIsAll
import PyProof.Rows.FStr
import KE.KUnpackStar
import PySem.Challenge.RW_nearturns_k91_texts_written_and_read
set_option Elab.async false
set_option linter.all false
set_option maxRecDepth 100000
/-! THE HAND LAYER, for ints, bools, texts, own classes, lists, tuples, dicts, comprehensions, walks over dicts, enumerate, zip, reversed, texts, calls, loops. Paste it whole ahead of your own text; what your proof does not reach may be deleted. -/
namespace L2
open PySem PySem.Spec PyProof.Rows

/-- a key: an int or a str -/
abbrev Key := Sum Int Str
def keyIs : Key → Value → Bool
  | .inl k, v => Value.isInt k v
  | .inr x, v => Value.isStrOf x v
def keyH (w : World) : Key → Int
  | .inl k => hashInt k
  | .inr x => hashStr w x
theorem keyIs_shape : ∀ {k : Key} {v : Value}, keyIs k v = true → (∃ i t, k = Sum.inl i ∧ v = Value.int i t) ∨ (∃ x t, k = Sum.inr x ∧ v = Value.str x t)
  | .inl i, v, h => by
    obtain ⟨t, e⟩ := Value.isInt_shape (k := i) (v := v) h
    exact .inl ⟨i, t, rfl, e⟩
  | .inr x, v, h => by
    obtain ⟨t, e⟩ := Value.isStrOf_shape (x := x) (v := v) h
    exact .inr ⟨x, t, rfl, e⟩
theorem key_ll (a b : Int) : decide ((Sum.inl a : Key) = Sum.inl b) = (a == b) := by
  by_cases e : a = b
  · subst e; simp
  · have h : ¬ (Sum.inl a : Key) = Sum.inl b := fun q => e (Sum.inl.inj q)
    rw [decide_eq_false h]
    exact (beq_eq_false_iff_ne.mpr e).symm
theorem key_rr (a b : Str) : decide ((Sum.inr a : Key) = Sum.inr b) = decide (a = b) := by
  by_cases e : a = b
  · subst e; simp
  · have h : ¬ (Sum.inr a : Key) = Sum.inr b := fun q => e (Sum.inr.inj q)
    rw [decide_eq_false h, decide_eq_false e]
theorem key_lr (a : Int) (b : Str) : decide ((Sum.inl a : Key) = Sum.inr b) = false := decide_eq_false (fun q => nomatch q)
theorem key_rl (a : Str) (b : Int) : decide ((Sum.inr a : Key) = Sum.inl b) = false := decide_eq_false (fun q => nomatch q)

def mixKind (prog : Program) (w : World) : PySem.KeyKind prog w Key where
  is := keyIs
  hash := keyH w
  inj := fun v a b ha hb => by
    rcases keyIs_shape ha with ⟨i, t, rfl, rfl⟩ | ⟨x, t, rfl, rfl⟩
    · rcases keyIs_shape hb with ⟨j, u, rfl, e⟩ | ⟨y, u, rfl, e⟩
      · injection e with e1 _; rw [e1]
      · exact nomatch e
    · rcases keyIs_shape hb with ⟨j, u, rfl, e⟩ | ⟨y, u, rfl, e⟩
      · exact nomatch e
      · injection e with e1 _; rw [e1]
  byValue := fun k v h => by
    rcases keyIs_shape h with ⟨i, t, rfl, rfl⟩ | ⟨x, t, rfl, rfl⟩ <;> rfl
  pyHash := fun hv h => by
    rcases keyIs_shape hv with ⟨i, t, rfl, rfl⟩ | ⟨x, t, rfl, rfl⟩
    · exact wpAny_pyHash_int h
    · exact wpAny_pyHash_str h
  eqBool := fun hu hv h => by
    rcases keyIs_shape hu with ⟨i, t, rfl, rfl⟩ | ⟨x, t, rfl, rfl⟩
    · rcases keyIs_shape hv with ⟨j, u, rfl, rfl⟩ | ⟨y, u, rfl, rfl⟩
      · rw [key_ll] at h; exact wpAny_eqBool_int h
      · rw [key_lr] at h; exact SeqAt.EqAt.int_str i t y u _ _ _ _ h
    · rcases keyIs_shape hv with ⟨j, u, rfl, rfl⟩ | ⟨y, u, rfl, rfl⟩
      · rw [key_rl] at h; exact SeqAt.EqAt.str_int x t j u _ _ _ _ h
      · rw [key_rr] at h; exact wpAny_eqBool_str h
  «strs» := fun k x t v h => by
    rcases keyIs_shape h with ⟨i, u, rfl, e⟩ | ⟨y, u, rfl, e⟩
    · exact nomatch e
    · injection e with e1 _
      subst e1
      cases v <;> rfl

end L2

namespace L2
open PySem PySem.Spec PyProof.Rows

/-- a value, without the heap -/
inductive V where
  | non | bl (b : Bool) | int (i : Int) | str (x : Str) | byt (b : Array UInt8) | flt (b : UInt64) | ref (a : Addr) | ty (n : String)
  deriving DecidableEq

def RelV : V → Value → Prop
  | .non, u => u = Value.none
  | .bl b, u => u = Value.bool b
  | .int i, u => ∃ t, u = Value.int i t
  | .str x, u => ∃ t, u = Value.str x t
  | .byt b, u => ∃ t, u = Value.bytes b t
  | .flt b, u => ∃ t, u = Value.float b t
  | .ref a, u => u = Value.ref a
  | .ty n, u => u = Value.type n

abbrev Vals : List V → List Value → Prop := Paired RelV
theorem Vals.length {xs : List V} {us : List Value} (r : Vals xs us) : xs.length = us.length := Paired.length r
theorem Vals.get : ∀ {xs : List V} {us : List Value} {i : Nat} {x : V}, Vals xs us → xs[i]? = some x → ∃ u, us[i]? = some u ∧ RelV x u
  | _, _, _, _, .nil, e => by simp at e
  | _, _, 0, _, .cons r _, e => by simp at e; subst e; exact ⟨_, rfl, r⟩
  | _, _, i + 1, x, .cons _ t, e => by
    obtain ⟨u, h1, h2⟩ := Vals.get (i := i) (x := x) t (by simpa using e)
    exact ⟨u, by simpa using h1, h2⟩
theorem Vals.set {x : V} {u : Value} (r : RelV x u) : ∀ {xs : List V} {us : List Value} (i : Nat), Vals xs us → Vals (xs.set i x) (us.set i u)
  | _, _, _, .nil => .nil
  | _, _, 0, .cons _ t => .cons r t
  | _, _, i + 1, .cons q t => .cons q (Vals.set r i t)
theorem Vals.append : ∀ {xs ys : List V} {us ws : List Value}, Vals xs us → Vals ys ws → Vals (xs ++ ys) (us ++ ws)
  | _, _, _, _, .nil, s => s
  | _, _, _, _, .cons r t, s => .cons r (Vals.append t s)

def RelO : Option V → Option Value → Prop
  | some v, some u => RelV v u
  | none, none => True
  | _, _ => False
def KV {κ : Type} : List (κ × V) → List (κ × Value) → Prop := Paired fun (p : κ × V) (q : κ × Value) => p.1 = q.1 ∧ RelV p.2 q.2

/-- a key of a dict (00_mix): an int or a text -/
def kV : Key → V
  | .inl i => .int i
  | .inr x => .str x

/-- what stands at a tracked address -/
inductive HO where
  /-- a list -/
  | lst (xs : List V)
  /-- a tuple (never changes) -/
  | tup (xs : List V)
  /-- a dict whose keys are ints and texts; one whose keys are tuples of ints and texts (the empty one is both) -/
  | dK (kvs : List (Key × V)) | dT (kvs : List (List Key × V))
  /-- a set of ints: its members, its size -/
  | set (S : Int → Bool) (n : Nat)
  /-- an instance of the class at C, its dict at dx, its attributes -/
  | ins (C dx : Addr) (fs : List (Str × V))
  /-- the dict of the instance at x -/
  | own (x : Addr)
  /-- the dict of an exception -/
  | xd (fs : List (Str × V))
  /-- a bound method, f of x -/
  | met (f x : Addr)
  /-- a range object lo, lo + 1, .. below hi -/
  | rng (lo hi : Int)
  /-- a thing that is known to the object (the script; a dict while a loop walks it): read, never written while it is so -/
  | frz (o : Obj) (u : HO)
  /-- a code object's table -/
  | tbl (ps : Array Value)
  /-- any other thing, by what is true of its one object (a def of one's own: SetO a S n := HO.ext fun h => ..) -/
  | ext (φ : Heap → Prop)

abbrev Hp := Addr → Option HO
def upd (H : Hp) (a : Addr) (o : HO) : Hp := fun b => if b = a then some o else H b
theorem upd_same {H : Hp} {a : Addr} {o : HO} : upd H a o a = some o := by unfold upd; rw [if_pos rfl]
theorem upd_ne {H : Hp} {a b : Addr} {o : HO} (h : b ≠ a) : upd H a o b = H b := by unfold upd; rw [if_neg h]
theorem ne_of_none {H : Hp} {a b : Addr} {o : HO} (h : H a = some o) (h' : H b = none) : a ≠ b := by
  intro e; subst e; rw [h] at h'; cases h'

section
variable (P : Program) (w : World)
/-- no dict of its own -/
def NoD (h : Heap) (a : Addr) : Prop := ∀ o, h.get? a = some o → o.dict = none
theorem NoD.of {h : Heap} {a : Addr} {ob : Obj} (e : h.get? a = some ob) (d : ob.dict = none) : NoD h a := fun o q => by rw [e] at q; cases q; exact d
def ObjOk (H : Hp) (h : Heap) (a : Addr) : HO → Prop
  | .lst xs => xs.length ≤ sizeLine ∧ ∃ (its : List Value) (n : Nat), Vals xs its ∧ h.get? a = some { cls := .type "list", data := .seq its.toArray n }
  | .tup xs => (xs.length ≤ sizeLine ∧ NoD h a) ∧ ∃ its : List Value, Vals xs its ∧ IsTup h a its.toArray
  | .dK kvs => kvs.length ≤ sizeLine ∧ (a == sysModules) = false ∧ ∃ vs, KV kvs vs ∧ h.DictOf (mixKind P w) a vs
  | .dT kvs => kvs.length ≤ sizeLine ∧ (a == sysModules) = false ∧ ∃ xs : List (List Key × Addr × Value),
      Paired (fun (p : List Key × V) (q : List Key × Addr × Value) => p.1 = q.1 ∧ H q.2.1 = some (.tup (p.1.map kV)) ∧ RelV p.2 q.2.2) kvs xs ∧
      ∃ o es ep, h.get? a = some o ∧ o.ExactDict ∧ o.data = .dict es ep ∧ es.toList = xs.map (entryOfKey (tupleKind (mixKind P w))) ∧ (xs.map (·.1)).Nodup
  | .set S n => h.SetOf (intKind P w) a S n
  | .ins C dx fs => H dx = some (.own a) ∧ fs.length ≤ 1000 ∧ dx ≠ a ∧ h.get? a = some (PySem.W.instObj C dx) ∧
      ∃ mA, h.Ns1 dx mA ∧ (∀ f, RelO (fs.lookup f) (mA f)) ∧ PySem.Within mA (fs.map (·.1))
  | .own _ => ∃ o, h.get? a = some o
  | .xd fs => ∃ mA, h.Ns1 a mA ∧ ∀ f, RelO (fs.lookup f) (mA f)
  | .rng lo hi => ∃ t u v, h.get? a = some { cls := .type "range", data := .fields #[.int lo t, .int hi u, .int 1 v] }
  | .frz o u => h.get? a = some o ∧ ObjOk H h a u
  | .tbl ps => h.get? a = some { cls := .none, data := .fields ps }
  | .met f x => h.get? a = some (PySem.W.methodObj (.ref f) (.ref x))
  | .ext φ => φ h ∧ (∃ o, h.get? a = some o) ∧ ∀ h1 h2 : Heap, φ h1 → (∀ o, h1.get? a = some o → h2.get? a = some o) → φ h2
/-- the abstract heap is held -/
def HOk (H : Hp) (h : Heap) : Prop := ∀ a o, H a = some o → ObjOk P w H h a o
end

section
variable {P : Program} {w : World} {H H' : Hp} {h h' : Heap} {a : Addr} {o : HO}
theorem ObjOk.lt (x : ObjOk P w H h a o) : a < h.objs.size := by
  cases o with
  | lst xs => obtain ⟨_, _, _, _, e⟩ := x; exact Heap.lt_size e
  | tup xs => obtain ⟨_, _, _, p⟩ := x; exact p.lt
  | dK kvs => obtain ⟨_, _, _, _, o, _, _, e, _⟩ := x; exact Heap.lt_size e
  | dT kvs => obtain ⟨_, _, _, _, o, _, _, e, _⟩ := x; exact Heap.lt_size e
  | set S n => obtain ⟨o, _, _, _, e, _⟩ := x; exact Heap.lt_size e
  | ins C dx fs => obtain ⟨_, _, _, e, _⟩ := x; exact Heap.lt_size e
  | own y => obtain ⟨_, e⟩ := x; exact Heap.lt_size e
  | xd fs => obtain ⟨_, ⟨_, _, _, e, _⟩, _⟩ := x; exact Heap.lt_size e
  | rng lo hi => obtain ⟨_, _, _, e⟩ := x; exact Heap.lt_size e
  | frz ob u => obtain ⟨e, _⟩ := x; exact Heap.lt_size e
  | tbl ps => exact Heap.lt_size (show h.get? a = some _ from x)
  | met f y => exact Heap.lt_size (show h.get? a = some _ from x)
  | ext φ => obtain ⟨_, ⟨_, e⟩, _⟩ := x; exact Heap.lt_size e
theorem Paired.mapP {α β : Type} {F G : α → β → Prop} : ∀ {l₁ : List α} {l₂ : List β}, Paired F l₁ l₂ → (∀ a b, F a b → G a b) → Paired G l₁ l₂
  | _, _, .nil, _ => .nil
  | _, _, .cons r t, f => .cons (f _ _ r) (Paired.mapP t f)
/-- what an object's description leans on: its own object, its own dict, the tuples -/
theorem ObjOk.stay (x : ObjOk P w H h a o) (k : ∀ b u, (b = a ∨ H b = some (.own a)) → h.get? b = some u → h'.get? b = some u)
    (ho : ∀ b, H b = some (.own a) → H' b = some (.own a)) (ht : ∀ b xs, H b = some (.tup xs) → H' b = some (.tup xs)) : ObjOk P w H' h' a o := by
  induction o with
  | lst xs => obtain ⟨z, its, n, r, e⟩ := x; exact ⟨z, its, n, r, k _ _ (.inl rfl) e⟩
  | tup xs => obtain ⟨⟨z, dn⟩, its, r, ob, e, c⟩ := x; exact ⟨⟨z, NoD.of (k _ _ (.inl rfl) e) (dn _ e)⟩, its, r, ob, k _ _ (.inl rfl) e, c⟩
  | dK kvs => obtain ⟨z, y, vs, r, ob, es, ep, e, c⟩ := x; exact ⟨z, y, vs, r, ob, es, ep, k _ _ (.inl rfl) e, c⟩
  | dT kvs =>
    obtain ⟨z, y, xs, r, ob, es, ep, e, c⟩ := x
    exact ⟨z, y, xs, Paired.mapP r fun p q z => ⟨z.1, ht _ _ z.2.1, z.2.2⟩, ob, es, ep, k _ _ (.inl rfl) e, c⟩
  | set S n => obtain ⟨ob, es, ep, t, e, c⟩ := x; exact ⟨ob, es, ep, t, k _ _ (.inl rfl) e, c⟩
  | ins C dx fs =>
    obtain ⟨d, z, ne, e, mA, ⟨od, es, ep, e2, c⟩, r⟩ := x
    exact ⟨ho _ d, z, ne, k _ _ (.inl rfl) e, mA, ⟨od, es, ep, k _ _ (.inr d) e2, c⟩, r⟩
  | own y => obtain ⟨ob, e⟩ := x; exact ⟨ob, k _ _ (.inl rfl) e⟩
  | xd fs => obtain ⟨mA, ⟨od, es, ep, e, c⟩, r⟩ := x; exact ⟨mA, ⟨od, es, ep, k _ _ (.inl rfl) e, c⟩, r⟩
  | rng lo hi => obtain ⟨t, u, v, e⟩ := x; exact ⟨t, u, v, k _ _ (.inl rfl) e⟩
  | frz ob u ih => obtain ⟨e, q⟩ := x; exact ⟨k _ _ (.inl rfl) e, ih q⟩
  | tbl ps =>
    have e : h.get? a = some { cls := .none, data := .fields ps } := x
    show h'.get? a = some { cls := .none, data := .fields ps }
    exact k a _ (.inl rfl) e
  | met f y =>
    have e : h.get? a = some (PySem.W.methodObj (.ref f) (.ref y)) := x
    show h'.get? a = some (PySem.W.methodObj (.ref f) (.ref y))
    exact k a _ (.inl rfl) e
  | ext φ => obtain ⟨p, ⟨o, e⟩, st⟩ := x; exact ⟨st _ _ p fun o q => k _ _ (.inl rfl) q, ⟨o, k _ _ (.inl rfl) e⟩, st⟩
theorem HOk.lt (x : HOk P w H h) (e : H a = some o) : a < h.objs.size := (x a o e).lt
theorem HOk.fresh (x : HOk P w H h) (e : h.objs.size ≤ a) : H a = none := by
  cases q : H a with
  | none => rfl
  | some u => exact absurd (Nat.lt_of_lt_of_le (x.lt q) e) (Nat.lt_irrefl _)
/-- every object of the heap is kept -/
theorem HOk.kept (x : HOk P w H h) (k : ∀ b u, h.get? b = some u → h'.get? b = some u) : HOk P w H h' := fun a o e =>
  (x a o e).stay (fun b u _ q => k b u q) (fun _ q => q) fun _ _ q => q
/-- a new object is laid and tracked -/
theorem HOk.laid (x : HOk P w H h) (k : ∀ b u, h.get? b = some u → h'.get? b = some u) (hp : h.objs.size ≤ a) (new : ObjOk P w (upd H a o) h' a o) : HOk P w (upd H a o) h' := fun b u e => by
  have hn := x.fresh hp
  by_cases hb : b = a
  · subst hb; rw [upd_same] at e; cases e; exact new
  · rw [upd_ne hb] at e
    exact (x b u e).stay (fun c v _ q => k c v q) (fun c q => by rw [upd_ne (ne_of_none q hn)]; exact q) fun c xs q => by rw [upd_ne (ne_of_none q hn)]; exact q
end

/-- what may be read as u: it is u, or a known u -/
def Rd (H : Hp) (a : Addr) (u : HO) : Prop := H a = some u ∨ ∃ o, H a = some (.frz o u)
theorem Rd.ok {P : Program} {w : World} {H : Hp} {h : Heap} {a : Addr} {u : HO} (r : Rd H a u) (x : HOk P w H h) : ObjOk P w H h a u := by
  rcases r with r | ⟨o, r⟩
  · exact x a u r
  · obtain ⟨_, q⟩ := x a _ r
    exact q
/-- what may be written -/
def Mut : Option HO → Prop
  | some (.lst _) => True
  | some (.dK _) => True
  | some (.dT _) => True
  | some (.set _ _) => True
  | some (.ins _ _ _) => True
  | some (.ext _) => True
  | _ => False
section
variable {P : Program} {w : World} {H : Hp} {h h' : Heap} {x e : Addr} {o' : HO}
/-- the object at e is changed: x itself, or the dict of the instance x -/
theorem HOk.write (ok : HOk P w H h) (mu : Mut (H x)) (he : e = x ∨ H e = some (.own x)) (k : ∀ b u, b ≠ e → h.get? b = some u → h'.get? b = some u) (heo : ∃ u, h'.get? e = some u)
    (new : ObjOk P w (upd H x o') h' x o') : HOk P w (upd H x o') h' := fun b u q => by
  have nown : ∀ c y, H c = some (.own y) → c ≠ x := fun c y r z => by subst z; rw [r] at mu; exact mu
  have ntup : ∀ c xs, H c = some (.tup xs) → c ≠ x := fun c xs r z => by subst z; rw [r] at mu; exact mu
  by_cases hb : b = x
  · subst hb; rw [upd_same] at q; cases q; exact new
  · rw [upd_ne hb] at q
    by_cases hbe : b = e
    · have q' : H b = some (.own x) := by
        rcases he with z | z
        · exact absurd (hbe.trans z) hb
        · rw [hbe]; exact z
      rw [q] at q'; cases q'
      obtain ⟨v, hv⟩ := heo
      exact ⟨v, by rw [hbe]; exact hv⟩
    · refine (ok b u q).stay (fun c v hc r => k c v ?_ r) (fun c r => by rw [upd_ne (nown c b r)]; exact r) fun c xs r => by rw [upd_ne (ntup c xs r)]; exact r
      rcases hc with rfl | hc
      · exact hbe
      · rintro rfl
        rcases he with z | z
        · exact nown c b hc z
        · rw [hc] at z; cases z; exact hb rfl
end

/-! ### kept unless tracked; of the frames at fs (the callers') the slots may change (an exception that passes writes there); of the records at ex (iterators) nothing is said -/
structure Un (fs ex : List Addr) (H H' : Hp) (h h' : Heap) : Prop where
  keep : ∀ b o, h.get? b = some o → H b = none → b ∉ fs → b ∉ ex → h'.get? b = some o
  slot : ∀ b o, h.get? b = some o → H b = none → b ∈ fs → b ∉ ex → ∃ sl, h'.get? b = some { o with slots := sl }
  free : ∀ b o, h.get? b = some o → H b = none → b ∉ ex → H' b = none
  there : ∀ b o, h.get? b = some o → b ∉ ex → ∃ o', h'.get? b = some o'
  tups : ∀ b xs, H b = some (.tup xs) → H' b = some (.tup xs)
  frzs : ∀ b o u, H b = some (.frz o u) → H' b = some (.frz o u)
  tbls : ∀ b ps, H b = some (.tbl ps) → ∃ more, H' b = some (.tbl (ps ++ more))
section
variable {fs fs' ex ex' : List Addr} {H H1 H2 : Hp} {h h1 h2 h' : Heap} {a x e : Addr} {o : HO}
theorem Un.any (u : Un fs ex H H1 h h1) {b : Addr} {ob : Obj} (q : h.get? b = some ob) (n : H b = none) (hx : b ∉ ex) : ∃ sl, h1.get? b = some { ob with slots := sl } := by
  by_cases hb : b ∈ fs
  · exact u.slot b ob q n hb hx
  · exact ⟨ob.slots, u.keep b ob q n hb hx⟩
theorem Un.kept (k : ∀ b u, h.get? b = some u → h'.get? b = some u) : Un fs ex H H h h' :=
  ⟨fun b ob q _ _ _ => k b ob q, fun b ob q _ _ _ => ⟨ob.slots, k b ob q⟩, fun _ _ _ n _ => n, fun b ob q _ => ⟨ob, k b ob q⟩, fun _ _ q => q, fun _ _ _ q => q, fun _ ps q => ⟨#[], by rw [q]; simp⟩⟩
theorem Un.refl : Un fs ex H H h h := Un.kept fun _ _ q => q
theorem Un.laid (k : ∀ b u, h.get? b = some u → h'.get? b = some u) (hp : h.objs.size ≤ a) (hn : H a = none) : Un fs ex H (upd H a o) h h' where
  keep := fun b u q _ _ _ => k b u q
  slot := fun b u q _ _ _ => ⟨u.slots, k b u q⟩
  free := fun b u q n _ => by rw [upd_ne (Nat.ne_of_lt (Nat.lt_of_lt_of_le (Heap.lt_size q) hp))]; exact n
  there := fun b u q _ => ⟨u, k b u q⟩
  tups := fun b xs q => by rw [upd_ne (ne_of_none q hn)]; exact q
  frzs := fun b u xs q => by rw [upd_ne (ne_of_none q hn)]; exact q
  tbls := fun b ps q => ⟨#[], by rw [upd_ne (ne_of_none q hn), q]; simp⟩
theorem Un.write (mu : Mut (H x)) (he : e = x ∨ H e = some (.own x)) (k : ∀ b u, b ≠ e → h.get? b = some u → h'.get? b = some u) (heo : ∃ u, h'.get? e = some u) : Un fs ex H (upd H x o) h h' := by
  have hx : ∀ b, H b = none → b ≠ x := fun b n z => by subst z; rw [n] at mu; exact mu
  have hb : ∀ b, H b = none → b ≠ e := fun b n z => by
    subst z
    rcases he with r | r
    · exact hx b n r
    · rw [n] at r; cases r
  have hm : ∀ b u, H b = some u → ¬ Mut (some u) → b ≠ x := fun b u q nm z => by subst z; rw [q] at mu; exact nm mu
  refine ⟨fun b u q n _ _ => k b u (hb b n) q, fun b u q n _ _ => ⟨u.slots, k b u (hb b n) q⟩, fun b u q n _ => by rw [upd_ne (hx b n)]; exact n, fun b u q _ => ?_,
    fun b xs q => by rw [upd_ne (hm b _ q fun z => z)]; exact q, fun b u xs q => by rw [upd_ne (hm b _ q fun z => z)]; exact q, fun b ps q => ⟨#[], by rw [upd_ne (hm b _ q fun z => z), q]; simp⟩⟩
  by_cases hbe : b = e
  · subst hbe; exact heo
  · exact ⟨u, k b u hbe q⟩
end

/-! ### the heap without what is tracked -/
def trk (h : Heap) (H : Hp) : List Addr := (List.range h.objs.size).filter fun a => (H a).isSome
def hidT (h : Heap) (H : Hp) : Heap := PySem.W.hideAll h (trk h H)
theorem hidT_size (h : Heap) (H : Hp) : (hidT h H).objs.size = h.objs.size := PySem.W.hideAll_size _ _
theorem hidT_get {h : Heap} {H : Hp} {b : Addr} {o : Obj} (e : h.get? b = some o) (n : H b = none) : (hidT h H).get? b = some o :=
  PySem.W.hideAll_get _ e fun hm => by
    have q : (H b).isSome = true := (List.mem_filter.mp hm).2
    rw [n] at q; simp at q
theorem of_hidT {h : Heap} {H : Hp} {b : Addr} {o : Obj} (e : (hidT h H).get? b = some o) : h.get? b = some o ∧ H b = none := by
  have e' : h.get? b = some o := PySem.W.of_hideAll (trk h H) e
  refine ⟨e', ?_⟩
  cases q : H b with
  | none => rfl
  | some x =>
    have hm : b ∈ trk h H := List.mem_filter.mpr ⟨List.mem_range.mpr (Heap.lt_size e'), by simp [q]⟩
    have z : (hidT h H).get? b = none := PySem.W.hideAll_none (trk h H) hm
    rw [z] at e; cases e

/-! ### OpenK's ledger, filled with every new object but one -/
end L2

namespace L2
open PySem PySem.Spec PyProof.Rows

/-- the module's facts, over the base: the heap at the law's entry without what is tracked there -/
structure Mod (K : PySem.W.Frag) (mg : Str → Option Value) (base : Heap) : Prop where
  kin : K.In base
  glob : base.Ns mainGlobals mg
  blt : ∃ mb, base.Ns builtinsNs mb ∧ ∀ x : Str, x ≠ "__name__" → mb x = bootBuiltins x
  nolimit : base.NoLimit

/-- the context: a def's body (or a comprehension's block) running. base: fixed through the whole law; s₀, H₀: the entry; outer: the frames whose slots others may change (a def's callers); stack: all frames that run;
   ex: iterators that were made ahead of the entry and are walked here (a comprehension's); fn: the names whose cells were made at the entry (a def: all; a comprehension's block: its own); calm: not within an except suite; pn: pins that every state bears; xe: what is wanted of an exception that leaves the code -/
structure Cx where
  prog : Program
  w : World
  K : PySem.W.Frag
  mg : Str → Option Value
  base : Heap
  A : Around
  N : List Str
  s_0 : Shared
  H_0 : Hp
  env : Env
  outer : List Env
  stack : List Env
  ex : List Addr
  fn : Str → Bool
  calm : Bool
  pn : List (Addr × Obj)
  xe : Value → Shared → Prop
/-- the callers' frames -/
def frs (l : List Env) : List Addr := l.filterMap (·.frame)
abbrev Cx.fs (X : Cx) : List Addr := frs X.outer

def Vis (sc : Scope) (x : Str) : Prop := sc.names.lookup x = some .local ∨ sc.names.lookup x = some .cell ∨ sc.names.lookup x = some .free
def Loc (sc : Scope) (x : Str) : Prop := sc.names.lookup x = some .local ∨ sc.names.lookup x = some .cell
def Look (env : Env) (h : Heap) (m : Str → Option Value) (x : Str) (u : Value) : Prop :=
  (env.kindOf x = some .local ∧ m x = some u) ∨ ((env.kindOf x = some .cell ∨ env.kindOf x = some .free) ∧ ∃ c, env.cells.lookup x = some c ∧ h.IsCell c (some u))

structure Cx.Ok (X : Cx) : Prop where
  mod : Mod X.K X.mg X.base
  kind : X.env.scope.kind = .function
  glob : X.env.globals = mainGlobals
  blt : X.env.builtins = builtinsNs
  above : X.s_0.heap.objs.size ≤ X.env.locals
  inj : ∀ x y c, X.env.cells.lookup x = some c → X.env.cells.lookup y = some c → x = y
  has : ∀ x, (X.env.kindOf x = some .cell ∨ X.env.kindOf x = some .free) → ∃ c, X.env.cells.lookup x = some c
  cab : ∀ x c, X.fn x = true → X.env.cells.lookup x = some c → X.s_0.heap.objs.size ≤ c
  hd : X.calm = true → X.A.handled = none
  frames : X.A.frames = some X.stack
  stk : X.stack = X.outer ∨ (X.stack = X.env :: X.outer ∧ X.env.frame = some X.env.locals)
  exf : ∀ b ∈ X.ex, b ≠ X.env.locals ∧ ∀ x c, X.env.cells.lookup x = some c → c ≠ b
  bs : ∀ b o, X.base.get? b = some o → X.s_0.heap.get? b = some o ∧ X.H_0 b = none
  bsz : X.base.objs.size ≤ X.s_0.heap.objs.size
  noex : ∀ b o, X.base.get? b = some o → b ∉ X.ex
  exfs : ∀ b ∈ X.ex, b ∉ X.fs
  funs : X.s_0.heap.FunFrames X.base X.outer
  frf : ∀ b ∈ X.fs, X.H_0 b = none

structure Inv (X : Cx) (pins : List (Addr × Obj)) (σ : List (Option V)) (H : Hp) (s : Shared) : Prop where
  ok : X.Ok
  os : s.os = X.s_0.os
  bare : AllBare s.gens
  base : Un X.fs X.ex X.H_0 H X.s_0.heap s.heap
  loc : ∃ m, s.heap.Ns X.env.locals m ∧ ∀ (i : Nat) (x : Str) (v : V), X.N[i]? = some x → σ[i]? = some (some v) → Vis X.env.scope x → ∃ u, RelV v u ∧ Look X.env s.heap m x u
  cell : ∀ x c, X.env.cells.lookup x = some c → ∃ v, s.heap.IsCell c v
  free : H X.env.locals = none
  freeC : ∀ x c, X.env.cells.lookup x = some c → H c = none
  pin : ∀ p ∈ X.pn ++ pins, s.heap.get? p.1 = some p.2 ∧ H p.1 = none ∧ p.1 ≠ X.env.locals ∧ p.1 ∉ X.fs ∧ ∀ v, p.2.data ≠ .cell v
  hok : HOk X.prog X.w H s.heap
  len : σ.length = X.N.length

section
variable {X : Cx} {pins : List (Addr × Obj)} {σ : List (Option V)} {H H' : Hp} {s : Shared} {h' : Heap}

theorem Cx.Ok.nofr (ok : X.Ok) {b : Addr} {o : Obj} (e : X.base.get? b = some o) : b ∉ X.fs := fun hb => by
  have := (ok.funs.mem hb).1
  rw [e] at this; cases this
theorem Inv.bs (I : Inv X pins σ H s) : ∀ b o, X.base.get? b = some o → s.heap.get? b = some o ∧ H b = none := fun b o e =>
  ⟨I.base.keep b o (I.ok.bs b o e).1 (I.ok.bs b o e).2 (I.ok.nofr e) (I.ok.noex b o e), I.base.free b o (I.ok.bs b o e).1 (I.ok.bs b o e).2 (I.ok.noex b o e)⟩
theorem Inv.bk (I : Inv X pins σ H s) : ∀ b o, X.base.get? b = some o → s.heap.get? b = some o := fun b o e => (I.bs b o e).1
theorem Inv.mod (I : Inv X pins σ H s) : Mod X.K X.mg X.base := I.ok.mod
theorem Inv.kIn (I : Inv X pins σ H s) : X.K.In s.heap := I.ok.mod.kin.keeps I.bk
theorem Inv.lt (I : Inv X pins σ H s) : X.env.locals < s.heap.objs.size := let ⟨_, hn, _⟩ := I.loc; hn.lt
theorem Inv.sz (I : Inv X pins σ H s) : X.s_0.heap.objs.size ≤ s.heap.objs.size := Nat.le_trans I.ok.above (Nat.le_of_lt I.lt)
theorem Inv.nofs (I : Inv X pins σ H s) {a : Addr} (h : s.heap.objs.size ≤ a) : a ∉ X.fs := fun hb => by
  obtain ⟨_, o, ho, _⟩ := I.ok.funs.mem hb
  exact absurd (Nat.lt_of_lt_of_le (Heap.lt_size ho) (Nat.le_trans I.sz h)) (Nat.lt_irrefl _)
theorem Inv.cne (I : Inv X pins σ H s) : ∀ x c, X.env.cells.lookup x = some c → c ≠ X.env.locals := fun x c e z => by
  obtain ⟨v, o, ho, hd⟩ := I.cell x c e
  obtain ⟨m, ⟨o', es, ep, ho', hd', _⟩, _⟩ := I.loc
  rw [z, ho'] at ho; cases ho; rw [hd'] at hd; cases hd
theorem Inv.funs (I : Inv X pins σ H s) : s.heap.FunFrames X.base X.outer := by
  have all : ∀ (l : List Env), (∀ b ∈ frs l, b ∈ X.fs) → X.s_0.heap.FunFrames X.base l → s.heap.FunFrames X.base l := by
    intro l
    induction l with
    | nil => intro _ _; trivial
    | cons env r ih =>
      intro hs hl
      obtain ⟨hk, ⟨L, o, hf, hn, ho, hd⟩, hr⟩ := hl
      have hL : L ∈ X.fs := hs L (by unfold frs; rw [List.filterMap_cons, hf]; exact List.mem_cons_self)
      obtain ⟨sl, e⟩ := I.base.slot L o ho (I.ok.frf L hL) hL fun z => I.ok.exfs L z hL
      exact ⟨hk, ⟨L, _, hf, hn, e, hd⟩, ih (fun b hb => hs b (by unfold frs; rw [List.filterMap_cons, hf]; exact List.mem_cons_of_mem _ hb)) hr⟩
  exact all X.outer (fun _ hb => hb) I.ok.funs

/-- the frames that run, for a call -/
theorem Inv.stack (I : Inv X pins σ H s) : s.heap.FunFrames X.base X.stack := by
  rcases I.ok.stk with e | ⟨e, hf⟩
  · rw [e]; exact I.funs
  · rw [e]
    obtain ⟨m, hn, _⟩ := I.loc
    refine .cons (by rw [I.ok.kind]; decide) hf hn ?_ I.funs
    exact Heap.get?_none_of_le (Nat.le_trans I.ok.bsz I.ok.above)
theorem Inv.stkSub (I : Inv X pins σ H s) : ∀ b ∈ frs X.stack, b ∈ X.env.locals :: X.fs := fun b hb => by
  rcases I.ok.stk with e | ⟨e, hf⟩
  · rw [e] at hb; exact List.mem_cons_of_mem _ hb
  · rw [e] at hb
    unfold frs at hb
    rw [List.filterMap_cons, hf] at hb
    exact hb
theorem Inv.stkFree (I : Inv X pins σ H s) : ∀ b ∈ frs X.stack, H b = none := fun b hb => by
  rcases List.mem_cons.mp (I.stkSub b hb) with e | hb
  · rw [e]; exact I.free
  · obtain ⟨_, o, ho, _⟩ := I.ok.funs.mem hb
    exact I.base.free b o ho (I.ok.frf b hb) fun z => I.ok.exfs b z hb

/-- THE STEP: the untracked objects but the frame and the records at ch are kept (the callers' frames up to slots), the frame's map is kept, the new abstract heap is held -/
theorem Inv.step {g' : Array GenState} {t' : Nat} {d' : Drawn} {ch : List Addr} (I : Inv X pins σ H s)
    (hch : ∀ b ∈ ch, (b ∈ X.ex ∨ X.s_0.heap.objs.size ≤ b) ∧ b ≠ X.env.locals ∧ (∀ x c, X.env.cells.lookup x = some c → c ≠ b) ∧ ∀ p ∈ X.pn ++ pins, p.1 ≠ b)
    (keep : ∀ b o, b ≠ X.env.locals → b ∉ X.fs → b ∉ ch → s.heap.get? b = some o → H b = none → h'.get? b = some o)
    (slot : ∀ b o, b ≠ X.env.locals → b ∈ X.fs → b ∉ ch → s.heap.get? b = some o → H b = none → ∃ sl, h'.get? b = some { o with slots := sl }) (free : ∀ b o, b ∉ ch → s.heap.get? b = some o → H b = none → H' b = none)
    (there : ∀ b o, b ∉ ch → s.heap.get? b = some o → ∃ o', h'.get? b = some o')
    (tups : ∀ b xs, H b = some (.tup xs) → H' b = some (.tup xs)) (frzs : ∀ b o u, H b = some (.frz o u) → H' b = some (.frz o u)) (tbls : ∀ b ps, H b = some (.tbl ps) → ∃ more, H' b = some (.tbl (ps ++ more)))
    (ns : ∀ m, s.heap.Ns X.env.locals m → h'.Ns X.env.locals m) (hok : HOk X.prog X.w H' h') (hg : AllBare g') :
    Inv X pins σ H' { s with heap := h', gens := g', drawn := d', toks := t' } := by
  have neL : ∀ b o, X.s_0.heap.get? b = some o → b ≠ X.env.locals := fun b o e => Nat.ne_of_lt (Nat.lt_of_lt_of_le (Heap.lt_size e) I.ok.above)
  have neC : ∀ b o, X.s_0.heap.get? b = some o → b ∉ X.ex → b ∉ ch := fun b o e hx hb => by
    rcases (hch b hb).1 with z | z
    · exact hx z
    · exact absurd (Nat.lt_of_lt_of_le (Heap.lt_size e) z) (Nat.lt_irrefl _)
  have cellK : ∀ x c, X.env.cells.lookup x = some c → ∀ v, s.heap.IsCell c v → h'.IsCell c v := fun x c e v ⟨o, ho, hd⟩ => by
    have nch : c ∉ ch := fun z => (hch c z).2.2.1 x c e rfl
    by_cases hc : c ∈ X.fs
    · obtain ⟨sl, q⟩ := slot c o (I.cne x c e) hc nch ho (I.freeC x c e)
      exact ⟨_, q, hd⟩
    · exact ⟨o, keep c o (I.cne x c e) hc nch ho (I.freeC x c e), hd⟩
  refine ⟨I.ok, I.os, hg, ⟨fun b o e n hb hx => ?_, fun b o e n hb hx => ?_, fun b o e n hx => ?_, fun b o e hx => ?_, fun b xs e => tups b xs (I.base.tups b xs e), fun b o xs e => frzs b o xs (I.base.frzs b o xs e), fun b ps e => ?_⟩, ?_, fun x c e => ?_, ?_, fun x c e => ?_, fun p hp => ?_, hok, I.len⟩
  · exact keep b o (neL b o e) hb (neC b o e hx) (I.base.keep b o e n hb hx) (I.base.free b o e n hx)
  · obtain ⟨sl, e1⟩ := I.base.slot b o e n hb hx
    obtain ⟨sl', e2⟩ := slot b _ (neL b o e) hb (neC b o e hx) e1 (I.base.free b o e n hx)
    exact ⟨sl', e2⟩
  · obtain ⟨o', e1⟩ := I.base.there b o e hx
    exact free b o' (neC b o e hx) e1 (I.base.free b o e n hx)
  · obtain ⟨o', e1⟩ := I.base.there b o e hx
    exact there b o' (neC b o e hx) e1
  · obtain ⟨m1, e1⟩ := I.base.tbls b ps e
    obtain ⟨m2, e2⟩ := tbls b _ e1
    exact ⟨m1 ++ m2, by rw [e2, Array.append_assoc]⟩
  · obtain ⟨m, hn, hl⟩ := I.loc
    refine ⟨m, ns m hn, fun i x v e1 e2 e3 => ?_⟩
    obtain ⟨u, r, l⟩ := hl i x v e1 e2 e3
    refine ⟨u, r, ?_⟩
    rcases l with l | ⟨k, c, e, z⟩
    · exact .inl l
    · exact .inr ⟨k, c, e, cellK x c e _ z⟩
  · obtain ⟨v, z⟩ := I.cell x c e
    exact ⟨v, cellK x c e v z⟩
  · obtain ⟨m, ⟨o, _, _, ho, _⟩, _⟩ := I.loc
    exact free _ o (fun z => (hch _ z).2.1 rfl) ho I.free
  · obtain ⟨v, o, ho, hd⟩ := I.cell x c e
    exact free c o (fun z => (hch c z).2.2.1 x c e rfl) ho (I.freeC x c e)
  · obtain ⟨e, n, ne, nf, d⟩ := I.pin p hp
    have nch : p.1 ∉ ch := fun z => (hch p.1 z).2.2.2 p hp rfl
    exact ⟨keep p.1 p.2 ne nf nch e n, free p.1 p.2 nch e n, ne, nf, d⟩
/-- .. where the frame's own object is kept too -/
theorem Inv.un {t' : Nat} (I : Inv X pins σ H s) (u : Un X.fs [] H H' s.heap h') (hok : HOk X.prog X.w H' h') : Inv X pins σ H' { s with heap := h', toks := t' } := by
  obtain ⟨m, ⟨o, es, ep, ho, r⟩, _⟩ := id I.loc
  obtain ⟨sl, hL⟩ := u.any ho I.free (by simp)
  exact I.step (g' := s.gens) (d' := s.drawn) (ch := []) (fun _ z => nomatch z) (fun b o _ hb _ e n => u.keep b o e n hb (by simp)) (fun b o _ hb _ e n => u.slot b o e n hb (by simp)) (fun b o _ e n => u.free b o e n (by simp)) (fun b o _ e => u.there b o e (by simp)) u.tups u.frzs u.tbls (fun m' hm => by
    obtain ⟨o', es', ep', ho', r'⟩ := hm
    rw [ho] at ho'; cases ho'
    exact ⟨_, es', ep', hL, r'⟩) hok I.bare
/-- behind a call (or a comprehension's block): the slots of this frame may have changed too, the records at ch may have turned -/
theorem Inv.call {g' : Array GenState} {t' : Nat} {d' : Drawn} {ch : List Addr} (I : Inv X pins σ H s) (u : Un (frs X.stack) ch H H' s.heap h') (hok : HOk X.prog X.w H' h') (hg : AllBare g')
    (hch : ∀ b ∈ ch, (b ∈ X.ex ∨ X.s_0.heap.objs.size ≤ b) ∧ b ≠ X.env.locals ∧ (∀ x c, X.env.cells.lookup x = some c → c ≠ b) ∧ ∀ p ∈ X.pn ++ pins, p.1 ≠ b) :
    Inv X pins σ H' { s with heap := h', gens := g', drawn := d', toks := t' } := by
  obtain ⟨m, ⟨o, es, ep, ho, r⟩, _⟩ := id I.loc
  obtain ⟨sl, hL⟩ := u.any ho I.free fun z => (hch _ z).2.1 rfl
  exact I.step (ch := ch) hch (fun b o hL hb hc e n => u.keep b o e n (fun z => (List.mem_cons.mp (I.stkSub b z)).elim hL hb) hc) (fun b o _ _ hc e n => u.any e n hc) (fun b o hc e n => u.free b o e n hc) (fun b o hc e => u.there b o e hc) u.tups u.frzs u.tbls (fun m' hm => by
    obtain ⟨o', es', ep', ho', r'⟩ := hm
    rw [ho] at ho'; cases ho'
    exact ⟨_, es', ep', hL, r'⟩) hok hg
/-- an untracked record of ours (an iterator) has turned -/
theorem Inv.turned {t' : Nat} {it : Addr} (I : Inv X pins σ H s) (k : ∀ b o, b ≠ it → s.heap.get? b = some o → h'.get? b = some o) (hn : H it = none) (hL : it ≠ X.env.locals)
    (h1 : it ∈ X.ex ∨ X.s_0.heap.objs.size ≤ it) (h2 : ∀ x c, X.env.cells.lookup x = some c → c ≠ it) (h3 : ∀ p ∈ X.pn ++ pins, p.1 ≠ it) : Inv X pins σ H { s with heap := h', toks := t' } := by
  have nit : ∀ b u, H b = some u → b ≠ it := fun b u e z => by rw [z, hn] at e; cases e
  refine I.step (g' := s.gens) (d' := s.drawn) (ch := [it]) (fun b hb => ?_) (fun b o _ _ hc e _ => k b o (fun z => hc (by simp [z])) e) (fun b o _ _ hc e _ => ⟨o.slots, k b o (fun z => hc (by simp [z])) e⟩) (fun _ _ _ _ n => n)
    (fun b o hc e => ⟨o, k b o (fun z => hc (by simp [z])) e⟩) (fun _ _ e => e) (fun _ _ _ e => e) (fun b ps e => ⟨#[], by rw [e]; simp⟩) (fun m hm => ?_) (fun b u e => ?_) I.bare
  · have e : b = it := by simpa using hb
    subst e
    exact ⟨h1, hL, h2, h3⟩
  · obtain ⟨o, es, ep, ho, r⟩ := hm
    exact ⟨o, es, ep, k _ o (Ne.symm hL) ho, r⟩
  · refine (I.hok b u e).stay (fun c v hc q => k c v ?_ q) (fun _ q => q) fun _ _ q => q
    rcases hc with z | z
    · rw [z]; exact nit b u e
    · exact nit c _ z
theorem Inv.tok (I : Inv X pins σ H s) (t : Nat) : Inv X pins σ H { s with toks := t } := I.un (h' := s.heap) (t' := t) Un.refl I.hok
/-- all objects kept -/
theorem Inv.kept {t' : Nat} (I : Inv X pins σ H s) (k : ∀ b u, s.heap.get? b = some u → h'.get? b = some u) : Inv X pins σ H { s with heap := h', toks := t' } := I.un (Un.kept k) (I.hok.kept k)
/-- a new object laid and tracked -/
theorem Inv.laid {a : Addr} {o : HO} {t' : Nat} (I : Inv X pins σ H s) (k : ∀ b u, s.heap.get? b = some u → h'.get? b = some u) (hp : s.heap.objs.size ≤ a) (new : ObjOk X.prog X.w (upd H a o) h' a o) :
    Inv X pins σ (upd H a o) { s with heap := h', toks := t' } := I.un (Un.laid k hp (I.hok.fresh hp)) (I.hok.laid k hp new)
/-- an object written -/
theorem Inv.write {x e : Addr} {o : HO} {t' : Nat} (I : Inv X pins σ H s) (mu : Mut (H x)) (he : e = x ∨ H e = some (.own x)) (k : ∀ b u, b ≠ e → s.heap.get? b = some u → h'.get? b = some u) (heo : ∃ u, h'.get? e = some u)
    (new : ObjOk X.prog X.w (upd H x o) h' x o) : Inv X pins σ (upd H x o) { s with heap := h', toks := t' } := I.un (Un.write mu he k heo) (I.hok.write mu he k heo new)
/-- forgetting slots, pins -/
theorem Inv.weak {σ' : List (Option V)} (I : Inv X pins σ H s) (hl : σ'.length = σ.length) (w : ∀ (i : Nat) v, σ'[i]? = some (some v) → σ[i]? = some (some v)) : Inv X pins σ' H s :=
  ⟨I.ok, I.os, I.bare, I.base, let ⟨m, hn, hl'⟩ := I.loc; ⟨m, hn, fun i x v e1 e2 e3 => hl' i x v e1 (w i v e2) e3⟩, I.cell, I.free, I.freeC, I.pin, I.hok, hl.trans I.len⟩
theorem Inv.pins_of {pins' : List (Addr × Obj)} (I : Inv X pins σ H s) (h : ∀ p ∈ pins', s.heap.get? p.1 = some p.2 ∧ H p.1 = none ∧ p.1 ≠ X.env.locals ∧ p.1 ∉ X.fs ∧ ∀ v, p.2.data ≠ .cell v) : Inv X pins' σ H s :=
  ⟨I.ok, I.os, I.bare, I.base, I.loc, I.cell, I.free, I.freeC, fun p hp => (List.mem_append.mp hp).elim (fun z => I.pin p (List.mem_append_left _ z)) (h p), I.hok, I.len⟩

theorem nodup_ix {N : List Str} (hN : N.Nodup) {i j : Nat} {x : Str} (a : N[i]? = some x) (b : N[j]? = some x) : i = j := by
  obtain ⟨h1, e1⟩ := List.getElem?_eq_some_iff.mp a
  obtain ⟨h2, e2⟩ := List.getElem?_eq_some_iff.mp b
  exact (List.getElem_inj hN).mp (e1.trans e2.symm)

/-- a name is stored; what changed -/
theorem store_ok2 {M : Model} {A : Around} {E : Value → Shared → Prop} {i : Nat} {x : Str} {v : V} {u : Value} {Q : Unit → Shared → Prop} (I : Inv X pins σ H s) (hN : X.N.Nodup) (hi : X.N[i]? = some x) (hx : Loc X.env.scope x) (r : RelV v u)
    (h : ∀ s', Inv X pins (σ.set i (some v)) H s' → (∃ a, Heap.SameBut a s.heap s'.heap ∧ (a = X.env.locals ∨ X.env.cells.lookup x = some a)) → Q () s') (hf : X.fn x = true ∨ X.env.scope.names.lookup x = some .local := by first | exact .inl rfl | exact .inr rfl | assumption) : wpAny M A (storeName X.env x u) Q E s := by
  obtain ⟨m, hn, hl⟩ := id I.loc
  have hcls : (X.env.scope.kind == .class || (X.env.scope.kind == .module && X.env.locals != X.env.globals)) = false := by rw [I.ok.kind]; rfl
  have hiσ : i < σ.length := by rw [I.len]; exact (List.getElem?_eq_some_iff.mp hi).1
  have cne := I.cne
  have tracked : ∀ {a : Addr} {h' : Heap}, (∃ o, s.heap.get? a = some o ∧ H a = none) → Heap.SameBut a s.heap h' → HOk X.prog X.w H h' := fun {a h'} ha hs b ob e => by
    obtain ⟨_, _, hfree⟩ := ha
    refine (I.hok b ob e).stay (fun c w' hc q => (hs.2 c ?_).trans q) (fun _ q => q) fun _ _ q => q
    rintro rfl
    rcases hc with rfl | hc
    · rw [hfree] at e; cases e
    · rw [hfree] at hc; cases hc
  rcases hx with hk | hk
  · refine wpAny_storeName_local hk hn (fun h' hn' hs => ?_) hcls
    obtain ⟨oL, _, _, hoL, _⟩ := id hn
    refine h _ ⟨I.ok, I.os, I.bare, ⟨fun b o e n hb hx => ?_, fun b o e n hb hx => ?_, I.base.free, fun b o e hx => ?_, I.base.tups, I.base.frzs, I.base.tbls⟩, ⟨_, hn', fun j y v' e1 e2 e3 => ?_⟩, fun y c e => ?_, I.free, I.freeC, fun p hp => ?_, tracked ⟨oL, hoL, I.free⟩ hs, by simpa using I.len⟩ ⟨_, hs, .inl rfl⟩
    · exact (hs.2 b (Nat.ne_of_lt (Nat.lt_of_lt_of_le (Heap.lt_size e) I.ok.above))).trans (I.base.keep b o e n hb hx)
    · obtain ⟨sl, e1⟩ := I.base.slot b o e n hb hx
      exact ⟨sl, (hs.2 b (Nat.ne_of_lt (Nat.lt_of_lt_of_le (Heap.lt_size e) I.ok.above))).trans e1⟩
    · obtain ⟨o', e1⟩ := I.base.there b o e hx
      exact ⟨o', (hs.2 b (Nat.ne_of_lt (Nat.lt_of_lt_of_le (Heap.lt_size e) I.ok.above))).trans e1⟩
    · by_cases hj : j = i
      · subst hj
        rw [hi] at e1; cases e1
        rw [List.getElem?_set_self hiσ] at e2
        cases e2
        exact ⟨u, r, .inl ⟨hk, by simp⟩⟩
      · rw [List.getElem?_set_ne (Ne.symm hj)] at e2
        obtain ⟨u', r', q⟩ := hl j y v' e1 e2 e3
        refine ⟨u', r', ?_⟩
        rcases q with ⟨k, e⟩ | ⟨k, c, e, z⟩
        · refine .inl ⟨k, ?_⟩
          have : y ≠ x := fun e => hj (nodup_ix hN e1 (e ▸ hi))
          simp [this, e]
        · exact .inr ⟨k, c, e, z.sameBut hs (cne y c e)⟩
    · obtain ⟨w', z⟩ := I.cell y c e
      exact ⟨w', z.sameBut hs (cne y c e)⟩
    · obtain ⟨e, n, ne, nf, d⟩ := I.pin p hp
      exact ⟨(hs.2 p.1 ne).trans e, n, ne, nf, d⟩
  · have hfn : X.fn x = true := by
      rcases hf with z | z
      · exact z
      · rw [z] at hk; cases hk
    obtain ⟨c, hc⟩ := I.ok.has x (.inl hk)
    obtain ⟨w', z⟩ := I.cell x c hc
    refine wpAny_storeName_cell I.ok.kind hk hc z (fun h' hc' hs => ?_)
    obtain ⟨oc, hoc, hocd⟩ := id z
    refine h { s with heap := h' } ⟨I.ok, I.os, I.bare, ⟨fun b o e n hb hx => ?_, fun b o e n hb hx => ?_, I.base.free, fun b o e hx => ?_, I.base.tups, I.base.frzs, I.base.tbls⟩, ⟨m, hn.sameBut hs (Ne.symm (cne x c hc)), fun j y v' e1 e2 e3 => ?_⟩, fun y c' e => ?_, I.free, I.freeC, fun p hp => ?_, tracked ⟨oc, hoc, I.freeC x c hc⟩ hs, by simpa using I.len⟩ ⟨c, hs, .inr hc⟩
    · exact (hs.2 b (Nat.ne_of_lt (Nat.lt_of_lt_of_le (Heap.lt_size e) (I.ok.cab x c hfn hc)))).trans (I.base.keep b o e n hb hx)
    · obtain ⟨sl, e1⟩ := I.base.slot b o e n hb hx
      exact ⟨sl, (hs.2 b (Nat.ne_of_lt (Nat.lt_of_lt_of_le (Heap.lt_size e) (I.ok.cab x c hfn hc)))).trans e1⟩
    · obtain ⟨o', e1⟩ := I.base.there b o e hx
      exact ⟨o', (hs.2 b (Nat.ne_of_lt (Nat.lt_of_lt_of_le (Heap.lt_size e) (I.ok.cab x c hfn hc)))).trans e1⟩
    · by_cases hj : j = i
      · subst hj
        rw [hi] at e1; cases e1
        rw [List.getElem?_set_self hiσ] at e2
        cases e2
        exact ⟨u, r, .inr ⟨.inl hk, c, hc, hc'⟩⟩
      · rw [List.getElem?_set_ne (Ne.symm hj)] at e2
        obtain ⟨u', r', q⟩ := hl j y v' e1 e2 e3
        refine ⟨u', r', ?_⟩
        rcases q with q | ⟨k, c', e, z'⟩
        · exact .inl q
        · refine .inr ⟨k, c', e, z'.sameBut hs ?_⟩
          rintro rfl
          exact hj (nodup_ix hN e1 (I.ok.inj _ _ _ e hc ▸ hi))
    · by_cases hcc : c' = c
      · subst hcc; exact ⟨_, hc'⟩
      · obtain ⟨w2, z2⟩ := I.cell y c' e
        exact ⟨w2, z2.sameBut hs hcc⟩
    · obtain ⟨e, n, ne, nf, d⟩ := I.pin p hp
      refine ⟨(hs.2 p.1 ?_).trans e, n, ne, nf, d⟩
      intro q
      rw [q, hoc] at e
      have q' : oc = p.2 := Option.some.inj e
      exact d w' (by rw [← q']; exact hocd)
theorem store_ok {M : Model} {A : Around} {E : Value → Shared → Prop} {i : Nat} {x : Str} {v : V} {u : Value} {Q : Unit → Shared → Prop} (I : Inv X pins σ H s) (hN : X.N.Nodup) (hi : X.N[i]? = some x) (hx : Loc X.env.scope x) (r : RelV v u)
    (h : ∀ s', Inv X pins (σ.set i (some v)) H s' → Q () s') (hf : X.fn x = true ∨ X.env.scope.names.lookup x = some .local := by first | exact .inl rfl | exact .inr rfl | assumption) : wpAny M A (storeName X.env x u) Q E s :=
  store_ok2 I hN hi hx r (fun s' I' _ => h s' I') hf
/-- behind a call or a block, the state as it is -/
theorem Inv.call' {s' : Shared} {ch : List Addr} (I : Inv X pins σ H s) (ho : s'.os = s.os) (u : Un (frs X.stack) ch H H' s.heap s'.heap) (hok : HOk X.prog X.w H' s'.heap) (hg : AllBare s'.gens)
    (hch : ∀ b ∈ ch, (b ∈ X.ex ∨ X.s_0.heap.objs.size ≤ b) ∧ b ≠ X.env.locals ∧ (∀ x c, X.env.cells.lookup x = some c → c ≠ b) ∧ ∀ p ∈ X.pn ++ pins, p.1 ≠ b) : Inv X pins σ H' s' := by
  obtain ⟨h', g', d', t', o'⟩ := s'
  have e : o' = s.os := ho
  subst e
  exact I.call (g' := g') (t' := t') (d' := d') u hok hg hch
end

/-! ### the judgements -/
/-- an exception: its class, its own dict's address (where it has one), the abstract heap behind it -/
abbrev XK := Value → Option Addr → Hp → Prop
abbrev St := List (Option V)
abbrev VK := V → Hp → Prop
/-- an expression's reading; a test's; an argument list's -/
abbrev TE := St → Hp → VK → Prop
abbrev TT := St → Hp → (Bool → Hp → Prop) → Prop
abbrev TA := St → Hp → (List V → Hp → Prop) → Prop
/-- what is wanted behind a statement -/
structure Ends where
  nx : St → Hp → Prop
  rt : VK
  bk : St → Hp → Prop := fun _ _ => False
  ct : St → Hp → Prop := fun _ _ => False
abbrev TS := Ends → St → Hp → Prop

def EP (X : Cx) (pins : List (Addr × Obj)) (σ : St) (Q : VK) (u : Value) (s' : Shared) : Prop := ∃ v H', Inv X pins σ H' s' ∧ RelV v u ∧ Q v H'
def TP (X : Cx) (pins : List (Addr × Obj)) (σ : St) (Q : Bool → Hp → Prop) (b : Bool) (s' : Shared) : Prop := ∃ H', Inv X pins σ H' s' ∧ Q b H'
def AP (X : Cx) (pins : List (Addr × Obj)) (σ : St) (Q : List V → Hp → Prop) (us : List Value) (s' : Shared) : Prop := ∃ vs H', Inv X pins σ H' s' ∧ Vals vs us ∧ Q vs H'
def SP (X : Cx) (pins : List (Addr × Obj)) (D : Ends) (f : Flow) (s' : Shared) : Prop :=
  match f with
  | .next => ∃ σ' H', Inv X pins σ' H' s' ∧ D.nx σ' H'
  | .brk => ∃ σ' H', Inv X pins σ' H' s' ∧ D.bk σ' H'
  | .cont => ∃ σ' H', Inv X pins σ' H' s' ∧ D.ct σ' H'
  | .ret u => ∃ v σ' H', Inv X pins σ' H' s' ∧ RelV v u ∧ D.rt v H'

def PE (X : Cx) (e : Expr) (t : TE) : Prop :=
  ∀ (pins : List (Addr × Obj)) (s : Shared) (σ : St) (H : Hp) (Q : VK), Inv X pins σ H s → t σ H Q → wpAny (model X.prog X.w) X.A (eval e X.env) (EP X pins σ Q) X.xe s
def PT (X : Cx) (e : Expr) (t : TT) : Prop :=
  ∀ (pins : List (Addr × Obj)) (s : Shared) (σ : St) (H : Hp) (Q : Bool → Hp → Prop), Inv X pins σ H s → t σ H Q → wpAny (model X.prog X.w) X.A (isTrue e X.env (eval e X.env)) (TP X pins σ Q) X.xe s
/-- a test whatever its 'whole' is (and, or) -/
def PW (X : Cx) (e : Expr) (t : TT) : Prop :=
  ∀ (whole : Sem Value) (pins : List (Addr × Obj)) (s : Shared) (σ : St) (H : Hp) (Q : Bool → Hp → Prop), Inv X pins σ H s → t σ H Q → wpAny (model X.prog X.w) X.A (isTrue e X.env whole) (TP X pins σ Q) X.xe s
theorem PW.pt {X : Cx} {e : Expr} {t : TT} (h : PW X e t) : PT X e t := h _
/-- an argument list (no star), from the left -/
def PA (X : Cx) (es : List Expr) (t : TA) : Prop :=
  ∀ (pos : Pos) (pins : List (Addr × Obj)) (s : Shared) (σ : St) (H : Hp) (Q : List V → Hp → Prop), Inv X pins σ H s → t σ H Q → wpAny (model X.prog X.w) X.A (spliced (backTo pos (starEach es X.env))) (AP X pins σ Q) X.xe s
def PS (X : Cx) (st : Stmt) (t : TS) : Prop :=
  ∀ (pins : List (Addr × Obj)) (s : Shared) (σ : St) (H : Hp) (D : Ends), Inv X pins σ H s → t D σ H → wpAny (model X.prog X.w) X.A (exec st X.env) (SP X pins D) X.xe s
def PSs (X : Cx) (st : List Stmt) (t : TS) : Prop :=
  ∀ (pins : List (Addr × Obj)) (s : Shared) (σ : St) (H : Hp) (D : Ends), Inv X pins σ H s → t D σ H → wpAny (model X.prog X.w) X.A (execs st X.env) (SP X pins D) X.xe s
/-- weaken the end -/
theorem thn {α : Type} {t : Sem α} {Q Q' : α → Shared → Prop} {M : Model} {A : Around} {E : Value → Shared → Prop} {s : Shared} (h : wpAny M A t Q E s) (hQ : ∀ a s, Q a s → Q' a s) : wpAny M A t Q' E s := wpAny_mono h hQ fun _ _ x => x
end L2

namespace L2
open PySem PySem.Spec PyProof.Rows
section
variable {X : Cx}


/-! ### names and constants -/
def tVar (i : Nat) : TE := fun σ H Q => ∃ v, σ[i]? = some (some v) ∧ Q v H
def tC (v : V) : TE := fun _ H Q => Q v H
theorem pe_var {i : Nat} {x : Str} {pos : Pos} (hN : X.N[i]? = some x) (hv : Vis X.env.scope x) (hd : (x == ("__debug__" : Str)) = false := by decide) (hcd : (x == ("__classdict__" : Str)) = false := by decide) : PE X (.Name x pos) (tVar i) := by
  intro pins s σ H Q I h
  obtain ⟨v, e, h⟩ := h
  obtain ⟨m, hn, hl⟩ := I.loc
  obtain ⟨u, r, l⟩ := hl i x v hN e hv
  have fin : EP X pins σ Q u s := ⟨v, H, I, r, h⟩
  rcases l with ⟨hk, hm⟩ | ⟨hk, c, hc, hcell⟩
  · exact wpAny_Name (wpAny_loadName_local I.ok.kind hk hn hm fin) hd
  · rcases hk with hk | hk
    · exact wpAny_Name (wpAny_loadName_cell I.ok.kind hk hc hcell fin) hd
    · exact wpAny_Name (wpAny_loadName_free I.ok.kind hk hc hcell fin hcd) hd
theorem pe_int {i j pos} : PE X (.Constant (.int i) j pos) (tC (.int i)) := fun _ _ _ H _ I h => wpAny_Constant_int ⟨.int i, H, I.tok _, ⟨_, rfl⟩, h⟩
theorem pe_bl {b j pos} : PE X (.Constant (.bool b) j pos) (tC (.bl b)) := fun _ _ _ H _ I h => Constant_bool ⟨.bl b, H, I, rfl, h⟩
theorem pe_str {x j pos} : PE X (.Constant (.str x) j pos) (tC (.str x)) := fun _ _ _ H _ I h => Calls.Constant_str ⟨.str x, H, I.tok _, ⟨_, rfl⟩, h⟩

/-- a global name of the def -/
def Gl (X : Cx) (x : Str) : Prop := X.env.kindOf x = some .globalImplicit
theorem ld_glob {E : Value → Shared → Prop} {pins : List (Addr × Obj)} {s : Shared} {σ : St} {H : Hp} {x : Str} {u : Value} {pos : Pos} {Q : Value → Shared → Prop} (I : Inv X pins σ H s) (hg : Gl X x) (hm : X.mg x = some u) (h : Q u s)
    (hd : (x == ("__debug__" : Str)) = false := by decide) : wpAny (model X.prog X.w) X.A (eval (.Name x pos) X.env) Q E s :=
  Calls.Name_function_global I.ok.kind hg (Calls.loadGlobal_global (by rw [I.ok.glob]; exact I.mod.glob.keeps I.bk) hm h) hd
theorem ld_blt {E : Value → Shared → Prop} {pins : List (Addr × Obj)} {s : Shared} {σ : St} {H : Hp} {x : Str} {u : Value} {pos : Pos} {Q : Value → Shared → Prop} (I : Inv X pins σ H s) (hg : Gl X x) (hm : X.mg x = none) (hv : bootBuiltins x = some u) (h : Q u s)
    (hn : x ≠ "__name__" := by decide) (hd : (x == ("__debug__" : Str)) = false := by decide) : wpAny (model X.prog X.w) X.A (eval (.Name x pos) X.env) Q E s := by
  obtain ⟨mb, h1, h2⟩ := I.mod.blt
  exact Calls.Name_function_global I.ok.kind hg (Calls.loadGlobal_builtin (by rw [I.ok.glob]; exact I.mod.glob.keeps I.bk) hm (by rw [I.ok.blt]; exact h1.keeps I.bk) ((h2 x hn).trans hv) h) hd
/-- a module's constant, a class, a function, as a value -/
theorem pe_glob {x : Str} {v : V} {u : Value} {pos : Pos} (hg : Gl X x) (hm : X.mg x = some u) (r : RelV v u) (hd : (x == ("__debug__" : Str)) = false := by decide) : PE X (.Name x pos) (tC v) :=
  fun _ _ _ H _ I h => ld_glob I hg hm ⟨v, H, I, r, h⟩ hd
theorem pe_bltn {x : Str} {v : V} {u : Value} {pos : Pos} (hg : Gl X x) (hm : X.mg x = none) (hv : bootBuiltins x = some u) (r : RelV v u) (hn : x ≠ "__name__" := by decide) (hd : (x == ("__debug__" : Str)) = false := by decide) : PE X (.Name x pos) (tC v) :=
  fun _ _ _ H _ I h => ld_blt I hg hm hv ⟨v, H, I, r, h⟩ hn hd

/-! ### arithmetic -/
variable {a b : Expr} {ta tb : TE} {pos : Pos}

/-! ### comparisons -/

/-! ### and, or, not -/
variable {tA tB' : TT} {rest : List Expr}
def tAnd (t u : TT) : TT := fun σ H Q => t σ H fun c H1 => if c = true then u σ H1 Q else Q false H1
def tOr (t u : TT) : TT := fun σ H Q => t σ H fun c H1 => if c = true then Q true H1 else u σ H1 Q
def tNot (t : TT) : TT := fun σ H Q => t σ H fun c H1 => Q (!c) H1
theorem pw_and1 (ha : PT X a tA) : PW X (.BoolOp .And [a] pos) tA := by
  intro wh pins s σ H Q I h
  refine isTrue_and (thn (ha pins s σ H Q I h) fun c s1 e => ?_)
  cases c with
  | true => exact isTrue_and_nil e
  | false => exact e
theorem pw_or1 (ha : PT X a tA) : PW X (.BoolOp .Or [a] pos) tA := by
  intro wh pins s σ H Q I h
  refine isTrue_or (thn (ha pins s σ H Q I h) fun c s1 e => ?_)
  cases c with
  | false => exact isTrue_or_nil e
  | true => exact e
theorem pw_and (ha : PT X a tA) (hb : PW X (.BoolOp .And (b :: rest) pos) tB') : PW X (.BoolOp .And (a :: b :: rest) pos) (tAnd tA tB') := by
  intro wh pins s σ H Q I h
  refine isTrue_and (thn (ha pins s σ H _ I h) fun c s1 ⟨H1, I1, q1⟩ => ?_)
  cases c with
  | true => exact hb wh pins s1 σ H1 Q I1 q1
  | false => exact ⟨H1, I1, q1⟩
theorem pw_or (ha : PT X a tA) (hb : PW X (.BoolOp .Or (b :: rest) pos) tB') : PW X (.BoolOp .Or (a :: b :: rest) pos) (tOr tA tB') := by
  intro wh pins s σ H Q I h
  refine isTrue_or (thn (ha pins s σ H _ I h) fun c s1 ⟨H1, I1, q1⟩ => ?_)
  cases c with
  | true => exact ⟨H1, I1, q1⟩
  | false => exact hb wh pins s1 σ H1 Q I1 q1
theorem pt_not (ha : PT X a tA) : PT X (.UnaryOp .Not a pos) (tNot tA) := by
  intro pins s σ H Q I h
  exact isTrue_not (ha pins s σ H (fun c H1 => Q (!c) H1) I h)
/-- .. as values (bools) -/
def tAndV (ta tb : TE) : TE := fun σ H Q => ta σ H fun x H1 => ∃ c, x = .bl c ∧ if c = true then tb σ H1 Q else Q (.bl false) H1
def tNotV (ta : TE) : TE := fun σ H Q => ta σ H fun x H1 => ∃ c, x = .bl c ∧ Q (.bl (!c)) H1
theorem pe_one {op} {t : TE} (h : PE X a t) : PE X (.BoolOp op [a] pos) t := fun pins s σ H Q I hw => BoolOp_one (h pins s σ H Q I hw)
theorem pe_and (ha : PE X a ta) (hb : PE X (.BoolOp .And (b :: rest) pos) tb) : PE X (.BoolOp .And (a :: b :: rest) pos) (tAndV ta tb) := by
  intro pins s σ H Q I h
  refine BoolOp_and (thn (ha pins s σ H _ I h) fun v s1 ⟨x, H1, I1, r1, q1⟩ => ?_)
  obtain ⟨c, rfl, q1⟩ := q1
  cases r1
  refine wpAny_truthy_bool ?_
  cases c with
  | true => exact hb pins s1 σ H1 Q I1 q1
  | false => exact ⟨.bl false, H1, I1, rfl, q1⟩
theorem pe_not (ha : PE X a ta) : PE X (.UnaryOp .Not a pos) (tNotV ta) := by
  intro pins s σ H Q I h
  refine UnaryOp_ (thn (ha pins s σ H _ I h) fun v s1 ⟨x, H1, I1, r1, q1⟩ => ?_)
  obtain ⟨c, rfl, q1⟩ := q1
  cases r1
  exact not_of (wpAny_truthy_bool ⟨.bl (!c), H1, I1, rfl, q1⟩)
/-- a if t else b -/
def tIf (t : TT) (ta tb : TE) : TE := fun σ H Q => t σ H fun c H1 => if c = true then ta σ H1 Q else tb σ H1 Q
theorem pe_ifExp {c : Expr} (hc : PT X c tA) (ha : PE X a ta) (hb : PE X b tb) : PE X (.IfExp c a b pos) (tIf tA ta tb) := by
  intro pins s σ H Q I h
  refine wpAny_IfExp (thn (hc pins s σ H _ I h) fun d s1 ⟨H1, I1, q1⟩ => ?_)
  cases d with
  | true => exact ha pins s1 σ H1 Q I1 q1
  | false => exact hb pins s1 σ H1 Q I1 q1
end
end L2

namespace L2
open PySem PySem.Spec PyProof.Rows

/-! ### a list, a tuple that is read: tracked, frozen, or an object of the module -/
def SqL (K : PySem.W.Frag) (H : Hp) (a : Addr) (xs : List V) : Prop :=
  Rd H a (.lst xs) ∨
    ∃ (o : Obj) (its : Array Value) (n : Nat), K.lookup a = some o ∧ o.cls = .type "list" ∧ o.dict = none ∧ o.data = .seq its n ∧ its.size ≤ sizeLine ∧ Vals xs its.toList
def SqT (K : PySem.W.Frag) (H : Hp) (a : Addr) (xs : List V) : Prop :=
  Rd H a (.tup xs) ∨
    ∃ (o : Obj) (its : Array Value) (n : Nat), K.lookup a = some o ∧ o.cls = .type "tuple" ∧ o.dict = none ∧ o.data = .seq its n ∧ its.size ≤ sizeLine ∧ Vals xs its.toList
def absV : Value → Option V
  | .none => some .non
  | .bool b => some (.bl b)
  | .int i _ => some (.int i)
  | .str x _ => some (.str x)
  | .bytes b _ => some (.byt b)
  | .float b _ => some (.flt b)
  | .ref a => some (.ref a)
  | .type n => some (.ty n)
  | _ => none
theorem RelV.abs {x : V} {u : Value} (r : RelV x u) : absV u = some x := by
  cases x with
  | non => cases r; rfl
  | bl _ => cases r; rfl
  | int _ => obtain ⟨t, rfl⟩ := r; rfl
  | str _ => obtain ⟨t, rfl⟩ := r; rfl
  | byt _ => obtain ⟨t, rfl⟩ := r; rfl
  | flt _ => obtain ⟨t, rfl⟩ := r; rfl
  | ref _ => cases r; rfl
  | ty _ => cases r; rfl
theorem RelV.inj {x y : V} {u : Value} (r : RelV x u) (q : RelV y u) : x = y := Option.some.inj (r.abs.symm.trans q.abs)
theorem Vals.inj : ∀ {xs ys : List V} {us : List Value}, Vals xs us → Vals ys us → xs = ys
  | _, _, _, .nil, .nil => rfl
  | _, _, _, .cons r t, .cons r' t' => by rw [r.inj r', Vals.inj t t']
section
variable {X : Cx} {pins : List (Addr × Obj)} {σ : St} {H : Hp} {s : Shared} {a : Addr} {xs ys : List V}
theorem SqL.of {K : PySem.W.Frag} (h : H a = some (.lst xs)) : SqL K H a xs := .inl (.inl h)
theorem Inv.list (I : Inv X pins σ H s) (h : SqL X.K H a xs) : ∃ its : List Value, Vals xs its ∧ PlainL s.heap a its.toArray ∧ xs.length ≤ sizeLine := by
  rcases h with h | ⟨o, its, n, hk, hc, hd, hs, hz, r⟩
  · obtain ⟨z, its, n, r, e⟩ := h.ok I.hok
    exact ⟨its, r, ⟨_, n, e, rfl, rfl, rfl⟩, z⟩
  · refine ⟨its.toList, r, ⟨o, n, I.kIn a o hk, hc, hd, by simpa using hs⟩, ?_⟩
    have e := r.length
    simp only [Array.length_toList] at e
    omega
theorem Inv.tuple (I : Inv X pins σ H s) (h : SqT X.K H a xs) : ∃ its : List Value, Vals xs its ∧ IsTup s.heap a its.toArray ∧ xs.length ≤ sizeLine := by
  rcases h with h | ⟨o, its, n, hk, hc, _, hs, hz, r⟩
  · obtain ⟨⟨z, _⟩, its, r, p⟩ := h.ok I.hok
    exact ⟨its, r, p, z⟩
  · refine ⟨its.toList, r, ⟨o, I.kIn a o hk, hc, n, by simpa using hs⟩, ?_⟩
    have e := r.length
    simp only [Array.length_toList] at e
    omega
theorem Inv.list_inj (I : Inv X pins σ H s) (h : SqL X.K H a xs) (h' : SqL X.K H a ys) : xs = ys := by
  obtain ⟨its, r, ⟨o, n, e, _, _, d⟩, _⟩ := I.list h
  obtain ⟨its', r', ⟨o', n', e', _, _, d'⟩, _⟩ := I.list h'
  rw [e] at e'; cases e'
  rw [d] at d'
  injection d' with d1 _
  have : its = its' := by simpa using congrArg Array.toList d1
  subst this
  exact r.inj r'
theorem Inv.tuple_inj (I : Inv X pins σ H s) (h : SqT X.K H a xs) (h' : SqT X.K H a ys) : xs = ys := by
  obtain ⟨its, r, ⟨o, e, _, n, d⟩, _⟩ := I.tuple h
  obtain ⟨its', r', ⟨o', e', _, n', d'⟩, _⟩ := I.tuple h'
  rw [e] at e'; cases e'
  rw [d] at d'
  injection d' with d1 _
  have : its = its' := by simpa using congrArg Array.toList d1
  subst this
  exact r.inj r'
end

/-! ### another wish about exceptions -/
abbrev Cx.wish (X : Cx) (E : Value → Shared → Prop) : Cx := { X with xe := E }
/-- no exception leaves -/
abbrev Cx.nox (X : Cx) : Cx := X.wish fun _ _ => False
theorem Cx.Ok.wish {X : Cx} (ok : X.Ok) (E : Value → Shared → Prop) : (X.wish E).Ok :=
  ⟨ok.mod, ok.kind, ok.glob, ok.blt, ok.above, ok.inj, ok.has, ok.cab, ok.hd, ok.frames, ok.stk, ok.exf, ok.bs, ok.bsz, ok.noex, ok.exfs, ok.funs, ok.frf⟩
theorem Cx.Ok.unwish {X : Cx} {E : Value → Shared → Prop} (ok : (X.wish E).Ok) : X.Ok :=
  ⟨ok.mod, ok.kind, ok.glob, ok.blt, ok.above, ok.inj, ok.has, ok.cab, ok.hd, ok.frames, ok.stk, ok.exf, ok.bs, ok.bsz, ok.noex, ok.exfs, ok.funs, ok.frf⟩
section
variable {X : Cx} {pins : List (Addr × Obj)} {σ : St} {H : Hp} {s : Shared} {E : Value → Shared → Prop}
theorem Inv.wish (I : Inv X pins σ H s) (E : Value → Shared → Prop) : Inv (X.wish E) pins σ H s := ⟨I.ok.wish E, I.os, I.bare, I.base, I.loc, I.cell, I.free, I.freeC, I.pin, I.hok, I.len⟩
theorem Inv.unwish (I : Inv (X.wish E) pins σ H s) : Inv X pins σ H s := ⟨I.ok.unwish, I.os, I.bare, I.base, I.loc, I.cell, I.free, I.freeC, I.pin, I.hok, I.len⟩
theorem SP.unwish {D : Ends} {f : Flow} {s' : Shared} (h : SP (X.wish E) pins D f s') : SP X pins D f s' := by
  cases f with
  | next => obtain ⟨σ', H', I, q⟩ := h; exact ⟨σ', H', I.unwish, q⟩
  | brk => obtain ⟨σ', H', I, q⟩ := h; exact ⟨σ', H', I.unwish, q⟩
  | cont => obtain ⟨σ', H', I, q⟩ := h; exact ⟨σ', H', I.unwish, q⟩
  | ret u => obtain ⟨v, σ', H', I, r, q⟩ := h; exact ⟨v, σ', H', I.unwish, r, q⟩
theorem PSs.nox {st : List Stmt} {t : TS} (h : PSs X.nox st t) : PSs X st t := fun pins s σ H D I hw =>
  wpAny_mono (h pins s σ H D (I.wish _) hw) (fun _ _ q => q.unwish) fun _ _ z => False.elim z
end

/-! ### blocks and small statements -/
section
variable {X : Cx} {st : Stmt} {rest : List Stmt} {t u : TS} {e : Expr} {te : TE} {pos : Pos}
def tNext : TS := fun D σ H => D.nx σ H
def tSeq (t u : TS) : TS := fun D σ H => t { D with nx := u D } σ H
theorem pss_nil : PSs X [] tNext := fun _ _ σ H _ I h => wpAny_execs_nil ⟨σ, H, I, h⟩
theorem pss_cons (h1 : PS X st t) (h2 : PSs X rest u) : PSs X (st :: rest) (tSeq t u) := by
  intro pins s σ H D I h
  refine wpAny_execs_cons (thn (h1 pins s σ H { D with nx := u D } I h) fun f s1 q => ?_)
  cases f with
  | next =>
    obtain ⟨σ', H', I', q⟩ := q
    exact h2 pins s1 σ' H' D I' q
  | ret v => exact q
  | brk => exact q
  | cont => exact q
theorem pss_one (h1 : PS X st t) : PSs X [st] t := by
  intro pins s σ H D I h
  refine wpAny_execs_cons (thn (h1 pins s σ H D I h) fun f s1 q => ?_)
  cases f with
  | next => exact wpAny_execs_nil q
  | ret v => exact q
  | brk => exact q
  | cont => exact q
/-- in a def's body nothing is shown -/
theorem Inv.quiet {pins : List (Addr × Obj)} {σ : St} {H : Hp} {s : Shared} (I : Inv X pins σ H s) : interactive X.env = false := by simp [interactive, I.ok.kind]
/-- an expression whose value is dropped -/
def tDrop (te : TE) : TS := fun D σ H => te σ H fun _ H1 => D.nx σ H1
theorem ps_expr (he : PE X e te) (hs : swapsWith e none pos.line X.env = pure false := by rfl) : PS X (.Expr e pos) (tDrop te) := by
  intro pins s σ H D I h
  exact wpAny_Expr_any (thn (he pins s σ H _ I h) fun v s1 ⟨x, H1, I1, r1, q1⟩ => ⟨σ, H1, I1, q1⟩) I.quiet hs
def tRet (te : TE) : TS := fun D σ H => te σ H D.rt
theorem ps_ret (he : PE X e te) : PS X (.Return (some e) pos) (tRet te) := by
  intro pins s σ H D I h
  exact wpAny_Return_some (thn (he pins s σ H _ I h) fun v s1 ⟨x, H1, I1, r1, q1⟩ => ⟨x, σ, H1, I1, r1, q1⟩)
def tIfS (c : TT) (t u : TS) : TS := fun D σ H => c σ H fun b H1 => if b = true then t D σ H1 else u D σ H1
theorem ps_if {c : Expr} {a b : List Stmt} {tc : TT} (hc : PT X c tc) (ha : PSs X a t) (hb : PSs X b u) : PS X (.If c a b pos) (tIfS tc t u) := by
  intro pins s σ H D I h
  refine wpAny_If (thn (hc pins s σ H _ I h) fun d s1 ⟨H1, I1, q1⟩ => ?_)
  cases d with
  | true => exact ha pins s1 σ H1 D I1 q1
  | false => exact hb pins s1 σ H1 D I1 q1
end

/-! ### targets -/
abbrev TG := V → St → Hp → (St → Hp → Prop) → Prop
abbrev TGs := List V → St → Hp → (St → Hp → Prop) → Prop
def PG (X : Cx) (target : Expr) (t : TG) : Prop :=
  ∀ (pins : List (Addr × Obj)) (s : Shared) (σ : St) (H : Hp) (v : V) (u : Value) (Q : St → Hp → Prop), Inv X pins σ H s → RelV v u → t v σ H Q →
    wpAny (model X.prog X.w) X.A (assign target X.env u) (fun _ s' => ∃ σ' H', Inv X pins σ' H' s' ∧ Q σ' H') X.xe s
/-- several targets, one after another -/
def PGs (X : Cx) (ts : List Expr) (t : TGs) : Prop :=
  ∀ (pins : List (Addr × Obj)) (s : Shared) (σ : St) (H : Hp) (vs : List V) (us : List Value) (Q : St → Hp → Prop), Inv X pins σ H s → Vals vs us → t vs σ H Q →
    wpAny (model X.prog X.w) X.A (assignInOrder ((assignEach ts X.env).map (·.2)) us) (fun _ s' => ∃ σ' H', Inv X pins σ' H' s' ∧ Q σ' H') X.xe s
/-- o[i] = v, by values -/
abbrev TSet := V → V → V → Hp → (Hp → Prop) → Prop
def PSet (X : Cx) (t : TSet) : Prop :=
  ∀ (pins : List (Addr × Obj)) (s : Shared) (σ : St) (H : Hp) (o i v : V) (ov iv u : Value) (Q : Hp → Prop), Inv X pins σ H s → RelV o ov → RelV i iv → RelV v u → t o i v H Q →
    wpAny (model X.prog X.w) X.A (setItem ov iv u) (fun _ s' => ∃ H', Inv X pins σ H' s' ∧ Q H') X.xe s
section
variable {X : Cx} {pos : Pos}
def gName (i : Nat) : TG := fun v σ H Q => Q (σ.set i (some v)) H
theorem pg_name {i : Nat} {x : Str} (hN : X.N.Nodup) (hi : X.N[i]? = some x) (hx : Loc X.env.scope x) (hf : X.fn x = true ∨ X.env.scope.names.lookup x = some .local := by first | exact .inl rfl | exact .inr rfl | assumption) : PG X (.Name x pos) (gName i) := by
  intro pins s σ H v u Q I r h
  exact wpAny_assign_Name (store_ok I hN hi hx r (fun s' I' => ⟨_, H, I', h⟩) hf)
def gNil : TGs := fun vs σ H Q => vs = [] ∧ Q σ H
def gCons (t : TG) (u : TGs) : TGs := fun vs σ H Q => ∃ v r, vs = v :: r ∧ t v σ H fun σ' H' => u r σ' H' Q
theorem pgs_nil : PGs X [] gNil := by
  intro pins s σ H vs us Q I r h
  obtain ⟨e, h⟩ := h
  subst e
  cases r
  exact assignInOrder_nil ⟨σ, H, I, h⟩
theorem pgs_cons {e : Expr} {es : List Expr} {t : TG} {u : TGs} (h1 : PG X e t) (h2 : PGs X es u)
    (hs : (assignEach (e :: es) X.env).map (·.2) = assign e X.env :: (assignEach es X.env).map (·.2) := by rfl) : PGs X (e :: es) (gCons t u) := by
  intro pins s σ H vs us Q I r h
  obtain ⟨v, vr, e1, h⟩ := h
  subst e1
  cases r with
  | cons r rr =>
    rw [hs]
    refine assignInOrder_cons (thn (h1 pins s σ H _ _ _ I r h) fun _ s1 ⟨σ1, H1, I1, q1⟩ => ?_)
    exact h2 pins s1 σ1 H1 _ _ Q I1 rr q1
/-- (a, b, ..) = a tuple of that length -/
def gTup (K : PySem.W.Frag) (n : Nat) (t : TGs) : TG := fun v σ H Q => ∃ a xs, v = .ref a ∧ SqT K H a xs ∧ xs.length = n ∧ t xs σ H Q
theorem pg_tup {es : List Expr} {k : Nat} {t : TGs} {n : Nat} (hc : X.calm = true) (h : PGs X es t)
    (hn : (assignEach es X.env).length = n := by rfl) (hst : (assignEach es X.env).findIdx? (·.1) = none := by rfl) : PG X (.Tuple es k pos) (gTup X.K n t) := by
  intro pins s σ H v u Q I r hw
  obtain ⟨a, xs, e1, hq, hl, hw⟩ := hw
  subst e1
  cases r
  obtain ⟨its, rv, ht, hz⟩ := I.tuple hq
  refine assign_Tuple_tuple (I.ok.hd hc) ht (by simp [hn, ← hl, rv.length]) hst fun h' hx => ?_
  have I1 : Inv X pins σ H { s with heap := h' } := I.kept (t' := s.toks) fun b o e => hx b o (Nat.ne_of_lt (Heap.lt_size e)) e
  exact h pins _ σ H xs _ Q I1 (by simpa using rv) hw
/-- o[i] = .. -/
def gSub (to ti : TE) (t : TSet) : TG := fun v σ H Q => to σ H fun o H1 => ti σ H1 fun i H2 => t o i v H2 fun H3 => Q σ H3
theorem pg_sub {o i : Expr} {to ti : TE} {t : TSet} (ho : PE X o to) (hi : PE X i ti) (hs : PSet X t)
    (ha : ∀ v, assign (.Subscript o i pos) X.env v = (do
      let ov ← holding [v] (eval o X.env)
      let iv ← holding [v, ov] (eval i X.env)
      standAt pos
      holding [v, ov, iv] (setItem ov iv v)
      release [v, ov, iv] []) := by intro _; rfl) : PG X (.Subscript o i pos) (gSub to ti t) := by
  intro pins s σ H v u Q I r h
  rw [ha]
  refine wpAny_bind (wpAny_holding (thn (ho pins s σ H _ I h) fun ov s1 ⟨x, H1, I1, r1, q1⟩ => ?_))
  refine wpAny_bind (wpAny_holding (thn (hi pins s1 σ H1 _ I1 q1) fun iv s2 ⟨y, H2, I2, r2, q2⟩ => ?_))
  refine wpAny_bind (wpAny_standAt (wpAny_bind (wpAny_holding (thn (hs pins s2 σ H2 x y v ov iv u _ I2 r1 r2 r q2) fun _ s3 ⟨H3, I3, q3⟩ => ?_))))
  exact wpAny_release ⟨σ, H3, I3, q3⟩
/-- target = value -/
def tAsg (te : TE) (g : TG) : TS := fun D σ H => te σ H fun x H1 => g x σ H1 D.nx
theorem ps_asg {tg e : Expr} {te : TE} {g : TG} (he : PE X e te) (hg : PG X tg g) (hs : swapsWithSole [tg] e pos.line X.env = pure false := by rfl) (hw : swappedStores [tg] e X.env = pure none := by rfl)
    (h1 : (assignEach [tg] X.env).map (·.2) = [assign tg X.env] := by rfl) : PS X (.Assign [tg] e pos) (tAsg te g) := by
  intro pins s σ H D I h
  refine wpAny_Assign_stores (thn (he pins s σ H _ I h) fun v s1 ⟨x, H1, I1, r1, q1⟩ => ?_) hs hw
  rw [h1]
  exact thn (hg pins s1 σ H1 x v _ I1 r1 q1) fun _ s2 q => q
/-- name = value -/
theorem ps_set {i : Nat} {x : Str} {e : Expr} {te : TE} {pos' : Pos} (hN : X.N.Nodup) (hi : X.N[i]? = some x) (hx : Loc X.env.scope x) (he : PE X e te) (hs : swapsWith e (some (.Name x pos')) pos.line X.env = pure false := by rfl) (hf : X.fn x = true ∨ X.env.scope.names.lookup x = some .local := by first | exact .inl rfl | exact .inr rfl | assumption) :
    PS X (.Assign [.Name x pos'] e pos) (tAsg te (gName i)) := by
  intro pins s σ H D I h
  refine wpAny_Assign_Name (thn (he pins s σ H _ I h) fun v s1 ⟨y, H1, I1, r1, q1⟩ => ?_) hs
  exact store_ok I1 hN hi hx r1 (fun s2 I2 => ⟨_, H1, I2, q1⟩) hf
end

/-! ### while -/
section
variable {X : Cx} {pos : Pos}
end

/-! ### what a loop or a comprehension walks -/
/-- at turn i: it yields x (the heap may grow), or it stops -/
structure It where
  go : Nat → Hp → Prop
  yld : Nat → Hp → V → Hp → Prop
  stop : Nat → Hp → Prop
/-- the iterator's own objects may turn: they are not the frame's, not pinned, younger than the entry (or a comprehension's own) -/
def FpOk (X : Cx) (pins : List (Addr × Obj)) (H : Hp) (b : Addr) : Prop :=
  H b = none ∧ b ≠ X.env.locals ∧ b ∉ X.fs ∧ (b ∈ X.ex ∨ X.s_0.heap.objs.size ≤ b) ∧ (∀ x c, X.env.cells.lookup x = some c → c ≠ b) ∧ ∀ p ∈ X.pn ++ pins, p.1 ≠ b
theorem Inv.fpOk {X : Cx} {pins : List (Addr × Obj)} {σ : St} {H H' : Hp} {s : Shared} {b : Addr} (I : Inv X pins σ H s) (hb : s.heap.objs.size ≤ b) (hn : H' b = none) : FpOk X pins H' b := by
  refine ⟨hn, Nat.ne_of_gt (Nat.lt_of_lt_of_le I.lt hb), I.nofs hb, .inr (Nat.le_trans I.sz hb), fun x c e z => ?_, fun p hp z => ?_⟩
  · obtain ⟨v, q⟩ := I.cell x c e
    exact absurd (Nat.lt_of_lt_of_le q.lt (by rw [z]; exact hb)) (Nat.lt_irrefl _)
  · exact absurd (Nat.lt_of_lt_of_le (Heap.lt_size (I.pin p hp).1) (by rw [z]; exact hb)) (Nat.lt_irrefl _)
structure Turn (P : Program) (w : World) (K : PySem.W.Frag) (tg : Expr) (J : It) (fp : List Addr) (it : Addr) (tn : Nat → Heap → Prop) : Prop where
  mem : it ∈ fp
  obj : ∀ i h, tn i h → ∀ b ∈ fp, ∃ o, h.get? b = some o ∧ ∀ v, o.data ≠ .cell v
  keep : ∀ i h h', tn i h → (∀ b ∈ fp, ∀ o, h.get? b = some o → h'.get? b = some o) → tn i h'
  item : ∀ (X : Cx), X.prog = P → X.w = w → X.K = K → X.calm = true → ∀ (i : Nat) (pins : List (Addr × Obj)) (s : Shared) (σ : St) (H : Hp) (E : Value → Shared → Prop), Inv X pins σ H s → (∀ b ∈ fp, FpOk X pins H b) → tn i s.heap → J.go i H →
    wpAny (model P w) X.A (pyNext (.ref it)) (fun r s1 => ∃ u, r = some u ∧
      wpAny (model P w) X.A (letOwnedTupleGo tg (.ref it) u) (fun _ s2 => ∃ x H', Inv X pins σ H' s2 ∧ RelV x u ∧ J.yld i H x H' ∧ tn (i + 1) s2.heap ∧ ∀ b ∈ fp, H' b = none) E s1) E s
  done : ∀ (X : Cx), X.prog = P → X.w = w → X.K = K → X.calm = true → ∀ (i : Nat) (pins : List (Addr × Obj)) (s : Shared) (σ : St) (H : Hp) (E : Value → Shared → Prop), Inv X pins σ H s → (∀ b ∈ fp, FpOk X pins H b) → tn i s.heap → J.stop i H →
    wpAny (model P w) X.A (pyNext (.ref it)) (fun r s1 => r = none ∧ Inv X pins σ H s1) E s
  self : ∀ (A : Around) (i : Nat) (s : Shared) (Q : Value → Shared → Prop) (E : Value → Shared → Prop), tn i s.heap → Q (.ref it) s → wpAny (model P w) A (pyIter (.ref it)) Q E s
abbrev TI := St → Hp → (It → Hp → Prop) → Prop
/-- an iterator has come -/
def PIE (X : Cx) (pins : List (Addr × Obj)) (σ : St) (tg : Expr) (R : It → Hp → Prop) (itv : Value) (s2 : Shared) : Prop :=
  ∃ (it : Addr) (fp : List Addr) (tn : Nat → Heap → Prop) (J : It) (H' : Hp), itv = .ref it ∧ Inv X pins σ H' s2 ∧ Turn X.prog X.w X.K tg J fp it tn ∧ tn 0 s2.heap ∧ (∀ b ∈ fp, FpOk X pins H' b) ∧ R J H'
def PI (X : Cx) (tg iter : Expr) (wi : TI) : Prop :=
  ∀ (pins : List (Addr × Obj)) (s : Shared) (σ : St) (H : Hp) (R : It → Hp → Prop), Inv X pins σ H s → wi σ H R →
    wpAny (model X.prog X.w) X.A (eval iter X.env) (fun v s1 => wpAny (model X.prog X.w) X.A (pyIter v) (PIE X pins σ tg R) X.xe s1) X.xe s

/-- the step ahead of the store is nothing for an iterator that keeps no tuple -/
theorem go_of {M : Model} {A : Around} {E : Value → Shared → Prop} {s : Shared} {tg : Expr} {it : Addr} {u : Value} {o : Obj} {n : String} {vs : Array Value} {Q : Unit → Shared → Prop} (ho : s.heap.get? it = some o) (hc : o.cls = .type n) (hd : o.data = .fields vs)
    (hn : ["enumerate", "zip", "dict_itemiterator", "dict_reverseitemiterator", "odict_iterator", "itertools.zip_longest", "itertools.pairwise"].contains n = false) (hQ : Q () s) : wpAny M A (letOwnedTupleGo tg (.ref it) u) Q E s := by
  unfold letOwnedTupleGo
  cases tg <;> first
    | exact wpAny_pure hQ
    | (cases u <;> first
        | exact wpAny_pure hQ
        | (refine wpAny_bind (wpAny_load ho ?_)
           rw [hc, hd]
           show wpAny M A (if (["enumerate", "zip", "dict_itemiterator", "dict_reverseitemiterator", "odict_iterator", "itertools.zip_longest", "itertools.pairwise"].contains n && vs[0]? == some (rawInt _)) = true then _ else _) Q E s
           rw [if_neg (by intro h; rw [hn, Bool.false_and] at h; cases h)]
           exact wpAny_pure hQ))

/-- the list at a, as it stands at each turn (a loop may append to it) -/
def Itl (K : PySem.W.Frag) (a : Addr) : It :=
  ⟨fun i H => ∃ xs x, SqL K H a xs ∧ xs[i]? = some x, fun i H x H' => H' = H ∧ ∀ xs, SqL K H a xs → xs[i]? = some x, fun i H => ∃ xs, SqL K H a xs ∧ xs.length ≤ i⟩
def Itt (K : PySem.W.Frag) (a : Addr) : It :=
  ⟨fun i H => ∃ xs x, SqT K H a xs ∧ xs[i]? = some x, fun i H x H' => H' = H ∧ ∀ xs, SqT K H a xs → xs[i]? = some x, fun i H => ∃ xs, SqT K H a xs ∧ xs.length ≤ i⟩
/-- lo, lo + 1, .. (n of them) -/
def Itr (lo : Int) (n : Nat) : It := ⟨fun i _ => i < n, fun i H x H' => H' = H ∧ x = .int (lo + i), fun i _ => n ≤ i⟩
theorem turn_list {P : Program} {w : World} {K : PySem.W.Frag} {tg : Expr} (a it : Addr) : Turn P w K tg (Itl K a) [it] it (fun i h => h.IsListIter it a i) where
  mem := by simp
  obj := fun i h st b hb => by
    have e : b = it := by simpa using hb
    subst e
    obtain ⟨o, e, c, d⟩ := st
    exact ⟨o, e, fun v z => by rw [d] at z; cases z⟩
  keep := fun i h h' st k => st.at fun o e => k it (by simp) o e
  item := by
    intro X hP hw hK hc i pins s σ H E I hf st hg
    subst hP hw hK
    obtain ⟨xs, x, hq, hx⟩ := hg
    obtain ⟨its, rv, p, hz⟩ := I.list hq
    obtain ⟨u, hu, ru⟩ := rv.get hx
    obtain ⟨f0, f1, f2, f3, f4, f5⟩ := hf it (by simp)
    refine wpAny_pyNext_list_item st p.isList (x := u) (by simpa using hu) fun h' st' sb => ?_
    have I1 : Inv X pins σ H { s with heap := h' } := I.turned (t' := s.toks) (fun b o hb e => (sb.2 b hb).trans e) f0 f1 f3 f4 f5
    obtain ⟨o, e, c, d⟩ := id st'
    exact ⟨u, rfl, go_of (s := { s with heap := h' }) e c d (by decide) ⟨x, H, I1, ru, ⟨rfl, fun ys hy => by rw [I.list_inj hy hq]; exact hx⟩, st', fun b hb => (hf b hb).1⟩⟩
  done := by
    intro X hP hw hK hc i pins s σ H E I hf st hg
    subst hP hw hK
    obtain ⟨xs, hq, hx⟩ := hg
    obtain ⟨its, rv, p, hz⟩ := I.list hq
    obtain ⟨f0, f1, f2, f3, f4, f5⟩ := hf it (by simp)
    have hl := rv.length
    exact wpAny_pyNext_list_end (I.ok.hd hc) st p.isList (by simp; omega) fun h' eb => ⟨rfl, I.turned (t' := s.toks) (fun b o hb e => eb b o hb e) f0 f1 f3 f4 f5⟩
  self := fun _ _ _ _ _ st h => wpAny_pyIter_listiter st h
theorem turn_tuple {P : Program} {w : World} {K : PySem.W.Frag} {tg : Expr} (a it : Addr) : Turn P w K tg (Itt K a) [it] it (fun i h => h.IsTupleIter it a i) where
  mem := by simp
  obj := fun i h st b hb => by
    have e : b = it := by simpa using hb
    subst e
    obtain ⟨o, e, c, d⟩ := st
    exact ⟨o, e, fun v z => by rw [d] at z; cases z⟩
  keep := fun i h h' st k => st.at fun o e => k it (by simp) o e
  item := by
    intro X hP hw hK hc i pins s σ H E I hf st hg
    subst hP hw hK
    obtain ⟨xs, x, hq, hx⟩ := hg
    obtain ⟨its, rv, p, hz⟩ := I.tuple hq
    obtain ⟨u, hu, ru⟩ := rv.get hx
    obtain ⟨f0, f1, f2, f3, f4, f5⟩ := hf it (by simp)
    refine wpAny_pyNext_tuple_item st (show s.heap.IsTuple a its.toArray from p) (x := u) (by simpa using hu) fun h' st' sb => ?_
    have I1 : Inv X pins σ H { s with heap := h' } := I.turned (t' := s.toks) (fun b o hb e => (sb.2 b hb).trans e) f0 f1 f3 f4 f5
    obtain ⟨o, e, c, d⟩ := id st'
    exact ⟨u, rfl, go_of (s := { s with heap := h' }) e c d (by decide) ⟨x, H, I1, ru, ⟨rfl, fun ys hy => by rw [I.tuple_inj hy hq]; exact hx⟩, st', fun b hb => (hf b hb).1⟩⟩
  done := by
    intro X hP hw hK hc i pins s σ H E I hf st hg
    subst hP hw hK
    obtain ⟨xs, hq, hx⟩ := hg
    obtain ⟨its, rv, p, hz⟩ := I.tuple hq
    obtain ⟨f0, f1, f2, f3, f4, f5⟩ := hf it (by simp)
    have hl := rv.length
    exact wpAny_pyNext_tuple_end (I.ok.hd hc) st (show s.heap.IsTuple a its.toArray from p) (by simp; omega) fun h' eb => ⟨rfl, I.turned (t' := s.toks) (fun b o hb e => eb b o hb e) f0 f1 f3 f4 f5⟩
  self := fun _ _ _ _ _ st h => wpAny_pyIter_tupleiter st h
theorem turn_range {P : Program} {w : World} {K : PySem.W.Frag} {tg : Expr} (it : Addr) (lo : Int) (n : Nat) : Turn P w K tg (Itr lo n) [it] it (fun i h => IsRangeIter h it (lo + (i : Nat) * 1) ((n : Int) - (i : Nat)) 1) where
  mem := by simp
  obj := fun i h st b hb => by
    have e : b = it := by simpa using hb
    subst e
    exact ⟨_, st, fun v z => by
      have z' : Data.fields _ = Data.cell v := z
      cases z'⟩
  keep := fun i h h' st k => k it (by simp) _ st
  item := by
    intro X hP hw hK hc i pins s σ H E I hf st hg
    subst hP hw hK
    obtain ⟨f0, f1, f2, f3, f4, f5⟩ := hf it (by simp)
    have W := Walks.range (prog := X.prog) (w := X.w) (I.ok.hd hc) it lo 1 n
    refine W.item i s _ _ hg st fun v h' tk hv st' kk => ?_
    obtain ⟨t, rfl⟩ := hv
    have I1 : Inv X pins σ H { s with heap := h', toks := tk } := I.turned (fun b o hb e => kk b o (by simpa using hb) e) f0 f1 f3 f4 f5
    refine ⟨_, rfl, go_of (s := { s with heap := h', toks := tk }) (n := "range_iterator") st' rfl rfl (by decide) ⟨.int (lo + i), H, I1, ⟨t, ?_⟩, ⟨rfl, rfl⟩, st', fun b hb => (hf b hb).1⟩⟩
    rw [Int.mul_one]
  done := by
    intro X hP hw hK hc i pins s σ H E I hf st hg
    subst hP hw hK
    obtain ⟨f0, f1, f2, f3, f4, f5⟩ := hf it (by simp)
    exact wpAny_pyNext_range_end (I.ok.hd hc) st (by have : n ≤ i := hg; omega) fun h' eb => ⟨rfl, I.turned (t' := s.toks) (fun b o hb e => eb b o hb e) f0 f1 f3 f4 f5⟩
  self := fun _ _ _ _ _ st h => wpAny_pyIter_rangeiter st h
end L2

namespace L2
open PySem PySem.Spec PyProof.Rows
section
variable {X : Cx} {tg : Expr}
/-- a range object just made, walked -/
theorem range_it {pins : List (Addr × Obj)} {σ : St} {H : Hp} {s : Shared} {R : It → Hp → Prop} {E : Value → Shared → Prop} {lo hi : Int} {t u v : Tok} {tk : Nat} (I : Inv X pins σ H s) (h1 : -(2 ^ 62) ≤ lo) (h2 : lo < 2 ^ 62) (h3 : -(2 ^ 62) ≤ hi) (h4 : hi < 2 ^ 62)
    (q : R (Itr lo (hi - lo).toNat) H) : wpAny (model X.prog X.w) X.A (pyIter (.ref s.heap.objs.size)) (PIE X pins σ tg R) E { s with heap := s.heap.push { cls := .type "range", data := .fields #[.int lo t, .int hi u, .int 1 v] }, toks := tk } := by
  refine wpAny_pyIter_range (IsRange.new ..) (small_one h1 h2 h3 h4) ?_
  have I1 : Inv X pins σ H { s with heap := s.heap.push { cls := .type "range", data := .fields #[.int lo t, .int hi u, .int 1 v] }, toks := tk } := I.kept fun b o e => Heap.get?_push_of_some _ e
  refine ⟨(s.heap.push { cls := .type "range", data := .fields #[.int lo t, .int hi u, .int 1 v] }).objs.size, [(s.heap.push { cls := .type "range", data := .fields #[.int lo t, .int hi u, .int 1 v] }).objs.size], _, _, H, rfl,
    I1.kept (t' := tk) fun b o e => Heap.get?_push_of_some _ e, turn_range _ lo (hi - lo).toNat, ?_, fun b hb => ?_, q⟩
  · have e1 : lo + ((0 : Nat) : Int) * 1 = lo := by simp
    have e2 : (((hi - lo).toNat : Nat) : Int) - ((0 : Nat) : Int) = Builtin.Range.rangeSize lo hi 1 := by rw [rangeSize_one]; split <;> omega
    show IsRangeIter _ _ (lo + ((0 : Nat) : Int) * 1) ((((hi - lo).toNat : Nat) : Int) - ((0 : Nat) : Int)) 1
    rw [e1, e2]
    exact Heap.get?_push_size _ rfl
  · have e : b = (s.heap.push { cls := .type "range", data := .fields #[.int lo t, .int hi u, .int 1 v] }).objs.size := by simpa using hb
    subst e
    exact I1.fpOk (Nat.le_refl _) (I1.hok.fresh (Nat.le_refl _))
def iRng1 (ta : TA) : TI := fun σ H R => ta σ H fun vs H1 => ∃ j : Int, vs = [.int j] ∧ -(2 ^ 62) ≤ j ∧ j < 2 ^ 62 ∧ R (Itr 0 j.toNat) H1
def iRng2 (ta : TA) : TI := fun σ H R => ta σ H fun vs H1 => ∃ i j : Int, vs = [.int i, .int j] ∧ (-(2 ^ 62) ≤ i ∧ i < 2 ^ 62 ∧ -(2 ^ 62) ≤ j ∧ j < 2 ^ 62) ∧ R (Itr i (j - i).toNat) H1
theorem pi_range1 {a : Expr} {ta : TA} {p pos : Pos} (hg : Gl X "range") (hm : X.mg "range" = none) (ha : PA X [a] ta) (hs : starEach [a] X.env = [(false, eval a X.env)] := by rfl) : PI X tg (.Call (.Name "range" p) [a] [] pos) (iRng1 ta) := by
  intro pins s σ H R I h
  refine Call_ (ld_blt I hg hm boot_range (PyProof.Rows.callWith_type1 (thn (ha pos pins s σ H _ I h) fun us s1 ⟨vs, H1, I1, r1, q1⟩ => ?_) hs rfl))
  obtain ⟨j, e, q1, q2, q⟩ := q1
  subst e
  cases r1 with
  | cons r rr =>
    cases rr
    obtain ⟨t, rfl⟩ := r
    exact call_range_1 (range_it I1 (by omega) (by omega) q1 q2 (by simpa using q))
theorem pi_range2 {a b : Expr} {ta : TA} {p pos : Pos} (hg : Gl X "range") (hm : X.mg "range" = none) (ha : PA X [a, b] ta) (hs : starEach [a, b] X.env = [(false, eval a X.env), (false, eval b X.env)] := by rfl) (hs2 : starEach [b] X.env = [(false, eval b X.env)] := by rfl) :
    PI X tg (.Call (.Name "range" p) [a, b] [] pos) (iRng2 ta) := by
  intro pins s σ H R I h
  refine Call_ (ld_blt I hg hm boot_range (PyProof.Rows.callWith_type1 (thn (ha pos pins s σ H _ I h) fun us s1 ⟨vs, H1, I1, r1, q1⟩ => ?_) (by rw [hs, hs2]) (by rw [hs2]; rfl)))
  obtain ⟨i, j, e, ⟨q1, q2, q3, q4⟩, q⟩ := q1
  subst e
  cases r1 with
  | cons r rr =>
    cases rr with
    | cons r' rr =>
      cases rr
      obtain ⟨t, rfl⟩ := r
      obtain ⟨t', rfl⟩ := r'
      exact call_range_2 (range_it I1 q1 q2 q3 q4 q)

/-! ### for -/
/-- W: the invariant by the turn and a measure; N: what the body is to reach -/
def tFor (wi : TI) (g : TG) (tb : TS) : TS := fun D σ H => wi σ H fun J H1 => ∃ W : Nat → Nat → St → Hp → Prop, (∃ m, W 0 m σ H1) ∧ ∀ i m σ H, W i m σ H →
  (J.stop i H ∧ D.nx σ H) ∨ (J.go i H ∧ ∃ N : St → Hp → Prop, (∀ σ' H', N σ' H' → ∃ m', m' < m ∧ W (i + 1) m' σ' H') ∧ ∀ x H', J.yld i H x H' → g x σ H' fun σ2 H2 => tb { D with nx := N, ct := N, bk := D.nx } σ2 H2)
/-- the records at fp as they stand -/
def pinsAt (fp : List Addr) (h : Heap) : List (Addr × Obj) := fp.filterMap fun b => (h.get? b).map fun o => (b, o)
theorem mem_pinsAt {fp : List Addr} {h : Heap} {b : Addr} {o : Obj} (hb : b ∈ fp) (e : h.get? b = some o) : (b, o) ∈ pinsAt fp h := List.mem_filterMap.mpr ⟨b, hb, by rw [e]; rfl⟩
theorem of_pinsAt {fp : List Addr} {h : Heap} {p : Addr × Obj} (hp : p ∈ pinsAt fp h) : p.1 ∈ fp ∧ h.get? p.1 = some p.2 := by
  obtain ⟨b, hb, e⟩ := List.mem_filterMap.mp hp
  cases q : h.get? b with
  | none => rw [q] at e; cases e
  | some o =>
    rw [q] at e
    have e' : (b, o) = p := Option.some.inj e
    subst e'
    exact ⟨hb, q⟩
theorem Inv.pinned {pins : List (Addr × Obj)} {σ : St} {H : Hp} {s : Shared} {fp : List Addr} (I : Inv X pins σ H s) (hf : ∀ b ∈ fp, FpOk X pins H b) (ho : ∀ b ∈ fp, ∃ o, s.heap.get? b = some o ∧ ∀ v, o.data ≠ .cell v) : Inv X (pins ++ pinsAt fp s.heap) σ H s :=
  I.pins_of fun p hp => (List.mem_append.mp hp).elim (fun z => I.pin p (List.mem_append_right _ z)) fun z => by
    obtain ⟨hb, e⟩ := of_pinsAt z
    obtain ⟨f0, f1, f2, _⟩ := hf p.1 hb
    obtain ⟨o, e', d⟩ := ho p.1 hb
    rw [e] at e'; cases e'
    exact ⟨e, f0, f1, f2, d⟩
theorem Inv.unpinned {pins pl : List (Addr × Obj)} {σ : St} {H : Hp} {s : Shared} (I : Inv X (pins ++ pl) σ H s) : Inv X pins σ H s := I.pins_of fun p hp => I.pin p (List.mem_append_right _ (List.mem_append_left _ hp))
theorem ps_for {iter : Expr} {body : List Stmt} {wi : TI} {g : TG} {tb : TS} {pos : Pos} (hp : PassesOwn (model X.prog X.w) X.A X.env X.xe) (hc : X.calm = true) (hi : PI X tg iter wi) (hg : PG X tg g) (hb : PSs X body tb)
    (hs : ∀ x, foldedSetIterable iter X.env x = pure x := by intro _; rfl) : PS X (.For tg iter body [] pos) (tFor wi g tb) := by
  intro pins s σ H D I h
  refine wpAny_For (thn (hi pins s σ H _ I h) fun v s1 h1 => thn h1 fun itv s2 h2 => ?_) hs
  obtain ⟨it, fp, tn, J, H2, e, I2, T, st2, f2, W, ⟨m0, w0⟩, turn⟩ := h2
  subst e
  -- what stays true of the iterator's objects through the loop
  have stat : ∀ {H' : Hp}, (∀ b ∈ fp, H' b = none) → ∀ b ∈ fp, FpOk X pins H' b := fun hn b hb => ⟨hn b hb, (f2 b hb).2⟩
  refine codeAny_forLoop_any (fun n s' => ∃ i σ' H', Inv X pins σ' H' s' ∧ tn i s'.heap ∧ (∀ b ∈ fp, H' b = none) ∧ W i n σ' H') ?_ m0 ⟨0, σ, H2, I2, st2, fun b hb => (f2 b hb).1, w0⟩
  rintro n s3 ⟨i, σ3, H3, I3, st3, fr3, w3⟩
  rcases turn i n σ3 H3 w3 with ⟨stop, qn⟩ | ⟨go, N, hN, step⟩
  · refine wpAny_passesOwn hp (thn (T.done X rfl rfl rfl hc i pins s3 σ3 H3 X.xe I3 (stat fr3) st3 stop) fun r s4 ⟨hr, I4⟩ => ?_)
    subst hr
    exact wpAny_execs_nil ⟨σ3, H3, I4, qn⟩
  · refine wpAny_passesOwn hp (thn (T.item X rfl rfl rfl hc i pins s3 σ3 H3 X.xe I3 (stat fr3) st3 go) fun r s4 ⟨u, hr, h4⟩ => ?_)
    subst hr
    refine wpAny_passesOwn hp (thn h4 fun _ s5 ⟨x, H5, I5, r5, y5, st5, fr5⟩ => ?_)
    have I5' := I5.pinned (stat fr5) (T.obj _ _ st5)
    refine wpAny_passesOwn hp (thn (hg _ s5 σ3 H5 x u _ I5' r5 (step x H5 y5)) fun _ s6 ⟨σ6, H6, I6, q6⟩ => ?_)
    refine wpAny_passesOwn hp (thn (hb _ s6 σ6 H6 _ I6 q6) fun f s7 q7 => ?_)
    have again : ∀ {σ7 : St} {H7 : Hp}, Inv X (pins ++ pinsAt fp s5.heap) σ7 H7 s7 → N σ7 H7 → ∃ m, m < n ∧ ∃ i σ' H', Inv X pins σ' H' s7 ∧ tn i s7.heap ∧ (∀ b ∈ fp, H' b = none) ∧ W i m σ' H' := fun {σ7 H7} I7 n7 => by
      obtain ⟨m', hm, w7⟩ := hN σ7 H7 n7
      refine ⟨m', hm, i + 1, σ7, H7, I7.unpinned, T.keep _ _ _ st5 fun b hb o e => (I7.pin (b, o) (List.mem_append_right _ (List.mem_append_right _ (mem_pinsAt hb e)))).1, fun b hb => ?_, w7⟩
      obtain ⟨o, e, d⟩ := T.obj _ _ st5 b hb
      exact (I7.pin (b, o) (List.mem_append_right _ (List.mem_append_right _ (mem_pinsAt hb e)))).2.1
    cases f with
    | next => obtain ⟨σ7, H7, I7, n7⟩ := q7; exact again I7 n7
    | cont => obtain ⟨σ7, H7, I7, n7⟩ := q7; exact again I7 n7
    | brk => obtain ⟨σ7, H7, I7, q7⟩ := q7; exact ⟨σ7, H7, I7.unpinned, q7⟩
    | ret v => obtain ⟨x7, σ7, H7, I7, r7, q7⟩ := q7; exact ⟨x7, σ7, H7, I7.unpinned, r7, q7⟩
end

/-! ### the forms one uses -/
end L2

namespace L2
open PySem PySem.Spec PyProof.Rows

abbrev R2 := V → V → Hp → VK → Prop
/-- a two-place operation on values: f is binaryOp op, inplaceOp op or compareOp op -/
def OpR (X : Cx) (f : Value → Value → Sem Value) (r : R2) : Prop :=
  ∀ (pins : List (Addr × Obj)) (s : Shared) (σ : St) (H : Hp) (x y : V) (v u : Value) (Q : VK), Inv X pins σ H s → RelV x v → RelV y u → r x y H Q →
    wpAny (model X.prog X.w) X.A (f v u) (EP X pins σ Q) X.xe s
/-- a one-place operation -/
def UnR (X : Cx) (f : Value → Sem Value) (r : V → Hp → VK → Prop) : Prop :=
  ∀ (pins : List (Addr × Obj)) (s : Shared) (σ : St) (H : Hp) (x : V) (v : Value) (Q : VK), Inv X pins σ H s → RelV x v → r x H Q →
    wpAny (model X.prog X.w) X.A (f v) (EP X pins σ Q) X.xe s
/-- a call of a value that is known (a builtin, a type) with values -/
def CallR (X : Cx) (f : Value) (r : List V → Hp → VK → Prop) : Prop :=
  ∀ (pins : List (Addr × Obj)) (s : Shared) (σ : St) (H : Hp) (xs : List V) (us : List Value) (Q : VK), Inv X pins σ H s → Vals xs us → r xs H Q →
    wpAny (model X.prog X.w) X.A (call f us) (EP X pins σ Q) X.xe s
/-- a value's truth -/
def TruR (X : Cx) (r : V → Hp → (Bool → Hp → Prop) → Prop) : Prop :=
  ∀ (pins : List (Addr × Obj)) (s : Shared) (σ : St) (H : Hp) (x : V) (v : Value) (Q : Bool → Hp → Prop), Inv X pins σ H s → RelV x v → r x H Q →
    wpAny (model X.prog X.w) X.A (truthy v) (TP X pins σ Q) X.xe s

def tOp (r : R2) (ta tb : TE) : TE := fun σ H Q => ta σ H fun x H1 => tb σ H1 fun y H2 => r x y H2 Q
def tUn (r : V → Hp → VK → Prop) (ta : TE) : TE := fun σ H Q => ta σ H fun x H1 => r x H1 Q
/-- ints in, under C, and a value out -/
def rI (C : Int → Int → Prop) (g : Int → Int → V) : R2 := fun x y H Q => ∃ i j, x = .int i ∧ y = .int j ∧ C i j ∧ Q (g i j) H
def rI0 (g : Int → Int → V) : R2 := fun x y H Q => ∃ i j, x = .int i ∧ y = .int j ∧ Q (g i j) H
def rU (g : Int → V) : V → Hp → VK → Prop := fun x H Q => ∃ i, x = .int i ∧ Q (g i) H

section
variable {X : Cx} {a b c : Expr} {ta tb tc : TE} {pos : Pos}

theorem binT (ha : PE X a ta) (hb : PE X b tb) {pins : List (Addr × Obj)} {s : Shared} {σ : St} {H : Hp} {R : V → V → Hp → Prop} (I : Inv X pins σ H s)
    (h : ta σ H fun x H1 => tb σ H1 fun y H2 => R x y H2) {Q : Value → Shared → Prop} {f : Value → Value → Sem Value}
    (hf : ∀ v u s2 x y H2, Inv X pins σ H2 s2 → RelV x v → RelV y u → R x y H2 → wpAny (model X.prog X.w) X.A (f v u) Q X.xe s2) :
    wpAny (model X.prog X.w) X.A (eval a X.env) (fun v s₁ => wpAny (model X.prog X.w) X.A (eval b X.env) (fun u s₂ => wpAny (model X.prog X.w) X.A (f v u) Q X.xe s₂) X.xe s₁) X.xe s := by
  refine thn (ha pins s σ H _ I h) fun v s1 ⟨x, H1, I1, r1, q1⟩ => ?_
  refine thn (hb pins s1 σ H1 _ I1 q1) fun u s2 ⟨y, H2, I2, r2, q2⟩ => ?_
  exact hf v u s2 x y H2 I2 r1 r2 q2

theorem pe_op {op : Operator} {r : R2} (ho : OpR X (binaryOp op) r) (ha : PE X a ta) (hb : PE X b tb) : PE X (.BinOp a op b pos) (tOp r ta tb) := by
  intro pins s σ H Q I h
  exact wpAny_BinOp (binT ha hb I h fun v u s2 x y H2 I2 rx ry q => ho pins s2 σ H2 x y v u Q I2 rx ry q)
theorem pe_un {op : UnaryOp} {r : V → Hp → VK → Prop} (ho : UnR X (unaryOp op) r) (ha : PE X a ta) : PE X (.UnaryOp op a pos) (tUn r ta) := by
  intro pins s σ H Q I h
  exact UnaryOp_ (thn (ha pins s σ H _ I h) fun v s1 ⟨x, H1, I1, r1, q1⟩ => ho pins s1 σ H1 x v Q I1 r1 q1)

/-! ### ints -/
theorem opI {f : Value → Value → Sem Value} {C : Int → Int → Prop} {g : Int → Int → Int}
    (rule : ∀ (i j : Int) (t u : Tok) (s : Shared) (Q : Value → Shared → Prop) (E : Value → Shared → Prop), C i j → Q (.int (g i j) s.toks) { s with toks := s.toks + 1 } → wpAny (model X.prog X.w) X.A (f (.int i t) (.int j u)) Q E s) :
    OpR X f (rI C fun i j => .int (g i j)) := by
  intro pins s σ H x y v u Q I rx ry h
  obtain ⟨i, j, rfl, rfl, hc, q⟩ := h
  obtain ⟨t, rfl⟩ := rx
  obtain ⟨t', rfl⟩ := ry
  exact rule i j t t' s _ _ hc ⟨.int (g i j), H, I.tok _, ⟨_, rfl⟩, q⟩
theorem opI0 {f : Value → Value → Sem Value} {g : Int → Int → Int}
    (rule : ∀ (i j : Int) (t u : Tok) (s : Shared) (Q : Value → Shared → Prop) (E : Value → Shared → Prop), Q (.int (g i j) s.toks) { s with toks := s.toks + 1 } → wpAny (model X.prog X.w) X.A (f (.int i t) (.int j u)) Q E s) :
    OpR X f (rI0 fun i j => .int (g i j)) := by
  intro pins s σ H x y v u Q I rx ry h
  obtain ⟨i, j, rfl, rfl, q⟩ := h
  obtain ⟨t, rfl⟩ := rx
  obtain ⟨t', rfl⟩ := ry
  exact rule i j t t' s _ _ ⟨.int (g i j), H, I.tok _, ⟨_, rfl⟩, q⟩
theorem opB0 {f : Value → Value → Sem Value} {g : Int → Int → Bool}
    (rule : ∀ (i j : Int) (t u : Tok) (s : Shared) (Q : Value → Shared → Prop) (E : Value → Shared → Prop), Q (.bool (g i j)) s → wpAny (model X.prog X.w) X.A (f (.int i t) (.int j u)) Q E s) :
    OpR X f (rI0 fun i j => .bl (g i j)) := by
  intro pins s σ H x y v u Q I rx ry h
  obtain ⟨i, j, rfl, rfl, q⟩ := h
  obtain ⟨t, rfl⟩ := rx
  obtain ⟨t', rfl⟩ := ry
  exact rule i j t t' s _ _ ⟨.bl (g i j), H, I, rfl, q⟩

def CDiv (i j : Int) : Prop := 0 < j ∧ j < 1073741824
def CPow (i j : Int) : Prop := 0 ≤ j ∧ j ≤ 1000000 ∧ i.natAbs < 2 ^ 64
def CMul (i j : Int) : Prop := (-(2 ^ 64) < i ∧ i < 2 ^ 64) ∨ (-(2 ^ 64) < j ∧ j < 2 ^ 64)
theorem CMul.ok {i j : Int} (h : CMul i j) : IntMulOk i j := by
  rcases h with ⟨h1, h2⟩ | ⟨h1, h2⟩
  · exact .of_left (intBits_le_64 h1 h2)
  · exact .of_right (intBits_le_64 h1 h2)

theorem op_add : OpR X (binaryOp .Add) (rI0 fun i j => .int (i + j)) := opI0 fun _ _ _ _ _ _ _ q => add_int q
theorem op_sub : OpR X (binaryOp .Sub) (rI0 fun i j => .int (i - j)) := opI0 fun _ _ _ _ _ _ _ q => sub_int q
theorem op_mul : OpR X (binaryOp .Mult) (rI CMul fun i j => .int (i * j)) := opI fun _ _ _ _ _ _ _ hc q => mul_int q hc.ok
/-- // by a positive divisor -/
theorem op_fdiv : OpR X (binaryOp .FloorDiv) (rI CDiv fun i j => .int (i / j)) := opI fun i j _ _ _ _ _ hc q => by
  have h1 : (0 : Int) < j := hc.1
  have h2 : j < 1073741824 := hc.2
  exact floordiv_int (by omega) (by rw [Int.fdiv_eq_ediv_of_nonneg i (by omega)]; exact q) (.inl (PyProof.noPylong_small (by omega)))
/-- % by a positive divisor of any size -/
theorem op_mod : OpR X (binaryOp .Mod) (rI (fun _ j => 0 < j) fun i j => .int (i % j)) := opI fun i j _ _ _ _ _ hc q => by
  have h1 : (0 : Int) < j := hc
  exact mod_int' (by omega) (by rw [Int.fmod_eq_emod_of_nonneg i (by omega)]; exact q)
theorem op_pow : OpR X (binaryOp .Pow) (rI CPow fun i j => .int (i ^ j.toNat)) := opI fun _ _ _ _ _ _ _ hc q => pow_int_small hc.1 hc.2.1 hc.2.2 q


theorem unI {f : Value → Sem Value} {g : Int → Int}
    (rule : ∀ (i : Int) (t : Tok) (s : Shared) (Q : Value → Shared → Prop) (E : Value → Shared → Prop), Q (.int (g i) s.toks) { s with toks := s.toks + 1 } → wpAny (model X.prog X.w) X.A (f (.int i t)) Q E s) :
    UnR X f (rU fun i => .int (g i)) := by
  intro pins s σ H x v Q I rx h
  obtain ⟨i, rfl, q⟩ := h
  obtain ⟨t, rfl⟩ := rx
  exact rule i t s _ _ ⟨.int (g i), H, I.tok _, ⟨_, rfl⟩, q⟩
theorem un_neg : UnR X (unaryOp .USub) (rU fun i => .int (-i)) := unI fun _ _ _ _ _ q => neg_int q

/-! ### bools among ints: n += (a < b) -/
end

/-! ### comparisons -/


section
variable {X : Cx} {a b c : Expr} {ta tb tc : TE} {pos : Pos}

theorem op_lt : OpR X (compareOp .Lt) (rI0 fun i j => .bl (decide (i < j))) := opB0 fun _ _ _ _ _ _ _ q => lt_int q
theorem op_le : OpR X (compareOp .LtE) (rI0 fun i j => .bl (decide (i ≤ j))) := opB0 fun _ _ _ _ _ _ _ q => le_int q
theorem op_gt : OpR X (compareOp .Gt) (rI0 fun i j => .bl (decide (j < i))) := opB0 fun _ _ _ _ _ _ _ q => gt_int q
theorem op_ge : OpR X (compareOp .GtE) (rI0 fun i j => .bl (decide (j ≤ i))) := opB0 fun _ _ _ _ _ _ _ q => ge_int q




/-- a comparison as a value; hm: nomark b, or (for in, not in) by with_unfolding_all rfl -/
theorem pe_cmpR {op : CmpOp} {r : R2} (ho : OpR X (compareOp op) r) (ha : PE X a ta) (hb : PE X b tb) (hm : behindInMarks op b = false) : PE X (.Compare a [op] [b] pos) (tOp r ta tb) := by
  intro pins s σ H Q I h
  exact wpAny_Compare1 (binT ha hb I h fun v u s2 x y H2 I2 rx ry q => ho pins s2 σ H2 x y v u Q I2 rx ry q) hm
/-- a reading of a value as a test -/
def tTest (t : TE) : TT := fun σ H Q => t σ H fun x H' => ∃ k, x = .bl k ∧ Q k H'
theorem pt_cmpR {op : CmpOp} {r : R2} (ho : OpR X (compareOp op) r) (ha : PE X a ta) (hb : PE X b tb) (hm : behindInMarks op b = false) : PT X (.Compare a [op] [b] pos) (tTest (tOp r ta tb)) := by
  intro pins s σ H Q I h
  refine wpAny_isTrue_Compare1 (thn (ha pins s σ H _ I h) fun v s1 ⟨x, H1, I1, r1, q1⟩ => thn (hb pins s1 σ H1 _ I1 q1) fun u s2 ⟨y, H2, I2, r2, q2⟩ =>
    thn (ho pins s2 σ H2 x y v u _ I2 r1 r2 q2) fun c s3 ⟨z, H3, I3, r3, k, e, q3⟩ => ?_) hm
  subst e
  cases r3
  exact wpAny_truthy_bool ⟨H3, I3, q3⟩
/-- a op1 b op2 c -/
def tChain (r r' : R2) (ta tb tc : TE) : TE := fun σ H Q => ta σ H fun x H1 => tb σ H1 fun y H2 => r x y H2 fun z H3 => ∃ k, z = .bl k ∧
  (if k = true then tc σ H3 fun w' H4 => r' y w' H4 Q else Q (.bl false) H3)
theorem pe_chain {op op' : CmpOp} {r r' : R2} (ho : OpR X (compareOp op) r) (ho' : OpR X (compareOp op') r') (ha : PE X a ta) (hb : PE X b tb) (hc : PE X c tc)
    (hm : lastMarks [op, op'] [b, c] = false := by with_unfolding_all rfl) : PE X (.Compare a [op, op'] [b, c] pos) (tChain r r' ta tb tc) := by
  intro pins s σ H Q I h
  refine Compare_chain (thn (ha pins s σ H _ I h) fun v s1 ⟨x, H1, I1, r1, q1⟩ => chain_link (thn (hb pins s1 σ H1 _ I1 q1) fun u s2 ⟨y, H2, I2, r2, q2⟩ =>
    thn (ho pins s2 σ H2 x y v u _ I2 r1 r2 q2) fun d s3 ⟨z, H3, I3, r3, k, e, q3⟩ => ?_)) hm
  subst e
  cases r3
  refine wpAny_truthy_bool ?_
  cases k with
  | false => exact ite_ff ⟨.bl false, H3, I3, rfl, q3⟩
  | true => exact ite_tt (chain_last (thn (hc pins s3 σ H3 _ I3 q3) fun w' s4 ⟨z', H4, I4, r4, q4⟩ => ho' pins s4 σ H4 y z' u w' Q I4 r2 r4 q4))

/-! ### truth -/
/-- a value's truth by the abstract heap -/
def TruV (K : PySem.W.Frag) (x : V) (H : Hp) (k : Bool) : Prop :=
  match x with
  | .non => k = false
  | .bl b => k = b
  | .int i => k = (i != 0)
  | .str y => y.length ≤ sizeLine ∧ k = ((y.length : Int) != 0)
  | .byt y => y.size ≤ sizeLine ∧ k = ((y.size : Int) != 0)
  | .ref p => (∃ xs, SqL K H p xs ∧ k = !xs.isEmpty) ∨ (∃ xs, SqT K H p xs ∧ k = !xs.isEmpty) ∨ ∃ kvs, H p = some (.dK kvs) ∧ k = !kvs.isEmpty
  | _ => False
theorem isEmpty_kv {κ : Type} {kvs : List (κ × V)} {vs : List (κ × Value)} (r : KV kvs vs) : (!vs.isEmpty) = !kvs.isEmpty := by
  cases r <;> rfl
theorem isEmpty_of {xs : List V} {its : List Value} (r : Vals xs its) : (!its.toArray.isEmpty) = !xs.isEmpty := by
  cases r <;> simp
theorem line63 : (sizeLine : Nat) < 2 ^ 63 := by rw [sizeLine_eq]; decide
theorem tru_ok : TruR X (fun x H Q => ∃ k, TruV X.K x H k ∧ Q k H) := by
  intro pins s σ H x v Q I rx h
  obtain ⟨k, e, q⟩ := h
  have hl := line63
  have hs : sizeLine = 16777216 := sizeLine_eq
  cases x with
  | non =>
    cases rx
    have e' : k = false := e
    subst e'
    exact truthy_none ⟨H, I, q⟩
  | bl b =>
    cases rx
    have e' : k = b := e
    subst e'
    exact wpAny_truthy_bool ⟨H, I, q⟩
  | int i =>
    obtain ⟨t, rfl⟩ := rx
    have e' : k = (i != 0) := e
    subst e'
    exact PySem.P.truthy_int ⟨H, I, q⟩
  | str y =>
    obtain ⟨t, rfl⟩ := rx
    obtain ⟨hy, e'⟩ : y.length ≤ sizeLine ∧ k = ((y.length : Int) != 0) := e
    subst e'
    exact PySem.P.truthy_str (by omega) ⟨H, I.tok _, q⟩
  | byt y =>
    obtain ⟨t, rfl⟩ := rx
    obtain ⟨hy, e'⟩ : y.size ≤ sizeLine ∧ k = ((y.size : Int) != 0) := e
    subst e'
    exact PySem.W.truthy_bytes (by omega) ⟨H, I.tok _, q⟩
  | ref p =>
    cases rx
    have e' : (∃ xs, SqL X.K H p xs ∧ k = !xs.isEmpty) ∨ (∃ xs, SqT X.K H p xs ∧ k = !xs.isEmpty) ∨ ∃ kvs, H p = some (.dK kvs) ∧ k = !kvs.isEmpty := e
    rcases e' with ⟨xs, hx, e'⟩ | ⟨xs, hx, e'⟩ | ⟨kvs, hx, e'⟩
    · subst e'
      obtain ⟨its, r, pl, hz⟩ := I.list hx
      have hlen := r.length
      exact wpAny_truthy_list pl.isList (by simp only [List.size_toArray]; omega) ⟨H, I.tok _, by rw [isEmpty_of r]; exact q⟩
    · subst e'
      obtain ⟨its, r, pl, hz⟩ := I.tuple hx
      have hlen := r.length
      exact truthy_tuple pl (by simp only [List.size_toArray]; omega) ⟨H, I.tok _, by rw [isEmpty_of r]; exact q⟩
    · subst e'
      obtain ⟨hz, hS, vs, r, m⟩ : kvs.length ≤ sizeLine ∧ (p == sysModules) = false ∧ ∃ vs, KV kvs vs ∧ s.heap.DictOf (mixKind X.prog X.w) p vs := I.hok p _ hx
      have hlen : kvs.length = vs.length := Paired.length r
      exact wpAny_truthy_dict hS m (by omega) ⟨H, I.tok _, by rw [isEmpty_kv r]; exact q⟩
  | _ => exact (show False from e).elim
/-- any expression whose test is its value's truth (a name, a call, a subscript, a field ..: he by fun _ => rfl) -/
theorem pt_truth (ha : PE X a ta) (he : ∀ whole, isTrue a X.env whole = (do let v ← whole; standAt a.pos; holding [v] (truthy v))) :
    PT X a (fun σ H Q => ta σ H fun x H' => ∃ k, TruV X.K x H' k ∧ Q k H') := by
  intro pins s σ H Q I h
  exact isTrue_plain (thn (ha pins s σ H _ I h) fun v s1 ⟨x, H1, I1, r1, q1⟩ => tru_ok pins s1 σ H1 x v Q I1 r1 q1) (he _)

/-! ### strs and bytes -/
theorem op_add_str : OpR X (binaryOp .Add) (fun x y H Q => ∃ i j, x = .str i ∧ y = .str j ∧ i.length + j.length ≤ sizeLine ∧ Q (.str (i ++ j)) H) := by
  intro pins s σ H x y v u Q I rx ry h
  obtain ⟨i, j, rfl, rfl, hz, q⟩ := h
  obtain ⟨t, rfl⟩ := rx
  obtain ⟨t', rfl⟩ := ry
  exact add_str (fun t' tk => ⟨.str (i ++ j), H, I.tok _, ⟨_, rfl⟩, q⟩) hz


/-! ### scalar builtins, by CallR -/
theorem vals1 {x : V} {us : List Value} (r : Vals [x] us) : ∃ u, us = [u] ∧ RelV x u := by
  cases r with
  | cons r1 r2 => cases r2; exact ⟨_, rfl, r1⟩
theorem vals2 {x y : V} {us : List Value} (r : Vals [x, y] us) : ∃ u w', us = [u, w'] ∧ RelV x u ∧ RelV y w' := by
  cases r with
  | cons r1 r2 =>
    cases r2 with
    | cons r3 r4 => cases r4; exact ⟨_, _, rfl, r1, r3⟩
theorem call_max2 (hc : X.calm = true) : CallR X (.builtin "max") (fun xs H Q => ∃ i j, xs = [.int i, .int j] ∧ Q (.int (if j > i then j else i)) H) := by
  intro pins s σ H xs us Q I r h
  obtain ⟨i, j, rfl, q⟩ := h
  obtain ⟨u, w', rfl, ⟨t, rfl⟩, ⟨t', rfl⟩⟩ := vals2 r
  refine max_two_ints (I.ok.hd hc) fun h' tk k => ⟨_, H, I.kept k, ?_, q⟩
  by_cases hj : j > i
  · rw [if_pos hj, if_pos hj]; exact ⟨_, rfl⟩
  · rw [if_neg hj, if_neg hj]; exact ⟨_, rfl⟩
theorem call_min2 (hc : X.calm = true) : CallR X (.builtin "min") (fun xs H Q => ∃ i j, xs = [.int i, .int j] ∧ Q (.int (if j < i then j else i)) H) := by
  intro pins s σ H xs us Q I r h
  obtain ⟨i, j, rfl, q⟩ := h
  obtain ⟨u, w', rfl, ⟨t, rfl⟩, ⟨t', rfl⟩⟩ := vals2 r
  refine min_two_ints (I.ok.hd hc) fun h' tk k => ⟨_, H, I.kept k, ?_, q⟩
  by_cases hj : j < i
  · rw [if_pos hj, if_pos hj]; exact ⟨_, rfl⟩
  · rw [if_neg hj, if_neg hj]; exact ⟨_, rfl⟩
theorem call_str_int : CallR X (.type "str") (fun xs H Q => ∃ i, xs = [.int i] ∧ i.natAbs.log2 < 1920 ∧ Q (.str (toString i)) H) := by
  intro pins s σ H xs us Q I r h
  obtain ⟨i, rfl, hz, q⟩ := h
  obtain ⟨u, rfl, t, rfl⟩ := vals1 r
  exact PySem.P.str_of_int hz ⟨.str _, H, I.tok _, ⟨_, rfl⟩, q⟩
end
end L2

namespace L2
open PySem PySem.Spec PyProof.Rows

/-! ### an instance, its attributes a map -/



section
variable {prog : Program} {w : World} {A : Around} {E : Value → Shared → Prop} {s : Shared} {K : PySem.W.Frag} {x dx C f : Addr} {mA : Str → Option Value} {name : Str} {v : Value}





end

/-! ### the attributes as a list of pairs -/


section
variable {P : Program} {w : World} {H H' : Hp} {h h' : Heap} {a C dx : Addr} {fs fs' : List (Str × V)}
end

/-! ### what of the text a class must have -/

section
variable {X : Cx} {pins : List (Addr × Obj)} {σ : St} {H : Hp} {s : Shared} {a C dx : Addr} {fs : List (Str × V)} {f : Str} {v : V} {A : Around} {E : Value → Shared → Prop}






end

/-! ### readings and rules -/

section
variable {X : Cx} {o e value : Expr} {f : Str} {pos pos' tpos : Pos} {ta tv : TE}

end

/-! ### isinstance -/
section
variable {X : Cx} {pins : List (Addr × Obj)} {σ : St} {H : Hp} {s : Shared} {A : Around} {E : Value → Shared → Prop} {Q : Value → Shared → Prop} {c : Value} {b : Bool}
end
end L2

namespace L2
open PySem PySem.Spec PyProof.Rows

/-! ### room -/
structure Room (k : Nat) (A : Around) : Prop where
  hd : A.handled = none
  dp : A.depth + 3 * k + 5 < recursionLimit
  un : A.units + 16 * k + 200 < cLine
  gd : A.guards = some []
theorem Room.mono {j k : Nat} {A : Around} (r : Room k A) (h : j ≤ k) : Room j A := ⟨r.hd, by have := r.dp; omega, by have := r.un; omega, r.gd⟩
theorem Room.deeper {k : Nat} {A : Around} (r : Room (k + 1) A) (env : Env) : Room k (A.deeper env) :=
  ⟨r.hd, by have := r.dp; show A.depth + 1 + 3 * k + 5 < _; omega, by have := r.un; show A.units + 3 + 16 * k + 200 < _; omega, r.gd⟩
theorem Room.depth {k : Nat} {A : Around} (r : Room k A) : A.depth < recursionLimit := by have := r.dp; omega

/-! ### argument lists and displays -/
def tNil : TA := fun _ H Q => Q [] H
def tCons (ta : TE) (tr : TA) : TA := fun σ H Q => ta σ H fun x H1 => tr σ H1 fun xs H2 => Q (x :: xs) H2
section
variable {X : Cx} {e : Expr} {es : List Expr} {te : TE} {t : TA} {pos : Pos}
theorem pa_nil : PA X [] tNil := fun _ _ _ _ H Q I h => Calls.spliced_nil ⟨[], H, I, .nil, h⟩
theorem pa_cons (ha : PE X e te) (hr : PA X es t) (hs : starEach (e :: es) X.env = (false, eval e X.env) :: starEach es X.env := by rfl) : PA X (e :: es) (tCons te t) := by
  intro pos pins s σ H Q I h
  rw [hs]
  show wpAny _ _ (spliced ((false, eval e X.env) :: backTo pos (starEach es X.env))) _ _ s
  refine Calls.spliced_cons (thn (ha pins s σ H _ I h) fun u s1 ⟨x, H1, I1, r1, q1⟩ => ?_)
  exact thn (hr pos pins s1 σ H1 _ I1 q1) fun us s2 ⟨xs, H2, I2, r2, q2⟩ => ⟨x :: xs, H2, I2, .cons r1 r2, q2⟩

/-- a tuple, a list of written items -/
def tTup (t : TA) : TE := fun σ H Q => t σ H fun xs H1 => xs.length ≤ sizeLine ∧ ∀ p, H1 p = none → Q (.ref p) (upd H1 p (.tup xs))
def tLst (t : TA) : TE := fun σ H Q => t σ H fun xs H1 => xs.length ≤ sizeLine ∧ ∀ p, H1 p = none → Q (.ref p) (upd H1 p (.lst xs))
theorem pe_tup {x1} (h : PA X es t) : PE X (.Tuple es x1 pos) (tTup t) := by
  intro pins s σ H Q I hq
  refine wpAny_Tuple_spliced (thn (h pos pins s σ H _ I hq) fun us s1 ⟨xs, H1, I1, r, z, q⟩ => ⟨by rw [← r.length]; exact z, ?_⟩)
  have hf : H1 s1.heap.objs.size = none := I1.hok.fresh (Nat.le_refl _)
  refine ⟨.ref s1.heap.objs.size, upd H1 s1.heap.objs.size (.tup xs), I1.laid (t' := s1.toks) (fun b u e => Heap.get?_push_of_some _ e) (Nat.le_refl _) ?_, rfl, q _ hf⟩
  exact ⟨⟨z, NoD.of (Heap.get?_push_size _ rfl) rfl⟩, us, r, ⟨_, Heap.get?_push_size _ rfl, rfl, _, rfl⟩⟩
theorem pe_lst (h : PA X es t) : PE X (.List es pos) (tLst t) := by
  intro pins s σ H Q I hq
  refine wpAny_List_spliced (thn (h pos pins s σ H _ I hq) fun us s1 ⟨xs, H1, I1, r, z, q⟩ => ⟨by rw [← r.length]; exact z, ?_⟩)
  have hf : H1 s1.heap.objs.size = none := I1.hok.fresh (Nat.le_refl _)
  refine ⟨.ref s1.heap.objs.size, upd H1 s1.heap.objs.size (.lst xs), I1.laid (t' := s1.toks) (fun b u e => Heap.get?_push_of_some _ e) (Nat.le_refl _) ?_, rfl, q _ hf⟩
  exact ⟨z, us, 0, r, Heap.get?_push_size _ rfl⟩
end

/-! ### what a def promises -/
/-- a def's promise: the bound arguments in the parameters' order, the heap, the wanted end, the wanted exception -/
abbrev Sp := List V → Hp → VK → XK → Prop
/-- how an exception lies behind a call (file 08 gives it): the callers' frames, abstract heap and state ahead of the call, the wish, the exception, the state -/
abbrev CXT := List Env → Hp → Shared → XK → Value → Shared → Prop

/-- the state at a call -/
structure Env0 (P : Program) (w : World) (K : PySem.W.Frag) (mg : Str → Option Value) (base : Heap) (A : Around) (outer : List Env) (s : Shared) (H : Hp) : Prop where
  frames : A.frames = some outer
  mod : Mod K mg base
  bs : ∀ b o, base.get? b = some o → s.heap.get? b = some o ∧ H b = none
  bsz : base.objs.size ≤ s.heap.objs.size
  funs : s.heap.FunFrames base outer
  frf : ∀ b ∈ frs outer, H b = none
  hok : HOk P w H s.heap
  bare : AllBare s.gens
/-- a call's end -/
def CE (outer : List Env) (P : Program) (w : World) (H : Hp) (s : Shared) (Q : VK) (u : Value) (s' : Shared) : Prop :=
  ∃ v H', s'.os = s.os ∧ AllBare s'.gens ∧ Un (frs outer) [] H H' s.heap s'.heap ∧ HOk P w H' s'.heap ∧ RelV v u ∧ Q v H'
def CR (CX : CXT) (outer : List Env) (P : Program) (w : World) (H : Hp) (s : Shared) (Q : VK) (E : XK) (r : Result) (s' : Shared) : Prop :=
  match r with
  | .ok (.ret u) => CE outer P w H s Q u s'
  | .ok _ => False
  | .error e => CX outer H s E e s'
structure FnOk (P : Program) (w : World) (K : PySem.W.Frag) (mg : Str → Option Value) (base : Heap) (CX : CXT) (k : Nat) (f : Addr) (fd : FuncData) (ps : List Str) (sp : Sp) : Prop where
  len : ∀ vs H Q E, sp vs H Q E → vs.length = ps.length
  run : ∀ (A : Around) (outer : List Env) (s : Shared) (H : Hp) (args : Args) (us : List Value) (vs : List V) (Q : VK) (E : XK), Room k A → Env0 P w K mg base A outer s H → BindsTo s fd args (ps.zip us) → Vals vs us → sp vs H Q E →
    codeAny (model P w) A (.call (.ref f) args) (CR CX outer P w H s Q E) s


section
variable {X : Cx} {pins : List (Addr × Obj)} {σ : St} {H : Hp} {s s' : Shared}
/-- from a body: what a callee wants -/
theorem Inv.env0 (I : Inv X pins σ H s) : Env0 X.prog X.w X.K X.mg X.base X.A X.stack s H :=
  ⟨I.ok.frames, I.ok.mod, I.bs, Nat.le_trans I.ok.bsz I.sz, I.stack, I.stkFree, I.hok, I.bare⟩
/-- behind a call -/
theorem Inv.after {Q : VK} {u : Value} (I : Inv X pins σ H s) (h : CE X.stack X.prog X.w H s Q u s') : EP X pins σ Q u s' := by
  obtain ⟨v, H', os, bare, un, hok, r, q⟩ := h
  obtain ⟨hh, g, d, t, os'⟩ := s'
  obtain rfl : os' = s.os := os
  exact ⟨v, H', I.call (h' := hh) (g' := g) (d' := d) (t' := t) (ch := []) un hok bare (fun b z => absurd z (by simp)), r, q⟩
end

/-! ### calls -/
/-- f(..): the written arguments, then the defaults dvs; E: what is wanted of an exception -/
def tCall (sp : Sp) (dvs : List V) (E : XK) (t : TA) : TE := fun σ H Q => t σ H fun vs H1 => sp (vs ++ dvs) H1 Q E

/-- how the parameters are bound: us the positional arguments, kw the keywords' values by name, ds the defaults that fill up -/
def Binds (K : PySem.W.Frag) (fd : FuncData) (ps : List Str) (ds : List Value) : Prop :=
  ∀ (s : Shared) (us : List Value), K.In s.heap → (us ++ ds).length = ps.length → BindsTo s fd ⟨us, []⟩ (ps.zip (us ++ ds))
/-- every parameter is given -/
theorem Binds.all {K : PySem.W.Frag} {fd : FuncData} {ps : List Str} (h : ∀ us : List Value, us.length = ps.length → bindArgs fd ⟨us, []⟩ = pure (ps.zip us)) : Binds K fd ps [] := fun s us _ hl => by
  rw [List.append_nil] at hl ⊢
  exact .of_eq (h us hl)

/-- an exception of a callee reaches what this body wants of exceptions -/
def Passes (CX : CXT) (X : Cx) (E : XK) : Prop := ∀ (pins : List (Addr × Obj)) (σ : St) (H : Hp) (s : Shared) (e : Value) (s' : Shared), Inv X pins σ H s → CX X.stack H s E e s' → X.xe e s'

section
variable {X : Cx} {CX : CXT} {k : Nat} {f C : Addr} {fd : FuncData} {ps : List Str} {sp : Sp} {dvs : List V} {ds : List Value} {E : XK} {x m : Str} {p pos apos : Pos} {e o : Expr} {es : List Expr} {ta : TE} {t : TA}

/-- the callee runs -/
theorem run_fn {pins : List (Addr × Obj)} {σ : St} {H : Hp} {s : Shared} {Q : VK} {us : List Value} {vs : List V} (F : FnOk X.prog X.w X.K X.mg X.base CX k f fd ps sp) (hr : Room k X.A) (hb : Binds X.K fd ps ds) (hd : Vals dvs ds) (hx : Passes CX X E)
    (I : Inv X pins σ H s) (r : Vals vs us) (h : sp (vs ++ dvs) H Q E) : wpAny (model X.prog X.w) X.A (call (.ref f) us) (EP X pins σ Q) X.xe s := by
  have r2 : Vals (vs ++ dvs) (us ++ ds) := r.append hd
  have hl : (us ++ ds).length = ps.length := by rw [← r2.length]; exact F.len _ _ _ _ h
  refine wpAny_call (codeAny_mono (F.run X.A X.stack s H ⟨us, []⟩ (us ++ ds) (vs ++ dvs) Q E hr I.env0 (hb s us I.kIn hl) r2 h) fun r s' hq => ?_)
  cases r with
  | error e => exact hx pins σ H s e s' I hq
  | ok fl =>
    cases fl with
    | ret u => exact I.after hq
    | next => exact False.elim hq
    | brk => exact False.elim hq
    | cont => exact False.elim hq

theorem pe_call (F : FnOk X.prog X.w X.K X.mg X.base CX k f fd ps sp) (hr : Room k X.A) (hg : Gl X x) (hm : X.mg x = some (.ref f)) (hk : PySem.W.keepIn X.K (.ref f) = true) (hb : Binds X.K fd ps ds) (hd : Vals dvs ds) (hx : Passes CX X E)
    (ha : PA X (e :: es) t) (hdb : (x == ("__debug__" : Str)) = false := by decide) (he : starEach (e :: es) X.env = (false, eval e X.env) :: starEach es X.env := by rfl) (hpl : (backTo pos (starEach es X.env)).any (·.1) = false := by rfl) :
    PE X (.Call (.Name x p) (e :: es) [] pos) (tCall sp dvs E t) := by
  intro pins s σ H Q I h
  refine wpAny_Call_Name_kw (ld_glob I hg hm ?_ hdb)
  refine PySem.W.callWith_K (h₀ := X.base) I.ok.mod.kin hk (thn (ha pos pins s σ H _ I h) fun us s1 ⟨vs, H1, I1, r, q⟩ => ⟨I1.kIn, ?_⟩) he hpl
  exact run_fn F hr hb hd hx I1 r q



end

/-! ### keywords -/
section
variable {X : Cx} {CX : CXT} {k : Nat} {f C : Addr} {fd : FuncData} {ps ks : List Str} {sp : Sp} {E : XK} {x m : Str} {p pos apos kpos : Pos} {e o : Expr} {es : List Expr} {kws : List Keyword} {te ta : TE} {t tk : TA} {nm : Option Str}

variable {g : List Value → List Value → List Value} {gV : List V → List V → List V}
end

/-! ### a def's body keeps its promise -/
/-- names: the parameters first -/
structure FnScope (N P : List Str) (sc : Scope) : Prop where
  kind : sc.kind = .function
  co : sc.isCoroutine = false
  gen : sc.isGenerator = false
  nd : N.Nodup
  pre : N.take P.length = P
  par : ∀ x ∈ P, sc.names.lookup x = some .local ∨ sc.names.lookup x = some .cell
  nofree : ∀ y ∈ sc.names, y.2 ≠ .free

theorem bindL_out {kindOf : Str → Option NameKind} {x : Str} : ∀ {binds : List (Str × Value)} {m : Str → Option Value}, (∀ v, (x, v) ∉ binds) → bindL kindOf binds m x = m x
  | [], _, _ => rfl
  | (n, v) :: r, m, h => by
    unfold bindL
    rw [bindL_out fun w hw => h w (List.mem_cons_of_mem _ hw)]
    split
    · have : x ≠ n := by rintro rfl; exact h v List.mem_cons_self
      simp [this]
    · rfl
theorem bindC_out {kindOf : Str → Option NameKind} {x : Str} : ∀ {binds : List (Str × Value)} {m : Str → Option Value}, (∀ v, (x, v) ∉ binds) → bindC kindOf binds m x = m x
  | [], _, _ => rfl
  | (n, v) :: r, m, h => by
    unfold bindC
    rw [bindC_out fun w hw => h w (List.mem_cons_of_mem _ hw)]
    split
    · rfl
    · have : x ≠ n := by rintro rfl; exact h v List.mem_cons_self
      simp [this]
theorem bindL_get {kindOf : Str → Option NameKind} {x : Str} {v : Value} : ∀ {P : List Str} {vs : List Value} {i : Nat} {m : Str → Option Value}, P.Nodup → P[i]? = some x → vs[i]? = some v → kindOf x = some .local →
    bindL kindOf (P.zip vs) m x = some v
  | [], _, _, _, _, h, _, _ => by simp at h
  | _ :: _, [], _, _, _, _, h, _ => by simp at h
  | p :: P, w :: vs, 0, m, nd, h1, h2, hk => by
    simp at h1 h2; subst h1; subst h2
    show bindL kindOf ((p, w) :: P.zip vs) m p = _
    unfold bindL
    rw [bindL_out fun v hv => (List.nodup_cons.mp nd).1 (List.of_mem_zip hv).1, if_pos hk]
    simp
  | p :: P, w :: vs, i + 1, m, nd, h1, h2, hk => by
    show bindL kindOf ((p, w) :: P.zip vs) m x = _
    unfold bindL
    exact bindL_get (i := i) (List.nodup_cons.mp nd).2 (by simpa using h1) (by simpa using h2) hk
theorem bindC_get {kindOf : Str → Option NameKind} {x : Str} {v : Value} : ∀ {P : List Str} {vs : List Value} {i : Nat} {m : Str → Option Value}, P.Nodup → P[i]? = some x → vs[i]? = some v → kindOf x ≠ some .local →
    bindC kindOf (P.zip vs) m x = some v
  | [], _, _, _, _, h, _, _ => by simp at h
  | _ :: _, [], _, _, _, _, h, _ => by simp at h
  | p :: P, w :: vs, 0, m, nd, h1, h2, hk => by
    simp at h1 h2; subst h1; subst h2
    show bindC kindOf ((p, w) :: P.zip vs) m p = _
    unfold bindC
    rw [bindC_out fun v hv => (List.nodup_cons.mp nd).1 (List.of_mem_zip hv).1, if_neg hk]
    simp
  | p :: P, w :: vs, i + 1, m, nd, h1, h2, hk => by
    show bindC kindOf ((p, w) :: P.zip vs) m x = _
    unfold bindC
    exact bindC_get (i := i) (List.nodup_cons.mp nd).2 (by simpa using h1) (by simpa using h2) hk

/-- the names' values at the entry -/
def start (N : List Str) (vs : List V) : St := vs.map some ++ List.replicate (N.length - vs.length) none

/-- the context of a def's body, at its entry; an exception leaves the frame, then lies as CX says -/
def cxOf (CX : CXT) (P : Program) (w : World) (K : PySem.W.Frag) (mg : Str → Option Value) (base : Heap) (N : List Str) (qual : Str) (scope : Scope) (f : Addr) (cd : Value) (A : Around) (outer : List Env) (s : Shared) (H : Hp) (E : XK) : Cx where
  prog := P
  w := w
  K := K
  mg := mg
  base := base
  A := A.deeper (envOfC qual scope s.heap.objs.size f cd)
  N := N
  s_0 := s
  H_0 := H
  env := envOfC qual scope s.heap.objs.size f cd
  outer := outer
  stack := envOfC qual scope s.heap.objs.size f cd :: outer
  ex := []
  calm := true
  fn := fun _ => true
  pn := []
  xe := fun e s' => wpAny (model P w) (A.deeper (envOfC qual scope s.heap.objs.size f cd)) (leaving (envOfC qual scope s.heap.objs.size f cd) e) (fun _ s'' => CX outer H s E e s'') (fun e' s'' => CX outer H s E e' s'') s'

theorem cell_has {sc : Scope} {n : Nat} {x : Str} (h : sc.names.lookup x = some .cell) : ∃ c, (cellsFrom n sc.names []).lookup x = some c := by
  have q := PySem.W.cellsFrom_some sc.names n [] (.inl h)
  exact Option.isSome_iff_exists.mp q

theorem inv_start {CX : CXT} {P : Program} {w : World} {K : PySem.W.Frag} {mg : Str → Option Value} {base : Heap} {N ps : List Str} {qual : Str} {scope : Scope} {f : Addr} {cd : Value} {A : Around} {outer : List Env} {s s1 : Shared} {H : Hp} {E : XK} {us : List Value} {vs : List V}
    (S : FnScope N ps scope) (hd : A.handled = none) (e0 : Env0 P w K mg base A outer s H) (hl : vs.length = ps.length) (r : Vals vs us)
    (x : InCallC s s.heap.objs.size (bindL (envOfC qual scope s.heap.objs.size f cd).kindOf (ps.zip us) fun _ => none) (cellsFrom (s.heap.objs.size + 1) scope.names []) (bindC (envOfC qual scope s.heap.objs.size f cd).kindOf (ps.zip us) fun _ => none) s1) :
    Inv (cxOf CX P w K mg base N qual scope f cd A outer s H E) [] (start N vs) H s1 := by
  have hpl : ps.length ≤ N.length := by have := congrArg List.length S.pre; rw [List.length_take] at this; omega
  obtain ⟨h1, tk, rfl, hk⟩ := x.done
  have noA : ∀ b : Addr, b ∉ (cxOf CX P w K mg base N qual scope f cd A outer s H E).ex := fun b z => absurd (show b ∈ ([] : List Addr) from z) (by simp)
  refine ⟨⟨e0.mod, S.kind, rfl, rfl, Nat.le_refl _, fun y z c h1 h2 => ?_, fun y hy => ?_, fun y c _ h => ?_, fun _ => hd, Around.frames_deeper e0.frames, .inr ⟨rfl, rfl⟩, fun b z => absurd z (noA b), e0.bs, e0.bsz, fun b _ _ => noA b, fun b z => absurd z (noA b), e0.funs, e0.frf⟩,
    rfl, e0.bare, Un.kept hk, ⟨_, x.toInCall.ns, fun i y v h1 h2 h3 => ?_⟩, fun y c h => ⟨_, x.cell y c h⟩, e0.hok.fresh (Nat.le_refl _), fun y c h => ?_, fun p hp => absurd (show p ∈ ([] : List (Addr × Obj)) from hp) (by simp), e0.hok.kept hk, ?_⟩
  · exact name_of_addr x.apart (PySem.mem_of_lookup h1) (PySem.mem_of_lookup h2)
  · have hy : scope.names.lookup y = some .cell ∨ scope.names.lookup y = some .free := hy
    rcases hy with hy | hy
    · exact cell_has hy
    · exact absurd rfl (S.nofree _ (PySem.mem_of_lookup hy))
  · exact Nat.le_of_lt (x.above y c (PySem.mem_of_lookup h))
  · have hi : i < vs.length := by
      unfold start at h2
      by_cases hi : i < vs.length
      · exact hi
      · rw [List.getElem?_append_right (by simpa using hi)] at h2
        rw [List.getElem?_replicate] at h2
        split at h2 <;> cases h2
    have ha : vs[i]? = some v := by
      unfold start at h2
      rw [List.getElem?_append_left (by simpa using hi), List.getElem?_map] at h2
      cases e : vs[i]? with
      | none => rw [e] at h2; cases h2
      | some a => rw [e] at h2; cases h2; rfl
    obtain ⟨u, hu, rv⟩ := r.get ha
    have hp : ps[i]? = some y := by
      rw [← S.pre, List.getElem?_take_of_lt (by omega)]; exact h1
    have ndP : ps.Nodup := by rw [← S.pre]; exact S.nd.sublist (List.take_sublist _ _)
    refine ⟨u, rv, ?_⟩
    rcases S.par y (List.mem_of_getElem? hp) with k | k
    · exact .inl ⟨k, bindL_get ndP hp hu k⟩
    · obtain ⟨c, e⟩ := cell_has (n := s.heap.objs.size + 1) k
      refine .inr ⟨.inl k, c, e, ?_⟩
      have q := x.cell y c e
      rw [bindC_get ndP hp hu (by show scope.names.lookup y ≠ _; rw [k]; decide)] at q
      exact q
  · exact e0.hok.fresh (Nat.le_of_lt (x.above y c (PySem.mem_of_lookup h)))
  · unfold start
    show _ = N.length
    rw [List.length_append, List.length_map, List.length_replicate]
    omega

/-- THE RULE: a def (or a method) of the text, by its body. The body's reading t is chosen for each entry; it is run at the parameters' values -/
theorem fn_of {CX : CXT} {P : Program} {w : World} {K : PySem.W.Frag} {mg : Str → Option Value} {base : Heap} {k : Nat} {f : Addr} {name qual : Str} {params : Arguments} {body : List Stmt} {scope : Scope} {dV kV doc pm cdv ct oc : Value} {an od : Option Addr}
    {osl : Array (Option Value)} {N ps : List Str} {sp : Sp} (lk : K.lookup f = some ⟨oc, od, .func (PySem.W.fnOf name qual params body scope dV kV doc pm an cdv ct), osl⟩) (hcd : PySem.W.codeIn K cdv qual = true) (S : FnScope N ps scope)
    (len : ∀ vs H Q E, sp vs H Q E → vs.length = ps.length)
    (hbody : ∀ (A : Around) (outer : List Env) (s : Shared) (H : Hp) (vs : List V) (Q : VK) (E : XK), Room k (A.deeper (envOfC qual scope s.heap.objs.size f cdv)) → sp vs H Q E →
      ∃ t, PSs (cxOf CX P w K mg base N qual scope f cdv A outer s H E) body t ∧ t { nx := fun _ H' => Q .non H', rt := Q } (start N vs) H) :
    FnOk P w K mg base CX (k + 1) f (PySem.W.fnOf name qual params body scope dV kV doc pm an cdv ct) ps sp := by
  refine ⟨len, fun A outer s H args us vs Q E hr e0 hb r hsp => ?_⟩
  have hl := len _ _ _ _ hsp
  have KX : K.In s.heap := e0.mod.kin.keeps fun b o e => (e0.bs b o e).1
  have lim : s.heap.NoLimit := e0.mod.nolimit.keeps fun b o e => (e0.bs b o e).1
  have hkind : ∀ y ∈ ps.zip us, scope.names.lookup y.1 = some .local ∨ (scope.names.lookup y.1 = some .cell ∧ ((cellsFrom (s.heap.objs.size + 1) scope.names []).lookup y.1).isSome = true) := fun ⟨n, v⟩ hy => by
    rcases S.par n (List.of_mem_zip hy).1 with q | q
    · exact .inl q
    · exact .inr ⟨q, PySem.W.cellsFrom_some _ _ _ (.inl q)⟩
  refine codeAny_call_function hr.depth (KX _ _ lk) rfl S.co S.gen rfl (PySem.W.codeRec_of KX hcd) (hb _ _ _ _ ?_)
  refine wpAny_newFunctionEnv_cells S.kind hkind fun env he s1 x => ?_
  subst he
  refine ⟨lim.keeps x.toInCall.keep, codeAny_func ?_⟩
  obtain ⟨t, ht, hq⟩ := hbody A outer s H vs Q E (hr.deeper _) hsp
  have I : Inv (cxOf CX P w K mg base N qual scope f cdv A outer s H E) [] (start N vs) H s1 := inv_start S hr.hd e0 hl r x
  refine wpAny_mono (ht [] s1 (start N vs) H _ I hq) (fun fl s' hs => ?_) fun e s' hs => hs
  have fin : ∀ {σ' : St} {H' : Hp} {v : V} {u : Value}, Inv (cxOf CX P w K mg base N qual scope f cdv A outer s H E) [] σ' H' s' → RelV v u → Q v H' → CE outer P w H s Q u s' :=
    fun {σ' H' v u} J rv q => ⟨v, H', J.os, J.bare, J.base, J.hok, rv, q⟩
  cases fl with
  | ret u =>
    obtain ⟨v, σ', H', J, rv, q⟩ := hs
    exact fin J rv q
  | next =>
    obtain ⟨σ', H', J, q⟩ := hs
    exact fin (v := V.non) (u := Value.none) J rfl q
  | brk =>
    obtain ⟨_, _, _, q⟩ := hs
    exact False.elim q
  | cont =>
    obtain ⟨_, _, _, q⟩ := hs
    exact False.elim q
end L2

namespace L2
open PySem PySem.Spec PyProof.Rows
section
variable {X : Cx} {x : Str} {p pos : Pos} {e : Expr} {es : List Expr} {t : TA} {id T : String} {r : List V → Hp → VK → Prop}

def tCB (r : List V → Hp → VK → Prop) (t : TA) : TE := fun σ H Q => t σ H fun vs H1 => r vs H1 Q
/-- f(e, ..), f a built-in function -/
theorem pe_callB (hc : CallR X (.builtin id) r) (hg : Gl X x) (hm : X.mg x = none) (hv : bootBuiltins x = some (.builtin id)) (ha : PA X (e :: es) t) (hn : x ≠ "__name__" := by decide) (hdb : (x == ("__debug__" : Str)) = false := by decide)
    (he : starEach (e :: es) X.env = (false, eval e X.env) :: starEach es X.env := by rfl) (hpl : (backTo pos (starEach es X.env)).any (·.1) = false := by rfl) : PE X (.Call (.Name x p) (e :: es) [] pos) (tCB r t) := by
  intro pins s σ H Q I h
  refine wpAny_Call_Name_kw (ld_blt I hg hm hv ?_ hn hdb)
  exact PyProof.Rows.callWith_builtin1 (thn (ha pos pins s σ H _ I h) fun us s1 ⟨vs, H1, I1, r1, q1⟩ => hc pins s1 σ H1 vs us Q I1 r1 q1) he hpl
/-- T(e, ..), T a built-in type -/
theorem pe_callTy (hc : CallR X (.type T) r) (hg : Gl X x) (hm : X.mg x = none) (hv : bootBuiltins x = some (.type T)) (ha : PA X (e :: es) t) (hn : x ≠ "__name__" := by decide) (hdb : (x == ("__debug__" : Str)) = false := by decide)
    (he : starEach (e :: es) X.env = (false, eval e X.env) :: starEach es X.env := by rfl) (hpl : (backTo pos (starEach es X.env)).any (·.1) = false := by rfl) : PE X (.Call (.Name x p) (e :: es) [] pos) (tCB r t) := by
  intro pins s σ H Q I h
  refine wpAny_Call_Name_kw (ld_blt I hg hm hv ?_ hn hdb)
  exact PyProof.Rows.callWith_type1 (thn (ha pos pins s σ H _ I h) fun us s1 ⟨vs, H1, I1, r1, q1⟩ => hc pins s1 σ H1 vs us Q I1 r1 q1) he hpl
end
end L2

namespace HT
open PySem PyProof.Rows

/-- t < u of tuples of ints -/
def lexLt : List Int → List Int → Bool
  | [], [] => false
  | [], _ :: _ => true
  | _ :: _, [] => false
  | x :: xs, y :: ys => if x = y then lexLt xs ys else decide (x < y)
theorem lexLt_cons (x y : Int) (xs ys : List Int) : lexLt (x :: xs) (y :: ys) = if x = y then lexLt xs ys else decide (x < y) := rfl
theorem lexLt_nil_nil : lexLt [] [] = false := rfl
theorem lexLt_nil_cons (y : Int) (ys : List Int) : lexLt [] (y :: ys) = true := rfl
theorem lexLt_cons_nil (x : Int) (xs : List Int) : lexLt (x :: xs) [] = false := rfl

theorem eqAt_int (A : Around) (s : Shared) (a : Int) (t : Tok) (c : Int) (u : Tok) : ∃ e, SeqAt.EqAt A s (.int a t) (.int c u) e ∧ (e = true ↔ a = c) :=
  ⟨(a == c), SeqAt.EqAt.int_int a t c u, by simp⟩
theorem rcLt_int (A : Around) (s : Shared) (a : Int) (t : Tok) (c : Int) (u : Tok) (prog : Program) (w : World) (E : Value → Shared → Prop) (Q : Value → Shared → Prop) (h : Q (.bool (decide (a < c))) s) :
    wpAny (model prog w) A (richCompare .Lt (.int a t) (.int c u)) Q E s :=
  (PyProof.Rows.lt_int h : wpAny (model prog w) A (compareOp .Lt (.int a t) (.int c u)) Q E s)

section
open PySem.SeqAt
open PySem.AutoSeq1 (wpAny_loadPart')
open PySem.MeetsSeq PySem.MeetsSeq2 PySem.MeetsSeq3

theorem tuple_lt_ints (l b : Addr) (items items2 : Array Value) (n n2 : Nat) (dd dd2 : Option Addr) (sl sl2 : Array (Option Value)) (ns ms : List Int) (hi : IntsAre items.toList ns) (hj : IntsAre items2.toList ms) :
    Meets (Builtin.«tuple.__lt__» ⟨[.ref l, .ref b], []⟩)
      (fun _ R s => s.heap.get? l = some { cls := .type "tuple", dict := dd, data := .seq items n, slots := sl } ∧ s.heap.get? b = some { cls := .type "tuple", dict := dd2, data := .seq items2 n2, slots := sl2 } ∧
        R (.ok (.ret (.bool (lexLt ns ms)))) s) :=
  .of_wp fun prog w A R s h => by
    obtain ⟨hp, g, d, tk, os⟩ := s; obtain ⟨hl, hb, h⟩ := h
    have f2 := AutoSeq1.sub_tuple_tuple
    have z1 : items.size = ns.length := by rw [← hi.length]; simp
    have z2 : items2.size = ms.length := by rw [← hj.length]; simp
    wp_walk using wpAny_loadPart' hl, wpAny_loadPart' hb, wpAny_forIn_list _ (fun rest b s' => b.1 = none ∧ s' = ⟨hp, g, d, tk, os⟩ ∧ ∃ (vs ws : List Value) (ns' ms' : List Int), rest = vs.zip ws ∧
      IntsAre vs ns' ∧ IntsAre ws ms' ∧ ns'.length + items2.size = ms'.length + items.size ∧ R (.ok (.ret (.bool (lexLt ns' ms')))) ⟨hp, g, d, tk, os⟩) _
    case turn =>
      rintro ⟨y, x⟩ rest b s' ⟨hb', rfl, vs, ws, ns', ms', hz, hvi, hwi, hlen, hR⟩
      cases hvi with
      | nil => rw [List.zip_nil_left] at hz; cases hz
      | cons a t hvi' =>
        cases hwi with
        | nil => rw [List.zip_nil_right] at hz; cases hz
        | cons c u hwi' =>
          rw [List.zip_cons_cons] at hz
          injection hz with hyx hrest
          injection hyx with hy hx
          subst hy hx
          rw [lexLt_cons] at hR
          simp only [List.length_cons] at hlen
          obtain ⟨e, he, hiff⟩ := eqAt_int A.in1 ⟨hp, g, d, tk, os⟩ a t c u
          refine wpAny_bind (he prog w _ _ ?_)
          cases e with
          | true =>
            rw [if_pos (hiff.mp rfl)] at hR
            wp_walk
            exact ⟨rfl, rfl, _, _, _, _, hrest, hvi', hwi', by omega, hR⟩
          | false =>
            rw [if_neg (fun q => absurd (hiff.mpr q) Bool.false_ne_true)] at hR
            have hri := rcLt_int A.in1 ⟨hp, g, d, tk, os⟩ a t c u prog w
            wp_walk using hri
            exact ⟨_, rfl, by simpa using hR⟩
    case fin =>
      rintro ⟨b1, b2⟩ s' ⟨hb', rfl, vs, ws, ns', ms', hz, hvi, hwi, hlen, hR⟩
      simp only at hb'
      subst hb'
      have hv : lexLt ns' ms' = decide (items.size < items2.size) := by
        cases hvi with
        | nil =>
          cases hwi with
          | nil =>
            simp only [List.length_nil] at hlen
            rw [lexLt_nil_nil]
            exact (decide_eq_false (by omega)).symm
          | cons c u hw =>
            simp only [List.length_nil, List.length_cons] at hlen
            rw [lexLt_nil_cons]
            exact (decide_eq_true (by omega)).symm
        | cons a t hv =>
          cases hwi with
          | nil =>
            simp only [List.length_nil, List.length_cons] at hlen
            rw [lexLt_cons_nil]
            exact (decide_eq_false (by omega)).symm
          | cons c u hw =>
            rw [List.zip_cons_cons] at hz
            cases hz
      rw [hv] at hR
      wp_walk
      exact ⟨_, rfl, by simpa [Builtin.Tuple.tupleCompareSizes] using hR⟩
    case h =>
      exact ⟨rfl, rfl, items.toList, items2.toList, ns, ms, rfl, hi, hj, by omega, h⟩
end

section
variable {prog : Program} {w : World} {A : Around} {E : Value → Shared → Prop} {s : Shared}

theorem lt_tupInts {l b : Addr} {items items2 : Array Value} {ns ms : List Int} {Q : Value → Shared → Prop} (hl : IsTup s.heap l items) (hb : IsTup s.heap b items2) (hi : IntsAre items.toList ns) (hj : IntsAre items2.toList ms)
    (hu : A.units < cLine) (h : Q (.bool (lexLt ns ms)) s) : wpAny (model prog w) A (compareOp .Lt (.ref l) (.ref b)) Q E s := by
  obtain ⟨⟨cls, dd, data, sl⟩, ho, hc, n, hd⟩ := id hl
  obtain ⟨⟨cls2, dd2, data2, sl2⟩, ho2, hc2, n2, hd2⟩ := id hb
  simp only at hc hd hc2 hd2
  subst hc hd hc2 hd2
  exact richCompare_meets_room (op := .Lt) ⟨_, ho, rfl⟩ ⟨_, ho2, rfl⟩ PySem.F.slot_tuple_lt PySem.F.entry_tuple_lt (PySem.F.args_tuple_lt_2 _ _) (tuple_lt_ints l b items items2 n n2 dd dd2 sl sl2 ns ms hi hj)
    ⟨ho, ho2, show Value.bool (lexLt ns ms) ≠ Value.notImplemented ∧ Q (.bool (lexLt ns ms)) s from ⟨(fun x => nomatch x), h⟩⟩ hu


/-! ### t[a:b], not the whole -/
/-- a slice's bound as a place among n (d where it is left out) -/
def sIx (n d : Nat) : Option Int → Nat
  | none => d
  | some v => if v < 0 then (v + (n : Int)).toNat else min v.toNat n
theorem sIx_le (n d : Nat) (hd : d ≤ n) (o : Option Int) : sIx n d o ≤ n := by
  cases o with
  | none => exact hd
  | some v =>
    show (if v < 0 then (v + (n : Int)).toNat else min v.toNat n) ≤ n
    by_cases hv : v < 0
    · rw [if_pos hv]; omega
    · rw [if_neg hv]; exact Nat.min_le_right _ _

end
end HT

namespace L2
open PySem PySem.Spec PyProof.Rows

/-! ### the parts of a slice -/
abbrev TO := St → Hp → (Option Int → Hp → Prop) → Prop
/-- a slice's part (left out, or an int) -/
def PO (X : Cx) (e : Option Expr) (t : TO) : Prop :=
  ∀ (pins : List (Addr × Obj)) (s : Shared) (σ : St) (H : Hp) (Q : Option Int → Hp → Prop), Inv X pins σ H s → t σ H Q →
    wpAny (model X.prog X.w) X.A (evalPart e X.env) (fun u s' => ∃ o H', Inv X pins σ H' s' ∧ IsPart u o ∧ Q o H') X.xe s
def tNoPart : TO := fun _ H Q => Q none H
def tPart (t : TE) : TO := fun σ H Q => t σ H fun x H1 => ∃ i, x = .int i ∧ Q (some i) H1

theorem intsAre_of {ns : List Int} : ∀ {us : List Value}, Vals (ns.map V.int) us → IntsAre us ns := by
  induction ns with
  | nil => intro us r; rw [List.map_nil] at r; cases r; exact .nil
  | cons n ns ih =>
    intro us r
    rw [List.map_cons] at r
    cases r with
    | cons r1 r2 =>
      obtain ⟨t, e⟩ := r1
      subst e
      exact .cons n t (ih r2)

section
variable {X : Cx} {e : Expr} {te : TE} {lo hi : Option Expr} {tl th : TO} {pos p2 : Pos}

theorem po_none : PO X none tNoPart := by
  intro pins s σ H Q I h
  rw [evalPart_none]
  exact wpAny_pure ⟨none, H, I, .none, h⟩
theorem po_some (h : PE X e te) : PO X (some e) (tPart te) := by
  intro pins s σ H Q I hw
  rw [evalPart_some]
  refine thn (h pins s σ H _ I hw) fun u s1 ⟨x, H1, I1, r1, q1⟩ => ?_
  obtain ⟨i, rfl, q⟩ := q1
  obtain ⟨t, rfl⟩ := r1
  exact ⟨some i, H1, I1, .int i t, q⟩

/-- what a slice of a value is, by values: the slice object stands at sl -/
def SlR (X : Cx) (r : V → Option Int → Option Int → Hp → VK → Prop) : Prop :=
  ∀ (pins : List (Addr × Obj)) (s : Shared) (σ : St) (H : Hp) (x : V) (v vl vu : Value) (lo hi : Option Int) (sl : Addr) (Q : VK), Inv X pins σ H s → RelV x v → s.heap.IsSliceOf sl vl vu .none → IsPart vl lo → IsPart vu hi → r x lo hi H Q →
    ∃ T id, typeLookup (.type T) "__getitem__" = pure (some (.builtin id)) ∧ s.TypeIs v T ∧ wpAny (model X.prog X.w) X.A (getItem v (.ref sl)) (EP X pins σ Q) X.xe s
def tSl (r : V → Option Int → Option Int → Hp → VK → Prop) (te : TE) (tl th : TO) : TE := fun σ H Q => te σ H fun x H1 => tl σ H1 fun l H2 => th σ H2 fun u H3 => r x l u H3 Q
/-- a[lo:hi], any a -/
theorem pe_slice {r : V → Option Int → Option Int → Hp → VK → Prop} (hr : SlR X r) (he : PE X e te) (hl : PO X lo tl) (hu : PO X hi th) : PE X (.Subscript e (.Slice lo hi none p2) pos) (tSl r te tl th) := by
  intro pins s σ H Q I h
  refine Subscript_ (thn (he pins s σ H _ I h) fun v s1 ⟨x, H1, I1, r1, q1⟩ => ?_)
  refine wpAny_Slice (thn (hl pins s1 σ H1 _ I1 q1) fun vl s2 ⟨l, H2, I2, pl, q2⟩ => thn (hu pins s2 σ H2 _ I2 q2) fun vu s3 ⟨u, H3, I3, pu, q3⟩ => ?_)
  rw [evalPart_none]
  refine wpAny_pure ?_
  have I4 : Inv X pins σ H3 { s3 with heap := s3.heap.push { cls := .type "slice", data := .fields #[vl, vu, .none] } } := I3.kept (t' := s3.toks) fun b ob q => Heap.get?_push_of_some _ q
  obtain ⟨T, id, hT, ht, hg⟩ := hr pins { s3 with heap := s3.heap.push { cls := .type "slice", data := .fields #[vl, vu, .none] } } σ H3 x v vl vu l u s3.heap.objs.size Q I4 r1 (Heap.IsSliceOf.new ..) pl pu q3
  show wpAny (model X.prog X.w) X.A (subscriptTail e (.Slice lo hi none p2) v (.ref s3.heap.objs.size)) (EP X pins σ Q) X.xe { s3 with heap := s3.heap.push { cls := .type "slice", data := .fields #[vl, vu, .none] } }
  exact tail_any (ops := [.ref s3.heap.objs.size, v]) ht hT hg (by with_unfolding_all rfl)


/-! ### t < u, t + u -/
def rLtT (K : PySem.W.Frag) : R2 := fun x y H Q => ∃ a b ns ms, x = .ref a ∧ y = .ref b ∧ SqT K H a (ns.map V.int) ∧ SqT K H b (ms.map V.int) ∧ Q (.bl (HT.lexLt ns ms)) H
theorem op_ltT (hu : X.A.units < cLine) : OpR X (compareOp .Lt) (rLtT X.K) := by
  intro pins s σ H x y v u Q I rx ry h
  obtain ⟨a, b, ns, ms, rfl, rfl, ha, hb, q⟩ := h
  cases rx
  cases ry
  obtain ⟨its, r1, p1, _⟩ := I.tuple ha
  obtain ⟨its2, r2, p2, _⟩ := I.tuple hb
  have i1 : IntsAre its.toArray.toList ns := intsAre_of r1
  have i2 : IntsAre its2.toArray.toList ms := intsAre_of r2
  exact HT.lt_tupInts p1 p2 i1 i2 hu ⟨.bl (HT.lexLt ns ms), H, I, rfl, q⟩
end
end L2

namespace L2
open PySem PySem.Spec PyProof.Rows

/-! ### places -/
/-- the place that an index of any sign means -/
def ixN (n : Nat) (i : Int) : Option Nat := if 0 ≤ i then (if i < n then some i.toNat else none) else if -(n : Int) ≤ i then some (i + n).toNat else none
def atI {α : Type} (xs : List α) (i : Int) : Option α := (ixN xs.length i).bind fun j => xs[j]?
theorem ixN_seq {n : Nat} {i : Int} {j : Nat} (h : ixN n i = some j) : seqIndex? i n = some j ∧ j < n ∧ -(n : Int) ≤ i ∧ i < n := by
  unfold ixN at h
  by_cases h0 : 0 ≤ i
  · rw [if_pos h0] at h
    by_cases h1 : i < n
    · rw [if_pos h1] at h
      have e : i.toNat = j := Option.some.inj h
      exact ⟨by rw [seqIndex_of h0 h1, e], by omega, by omega, h1⟩
    · rw [if_neg h1] at h; cases h
  · rw [if_neg h0] at h
    by_cases h1 : -(n : Int) ≤ i
    · rw [if_pos h1] at h
      have e : (i + n).toNat = j := Option.some.inj h
      exact ⟨by rw [seqIndex_neg (by omega) h1, e], by omega, h1, by omega⟩
    · rw [if_neg h1] at h; cases h
theorem atI_get {α : Type} {xs : List α} {i : Int} {v : α} (h : atI xs i = some v) : ∃ j, seqIndex? i xs.length = some j ∧ xs[j]? = some v ∧ j < xs.length ∧ -(xs.length : Int) ≤ i ∧ i < xs.length := by
  unfold atI at h
  cases e : ixN xs.length i with
  | none => rw [e] at h; cases h
  | some j =>
    rw [e] at h
    obtain ⟨h1, h2, h3, h4⟩ := ixN_seq e
    exact ⟨j, h1, h, h2, h3, h4⟩
theorem atI_nat {α : Type} {xs : List α} {j : Nat} {v : α} (h : xs[j]? = some v) : atI xs (j : Int) = some v := by
  have hj : j < xs.length := (List.getElem?_eq_some_iff.mp h).1
  have e : ixN xs.length (j : Int) = some j := by
    unfold ixN
    rw [if_pos (by omega), if_pos (by omega)]; simp
  unfold atI; rw [e]; exact h

/-! ### what may be subscripted -/
/-- what stands as an index of a plain subscript -/
def PlainIx (b : Expr) : Prop := ∀ o i, subscripted b false o i = operate [o, i] (getItem o i)
/-- a subscript by values -/
def IxR (X : Cx) (r : R2) : Prop :=
  ∀ (value slice : Expr) (pins : List (Addr × Obj)) (s : Shared) (σ : St) (H : Hp) (x y : V) (v u : Value) (Q : VK), Inv X pins σ H s → RelV x v → RelV y u → r x y H Q →
    subscripted slice false v u = operate [v, u] (getItem v u) → wpAny (model X.prog X.w) X.A (subscriptTail value slice v u) (EP X pins σ Q) X.xe s
/-- a call of a builtin's method by values: the receiver, the arguments -/
def MtR (X : Cx) (id : String) (r : V → List V → Hp → VK → Prop) : Prop :=
  ∀ (pins : List (Addr × Obj)) (s : Shared) (σ : St) (H : Hp) (x : V) (xs : List V) (v : Value) (us : List Value) (Q : VK), Inv X pins σ H s → RelV x v → Vals xs us → r x xs H Q →
    wpAny (model X.prog X.w) X.A (call (.builtin id) (v :: us)) (EP X pins σ Q) X.xe s
section
variable {X : Cx} {a b : Expr} {ta tb : TE} {pos : Pos}
theorem IxR.or {r r' : R2} (h : IxR X r) (h' : IxR X r') : IxR X (fun x y H Q => r x y H Q ∨ r' x y H Q) := by
  intro value slice pins s σ H x y v u Q I rx ry q hs
  rcases q with q | q
  · exact h value slice pins s σ H x y v u Q I rx ry q hs
  · exact h' value slice pins s σ H x y v u Q I rx ry q hs
/-- a[b] -/
theorem pe_ix {r : R2} (hr : IxR X r) (ha : PE X a ta) (hb : PE X b tb) (hs : PlainIx b) : PE X (.Subscript a b pos) (tOp r ta tb) := by
  intro pins s σ H Q I h
  exact Subscript_ (binT ha hb I h fun v u s2 x y H2 I2 rx ry q => hr a b pins s2 σ H2 x y v u Q I2 rx ry q (hs _ _))

def rIxL (K : PySem.W.Frag) : R2 := fun x y H Q => ∃ p xs i v, x = .ref p ∧ y = .int i ∧ SqL K H p xs ∧ atI xs i = some v ∧ Q v H
def rIxT (K : PySem.W.Frag) : R2 := fun x y H Q => ∃ p xs i v, x = .ref p ∧ y = .int i ∧ SqT K H p xs ∧ atI xs i = some v ∧ Q v H
def rIxS : R2 := fun x y H Q => ∃ z i c, x = .str z ∧ y = .int i ∧ z.length ≤ sizeLine ∧ atI z.cps.toList i = some c ∧ Q (.str ⟨#[c]⟩) H
theorem ix_list : IxR X (rIxL X.K) := by
  intro value slice pins s σ H x y v u Q I rx ry h hs
  obtain ⟨p, xs, i, z, rfl, rfl, hq, he, q⟩ := h
  cases rx
  obtain ⟨t, rfl⟩ := ry
  obtain ⟨its, r, pl, hz⟩ := I.list hq
  obtain ⟨j, h1, h2, h3, h4, h5⟩ := atI_get he
  obtain ⟨w, ew, rw'⟩ := r.get h2
  have hl := r.length
  have hn := line63
  have fin : EP X pins σ Q w s := ⟨z, H, I, rw', q⟩
  by_cases h0 : 0 ≤ i
  · have hj : i.toNat = j := by
      rw [seqIndex_of h0 h5] at h1
      exact Option.some.inj h1
    exact item_listR pl.isList h0 (by omega) (by rw [hj]; simpa using ew) fin hs
  · have hj : (i + (its.toArray.size : Int)).toNat = j := by
      rw [seqIndex_neg (by omega) h4] at h1
      rw [List.size_toArray, ← hl]
      exact Option.some.inj h1
    exact subscriptTail_builtinR (x := w) pl.isList.typeIs slot_list_getitem.lookup
      (wpAny_getItem_list_neg (Q := fun r s' => r = w ∧ EP X pins σ Q r s') pl.isList (by omega) (by rw [List.size_toArray] <;> omega) (by omega) (by rw [hj]; simpa using ew) ⟨rfl, fin⟩) hs
theorem ix_tup : IxR X (rIxT X.K) := by
  intro value slice pins s σ H x y v u Q I rx ry h hs
  obtain ⟨p, xs, i, z, rfl, rfl, hq, he, q⟩ := h
  cases rx
  obtain ⟨t, rfl⟩ := ry
  obtain ⟨its, r, pl, hz⟩ := I.tuple hq
  obtain ⟨j, h1, h2, h3, h4, h5⟩ := atI_get he
  obtain ⟨w, ew, rw'⟩ := r.get h2
  have hl := r.length
  have hn := line63
  have fin : EP X pins σ Q w s := ⟨z, H, I, rw', q⟩
  exact subscriptTail_builtinR (x := w) pl.typeIs slot_tuple_getitem.lookup
    (getItem_tuple (j := j) (Q := fun r s' => r = w ∧ EP X pins σ Q r s') pl (by omega) (by omega) (by rw [List.size_toArray, ← hl]; exact h1) (by simpa using ew) ⟨rfl, fin⟩) hs
theorem ix_str : IxR X rIxS := by
  intro value slice pins s σ H x y v u Q I rx ry h hs
  obtain ⟨z, i, c, rfl, rfl, hz, he, q⟩ := h
  obtain ⟨t, rfl⟩ := rx
  obtain ⟨t', rfl⟩ := ry
  obtain ⟨j, h1, h2, h3, h4, h5⟩ := atI_get he
  have hl : z.cps.toList.length = z.length := by simp [Str.length]
  rw [hl] at h1 h4 h5
  have hn := line63
  exact tail_any (typeIs_str s z t) slot_str_getitem.lookup (getItem_str (c := c) (by
    have e1 : decide (i < -(2 ^ 63 : Int)) = false := decide_eq_false (by omega)
    have e2 : decide (i ≥ 2 ^ 63) = false := decide_eq_false (by omega)
    rw [e1, e2, Bool.or_false]) (by rw [h1]; simpa using h2) ⟨.str ⟨#[c]⟩, H, I.tok _, ⟨_, rfl⟩, q⟩) hs
/-- list, tuple or str -/
def rIx (K : PySem.W.Frag) : R2 := fun x y H Q => rIxL K x y H Q ∨ rIxT K x y H Q ∨ rIxS x y H Q
theorem ix_seq : IxR X (rIx X.K) := ix_list.or (ix_tup.or ix_str)

/-! ### xs[i] = v, any sign -/
/-- the list's object behind a store -/
theorem mapSeq_set (its : List Value) (n j : Nat) (u : Value) : Obj.mapSeq (·.setIfInBounds j u) { cls := .type "list", data := .seq its.toArray n } = { cls := .type "list", data := .seq (its.set j u).toArray n } := by
  simp [Obj.mapSeq]
theorem Inv.lst {pins : List (Addr × Obj)} {σ : St} {H : Hp} {s : Shared} {p : Addr} {xs : List V} (I : Inv X pins σ H s) (h : H p = some (.lst xs)) :
    ∃ (its : List Value) (n : Nat), Vals xs its ∧ s.heap.get? p = some { cls := .type "list", data := .seq its.toArray n } ∧ xs.length ≤ sizeLine := by
  obtain ⟨z, its, n, r, e⟩ := I.hok p _ h
  exact ⟨its, n, r, e, z⟩
/-- the list at p is written by an update of its object -/
theorem Inv.lstUpd {pins : List (Addr × Obj)} {σ : St} {H : Hp} {s : Shared} {p : Addr} {xs ys : List V} {its its' : List Value} {n n' : Nat} {f : Obj → Obj} (I : Inv X pins σ H s) (h : H p = some (.lst xs))
    (ho : s.heap.get? p = some { cls := .type "list", data := .seq its.toArray n }) (hf : f { cls := .type "list", data := .seq its.toArray n } = { cls := .type "list", data := .seq its'.toArray n' }) (r : Vals ys its') (hz : ys.length ≤ sizeLine) (t : Nat) :
    Inv X pins σ (upd H p (.lst ys)) { s with heap := s.heap.update p f, toks := t } := by
  have e : (s.heap.update p f).get? p = some { cls := .type "list", data := .seq its'.toArray n' } := by
    rw [Heap.get?_update_self f ho (by rw [hf] <;> rfl), hf]
  refine I.write (x := p) (e := p) (by rw [h]; trivial) (.inl rfl) (fun b u hb q => (Heap.get?_update_other _ _ (Ne.symm hb)).trans q) ⟨_, e⟩ ?_
  exact ⟨hz, its', n', r, e⟩
def rSetL : V → V → V → Hp → (Hp → Prop) → Prop := fun o i v H Q => ∃ p xs k j, o = .ref p ∧ i = .int k ∧ H p = some (.lst xs) ∧ ixN xs.length k = some j ∧ Q (upd H p (.lst (xs.set j v)))
theorem set_list : PSet X rSetL := by
  intro pins s σ H o i v ov iv u Q I ro ri rv h
  obtain ⟨p, xs, k, j, rfl, rfl, hp, hj, q⟩ := h
  cases ro
  obtain ⟨t, rfl⟩ := ri
  obtain ⟨its, n, r, ho, hz⟩ := I.lst hp
  obtain ⟨h1, h2, h3, h4⟩ := ixN_seq hj
  have hl := r.length
  have hn := line63
  have I' : Inv X pins σ (upd H p (.lst (xs.set j v))) { s with heap := s.heap.update p (Obj.mapSeq (·.setIfInBounds j u)) } :=
    I.lstUpd hp ho (mapSeq_set its n j u) (r.set rv j) (by rw [List.length_set]; exact hz) s.toks
  by_cases h0 : 0 ≤ k
  · have hk : k.toNat = j := by
      rw [seqIndex_of h0 h4] at h1
      exact Option.some.inj h1
    exact PySem.W.ki_setAt ho h0 (by omega) (by rw [List.size_toArray, ← hl]; exact h4) (by rw [hk]; exact ⟨_, I', q⟩)
  · have hk : (k + (its.toArray.size : Int)).toNat = j := by
      rw [seqIndex_neg (by omega) h3] at h1
      rw [List.size_toArray, ← hl]
      exact Option.some.inj h1
    exact PySem.W.ki_setBack ho (by omega) (by rw [List.size_toArray, ← hl]; exact h3) (by omega) (by rw [hk]; exact ⟨_, I', q⟩)

/-! ### slices -/

/-! ### in, not in: flat items -/

/-! ### len, list(x), tuple(x) of any list or tuple that is read -/
theorem call_len_seq : CallR X (.builtin "len") (fun xs H Q => ∃ p ys, xs = [.ref p] ∧ (SqL X.K H p ys ∨ SqT X.K H p ys) ∧ Q (.int ys.length) H) := by
  intro pins s σ H xs us Q I r h
  obtain ⟨p, ys, rfl, hq, q⟩ := h
  obtain ⟨u, rfl, rx⟩ := vals1 r
  cases rx
  have hn := line63
  rcases hq with hq | hq
  · obtain ⟨its, r', pl, hz⟩ := I.list hq
    have hlen := r'.length
    exact Calls.call_len_list pl.isList (by simp only [List.size_toArray] <;> omega) ⟨.int ys.length, H, I.tok _, ⟨s.toks + 1, by rw [List.size_toArray, hlen]⟩, q⟩
  · obtain ⟨its, r', pl, hz⟩ := I.tuple hq
    have hlen := r'.length
    exact len_tuple pl (by simp only [List.size_toArray] <;> omega) ⟨.int ys.length, H, I.tok _, ⟨s.toks + 1, by rw [List.size_toArray, hlen]⟩, q⟩
theorem call_tuple_of : CallR X (.type "tuple") (fun xs H Q => ∃ p ys, xs = [.ref p] ∧ ((SqL X.K H p ys ∧ ∀ l, H l = none → Q (.ref l) (upd H l (.tup ys))) ∨ (SqT X.K H p ys ∧ Q (.ref p) H))) := by
  intro pins s σ H xs us Q I r h
  obtain ⟨p, ys, rfl, h⟩ := h
  obtain ⟨u, rfl, rx⟩ := vals1 r
  cases rx
  rcases h with ⟨hq, q⟩ | ⟨hq, q⟩
  · obtain ⟨its, r', pl, hz⟩ := I.list hq
    have hlen := r'.length
    refine call_tuple_list pl.isList (fun h' kp => ?_) (by simp only [List.size_toArray] <;> omega)
    have I1 : Inv X pins σ H { s with heap := h' } := I.kept (t' := s.toks) kp
    have I2 : Inv X pins σ (upd H h'.objs.size (.tup ys)) { s with heap := h'.push { cls := .type "tuple", data := .seq its.toArray } } :=
      I1.laid (t' := s.toks) (fun b o e => Heap.get?_push_of_some _ e) (Nat.le_refl _) (show ObjOk X.prog X.w _ _ _ (.tup ys) from ⟨⟨hz, NoD.of (Heap.get?_push_size _ rfl) rfl⟩, its, r', IsTup.new _ _⟩)
    exact ⟨.ref h'.objs.size, _, I2, rfl, q _ (I1.hok.fresh (Nat.le_refl _))⟩
  · obtain ⟨its, r', pl, hz⟩ := I.tuple hq
    exact call_tuple_same pl ⟨.ref p, H, I, rfl, q⟩

/-! ### the call of a builtin's method: o.m(..) -/
/-- the value is of that builtin type -/
def tyV (K : PySem.W.Frag) (T : String) (x : V) (H : Hp) : Prop := match x with
  | .str _ => T = "str"
  | .int _ => T = "int"
  | .ref p => (T = "list" ∧ ∃ xs, SqL K H p xs) ∨ (T = "tuple" ∧ ∃ o, K.lookup p = some o ∧ o.cls = .type "tuple" ∧ o.dict = none) ∨
      (T = "dict" ∧ ((∃ kvs, H p = some (.dK kvs)) ∨ ∃ kvs, H p = some (.dT kvs))) ∨ (T = "set" ∧ ∃ S n, H p = some (.set S n))
  | _ => False
theorem tyV_is {pins : List (Addr × Obj)} {σ : St} {H : Hp} {s : Shared} {T : String} {x : V} {v : Value} (I : Inv X pins σ H s) (r : RelV x v) (ty : tyV X.K T x H) :
    s.TypeIs v T ∧ ∀ a, v = .ref a → ∃ ob, s.heap.get? a = some ob ∧ ob.dict = none := by
  cases x with
  | str z =>
    obtain ⟨t, rfl⟩ := r
    cases (show T = "str" from ty)
    exact ⟨typeIs_str s z t, fun _ e => nomatch e⟩
  | int i =>
    obtain ⟨t, rfl⟩ := r
    cases (show T = "int" from ty)
    exact ⟨typeIs_int s i t, fun _ e => nomatch e⟩
  | ref p =>
    cases r
    rcases ty with ⟨rfl, xs, hq⟩ | ⟨rfl, o, hk, hc, hd⟩ | ⟨rfl, hk⟩ | ⟨rfl, S, n, hk⟩
    · obtain ⟨its, _, pl, _⟩ := I.list hq
      refine ⟨pl.isList.typeIs, fun a e => ?_⟩
      cases e
      obtain ⟨o, n, e, c, hd, _⟩ := pl
      exact ⟨o, e, hd⟩
    · refine ⟨⟨o, I.kIn p o hk, hc⟩, fun a e => ?_⟩
      cases e
      exact ⟨o, I.kIn _ o hk, hd⟩
    · have z : ∃ o, s.heap.get? p = some o ∧ o.ExactDict := by
        rcases hk with ⟨kvs, hk⟩ | ⟨kvs, hk⟩
        · obtain ⟨_, _, _, _, o, _, _, e, ex, _⟩ := I.hok p _ hk
          exact ⟨o, e, ex⟩
        · obtain ⟨_, _, _, _, o, _, _, e, ex, _⟩ := I.hok p _ hk
          exact ⟨o, e, ex⟩
      obtain ⟨o, e, ex⟩ := z
      refine ⟨⟨o, e, ex.1⟩, fun a e2 => ?_⟩
      cases e2
      exact ⟨o, e, ex.2.1⟩
    · obtain ⟨o, _, _, _, e, ex, _⟩ := I.hok p _ hk
      refine ⟨⟨o, e, ex.1⟩, fun a e2 => ?_⟩
      cases e2
      exact ⟨o, e, ex.2.1⟩
  | _ => exact False.elim ty
def tBM (K : PySem.W.Frag) (T : String) (r : V → List V → Hp → VK → Prop) (to : TE) (t : TA) : TE := fun σ H Q => to σ H fun x H1 => tyV K T x H1 ∧ t σ H1 fun xs H2 => r x xs H2 Q
variable {o e : Expr} {es : List Expr} {to : TE} {t : TA} {name : Str} {apos cpos : Pos} {T id : String} {r : V → List V → Hp → VK → Prop}
theorem pe_bm (pa : PlainAttrs T) (slot : Slot T name id) (hty : typeOf (.builtin id) = pure (.type "method_descriptor")) (hm : MtR X id r) (ho : PE X o to) (ha : PA X (e :: es) t)
    (hbase : attributeBase o name X.env (eval o X.env) = eval o X.env := by rfl)
    (hfew : ((backTo cpos (starEach (e :: es) X.env)).all (fun x => !x.1) && (backToKw cpos (keywordEach [] X.env)).all (fun x => x.1.isSome)
      && decide ((e :: es).length + ([] : List Keyword).length + (if ([] : List Keyword).isEmpty then 0 else 1) < 30)) = true := by rfl)
    (hline : (apos.endLine == cpos.line) = true := by rfl) (hs : starEach (e :: es) X.env = (false, eval e X.env) :: starEach es X.env := by rfl) (hplain : (backTo cpos (starEach es X.env)).any (·.1) = false := by rfl) :
    PE X (.Call (.Attribute o name apos) (e :: es) [] cpos) (tBM X.K T r to t) := by
  intro pins s σ H Q I h
  refine wpAny_Call_method_late hbase hfew hline rfl (thn (ho pins s σ H _ I h) fun v s1 ⟨x, H1, I1, r1, ty, q1⟩ => ?_)
  obtain ⟨h1, h2⟩ := tyV_is I1 r1 ty
  refine ⟨T, id, pa, slot, hty, h1, h2, ?_⟩
  have hA := ha cpos pins s1 σ H1 _ I1 q1
  rw [hs] at hA ⊢
  refine Calls.callWith_builtin (by show (false || (backTo cpos (starEach es X.env)).any (·.1)) = false; rw [hplain] <;> rfl) (Calls.evalArgs_plain ?_)
  exact thn hA fun us s2 ⟨vs, H2, I2, r2, q2⟩ => hm pins s2 σ H2 x vs v us Q I2 r1 r2 q2
/- xs.append(e), list.index on a module's tuple .. are MtR facts of 06m -/
end
end L2

namespace L2
open PySem PySem.Spec PyProof.Rows

def MtM (X : Cx) (id : String) (r : V → List V → Hp → VK → Prop) : Prop :=
  ∀ (pins : List (Addr × Obj)) (s : Shared) (σ : St) (H : Hp) (x : V) (xs : List V) (v : Value) (us : List Value) (Q : VK), Inv X pins σ H s → RelV x v → Vals xs us → r x xs H Q →
    wpAny (model X.prog X.w) X.A (call (.builtin id) (v :: us)) (EP X pins σ Q) X.xe s

/-! ### lists of values -/
theorem Vals.one : ∀ {x : V} {us : List Value}, Vals [x] us → ∃ u, us = [u] ∧ RelV x u
  | _, _, .cons r .nil => ⟨_, rfl, r⟩
theorem Vals.two : ∀ {x y : V} {us : List Value}, Vals [x, y] us → ∃ u v, us = [u, v] ∧ RelV x u ∧ RelV y v
  | _, _, _, .cons r (.cons q .nil) => ⟨_, _, rfl, r, q⟩
theorem Vals.eraseIdx : ∀ {xs : List V} {us : List Value} (i : Nat), Vals xs us → Vals (xs.eraseIdx i) (us.eraseIdx i)
  | _, _, _, .nil => .nil
  | _, _, 0, .cons _ t => t
  | _, _, i + 1, .cons r t => .cons r (Vals.eraseIdx i t)
theorem len_erase {α : Type} : ∀ (l : List α) (i : Nat), (l.eraseIdx i).length ≤ l.length
  | [], _ => Nat.le_refl _
  | _ :: _, 0 => Nat.le_succ _
  | _ :: r, i + 1 => Nat.succ_le_succ (len_erase r i)

section
variable {X : Cx} {pins : List (Addr × Obj)} {σ : St} {H : Hp} {s : Shared} {l b : Addr} {xs ys zs : List V}

/-! ### the two steps: a tracked list is rewritten, a new list is laid -/
theorem Inv.lset {its its' : List Value} {n : Nat} {f : Array Value → Array Value} {t' : Nat} (I : Inv X pins σ H s) (hH : H l = some (.lst xs))
    (e : s.heap.get? l = some { cls := .type "list", data := .seq its.toArray n }) (hf : f its.toArray = its'.toArray) (hv : Vals ys its') (hz : ys.length ≤ sizeLine) :
    Inv X pins σ (upd H l (.lst ys)) { s with heap := s.heap.update l (Obj.mapSeq f), toks := t' } := by
  have q := PySem.IsL.update e f
  rw [hf] at q
  refine I.write (x := l) (e := l) (by rw [hH]; exact trivial) (.inl rfl) (fun b' u hb hu => (Heap.get?_update_other s.heap (Obj.mapSeq f) (Ne.symm hb)).trans hu) ⟨_, q⟩ ?_
  exact ⟨hz, its', _, hv, q⟩
theorem Inv.lnew {its : List Value} {t' : Nat} (I : Inv X pins σ H s) (hv : Vals ys its) (hz : ys.length ≤ sizeLine) :
    Inv X pins σ (upd H s.heap.objs.size (.lst ys)) { s with heap := s.heap.push { cls := .type "list", data := .seq its.toArray }, toks := t' } :=
  I.laid (fun _ _ q => Heap.get?_push_of_some _ q) (Nat.le_refl _) ⟨hz, its, 0, hv, Heap.get?_push_size _ rfl⟩
theorem Inv.fresh (I : Inv X pins σ H s) : H s.heap.objs.size = none := I.hok.fresh (Nat.le_refl _)
theorem Inv.lstM (I : Inv X pins σ H s) (hH : H l = some (.lst xs)) : xs.length ≤ sizeLine ∧ ∃ (its : List Value) (n : Nat), Vals xs its ∧ xs.length = its.length ∧ s.heap.get? l = some { cls := .type "list", data := .seq its.toArray n } := by
  obtain ⟨z, its, n, r, e⟩ := I.hok l _ hH
  exact ⟨z, its, n, r, r.length, e⟩

theorem notLongL {n : Nat} (h : n ≤ sizeLine) : Builtin.List.listTooLong n = false := by
  unfold Builtin.List.listTooLong
  exact decide_eq_false (by omega)
end

section
variable {X : Cx}

/-! ### methods -/

def rExtend : V → List V → Hp → VK → Prop := fun x vs H Q => ∃ l b xs zs, x = .ref l ∧ vs = [.ref b] ∧ H l = some (.lst xs) ∧ H b = some (.lst zs) ∧ xs.length + zs.length ≤ sizeLine ∧ Q .non (upd H l (.lst (xs ++ zs)))
theorem mt_extend : MtM X "list.extend" rExtend := by
  intro pins s σ H x vs v us Q I rx rv h
  obtain ⟨l, b, xs, zs, rfl, rfl, hH, hB, hz, q⟩ := h
  cases rx
  obtain ⟨u, rfl, ru⟩ := rv.one
  cases ru
  obtain ⟨z, its, n, r, hl, e⟩ := I.lstM hH
  obtain ⟨z2, its2, n2, r2, hl2, e2⟩ := I.lstM hB
  have hsz : its.toArray.size + its2.toArray.size ≤ sizeLine := by rw [List.size_toArray, List.size_toArray]; omega
  have hlong : ¬ (!its.toArray.isEmpty && Builtin.List.listTooLong (its.toArray.size + its2.toArray.size)) = true := by
    rw [notLongL hsz, Bool.and_false]
    exact Bool.false_ne_true
  refine call_meets F.slot_list_extend ⟨_, e, rfl⟩ F.entry_list_extend (F.args_list_extend_2 _ _)
    (AutoSeq1.list_extend_list_list_0 l its.toArray n b its2.toArray n2 hlong (by rw [List.size_toArray]; omega) (by omega)) ⟨e, e2, ?_⟩
  refine ⟨.non, _, I.lset (its' := its ++ its2) hH e (by simp) (r.append r2) ?_, rfl, q⟩
  rw [List.length_append]
  omega


def rPopAt : V → List V → Hp → VK → Prop := fun x vs H Q => ∃ l xs i k y, x = .ref l ∧ vs = [.int i] ∧ H l = some (.lst xs) ∧ -(2 ^ 63) ≤ i ∧ i < 2 ^ 63 ∧ seqIndex? i xs.length = some k ∧ xs[k]? = some y ∧ Q y (upd H l (.lst (xs.eraseIdx k)))
theorem mt_popAt : MtM X "list.pop" rPopAt := by
  intro pins s σ H x vs v us Q I rx rv h
  obtain ⟨l, xs, i, k, y, rfl, rfl, hH, h1, h2, hk, hy, q⟩ := h
  cases rx
  obtain ⟨u, rfl, ru⟩ := rv.one
  obtain ⟨t, rfl⟩ := ru
  obtain ⟨z, its, n, r, hl, e⟩ := I.lstM hH
  obtain ⟨w, hw, rw'⟩ := r.get hy
  refine call_meets F.slot_list_pop ⟨_, e, rfl⟩ F.entry_list_pop (F.args_list_pop_2 _ _)
    (MeetsSeq.list_pop_at l its.toArray n i t k w (fitsIndex_both h1 h2) (by rw [List.size_toArray, ← hl]; exact hk) (by rw [← Array.getElem?_toList]; exact hw) (by rw [List.size_toArray]; omega)) ⟨e, ?_⟩
  refine ⟨y, _, I.lset (its' := its.eraseIdx k) hH e ?_ (r.eraseIdx k) ?_, rw', q⟩
  · show its.toArray.eraseIdxIfInBounds k = (its.eraseIdx k).toArray
    rw [List.eraseIdxIfInBounds_toArray]
  · have := len_erase xs k
    omega



/-! ### list + list, list += list, list * int -/

/-! ### del xs[i] -/
end

/-! ### xs[a:b] = ys -/
section
variable {prog : Program} {w : World} {A : Around} {E : Value → Shared → Prop} {s : Shared}
set_option maxRecDepth 100000 in
end

section
variable {X : Cx}
end
end L2

namespace L2
open PySem PySem.Spec PyProof.Rows

theorem Vals.bls : ∀ {bs : List Bool} {us : List Value}, Vals (bs.map V.bl) us → us = bs.map Value.bool
  | [], us, h => by
    rw [List.map_nil] at h
    cases h
    rfl
  | b :: bs, us, h => by
    rw [List.map_cons] at h
    cases h with
    | cons r t =>
      cases r
      rw [Vals.bls t, List.map_cons]
theorem Vals.ref1 {a : Addr} {us : List Value} (r : Vals [V.ref a] us) : us = [Value.ref a] := by
  cases r with
  | cons r t =>
    cases t
    cases r
    rfl

/-! ### the library's walks over a list of ints, kept objects alone -/
section
variable {prog : Program} {w : World} {A : Around} {E : Value → Shared → Prop} {s : Shared} {l : Addr} {its : List Value} {ns : List Int} {Q : Value → Shared → Prop}
end

/-! ### the calls, by values (CallR of 03t; MtR of 06l) -/
section
variable {X : Cx}

/-! sorted, sort (fewer than 64 items: the library's own bound) -/
end

/-! ### list.index, flat items -/
section
variable {X : Cx}
end

/-! ### type(x) of an own instance; is, is not of a module's class -/
section
variable {X : Cx}
end

/-! ### any(xs), all(xs) of a list of bools -/
theorem iter_any {prog : Program} {w : World} {A : Around} {E : Value → Shared → Prop} {s : Shared} {l : Addr} {items : Array Value} {Q : Value → Shared → Prop} (hl : s.heap.IsList l items)
    (h : ∀ s₂ : Shared, s₂ = { s with heap := s.heap.push { cls := .type "list_iterator", data := .fields #[.ref l, .int 0 0] } } →
      (s₂.heap.IsListIter s.heap.objs.size l 0 ∧ s₂.heap.IsList l items) → l ≠ s.heap.objs.size → Q (.ref s.heap.objs.size) s₂) : wpAny (model prog w) A (pyIter (.ref l)) Q E s := by
  have hlt : l < s.heap.objs.size := by obtain ⟨_, e, _⟩ := hl; exact Heap.lt_size e
  exact wpAny_pyIter_list hl (h _ rfl ⟨⟨_, Heap.get?_push_size _ rfl, rfl, rfl⟩, hl.push _⟩ (Nat.ne_of_lt hlt))
theorem truth_bools {prog : Program} {w : World} {A : Around} {bs : List Bool} {its : List Value} (e : its = bs.map Value.bool) :
    TruthOf prog w A (fun i v => its.toArray[i]? = some v) (fun i => bs.getD i false) := fun i v s Q E hv hq => by
  have hv' : its[i]? = some v := by simpa using hv
  rw [e, List.getElem?_map] at hv'
  obtain ⟨b, hb, rfl⟩ := Option.map_eq_some_iff.mp hv'
  have hg : bs.getD i false = b := by rw [List.getD_eq_getElem?_getD, hb] <;> rfl
  have hq' : Q (bs.getD i false) s := hq
  rw [hg] at hq'
  exact wpAny_truthy_bool hq'
theorem all_range : ∀ bs : List Bool, (List.range bs.length).all (fun i => bs.getD i false) = bs.all id
  | [] => rfl
  | b :: bs => by
    rw [List.length_cons, List.range_succ_eq_map, List.all_cons, List.all_map, List.all_cons, ← all_range bs]
    all_goals rfl
section
variable {X : Cx}
def rAll (K : PySem.W.Frag) : List V → Hp → VK → Prop := fun vs H Q => ∃ (a : Addr) (bs : List Bool), vs = [V.ref a] ∧ SqL K H a (bs.map V.bl) ∧ Q (.bl (bs.all id)) H
theorem cr_all (hc : X.calm = true) : CallR X (.builtin "all") (rAll X.K) := by
  intro pins s σ H vs us Q I r h
  obtain ⟨a, bs, rfl, hs, q⟩ := h
  obtain ⟨its, rv, hl, _⟩ := I.list hs
  rw [Vals.ref1 r]
  have hb := rv.bls
  refine call_all_walk (iter_any hl.isList fun s₂ e2 st hne => ?_)
  subst e2
  refine ⟨_, _, _, _, _, _, _, rfl, Walks.list (A := X.A.in1) (I.ok.hd hc) _ a hne its.toArray, st, truth_bools hb, fun h' tk hk => ?_⟩
  refine ⟨.bl _, H, I.kept fun b o eo => hk b o (fun hmem => ?_) (Heap.get?_push_of_some _ eo), ?_, q⟩
  · rcases List.mem_cons.mp hmem with e1 | hmem
    · exact absurd (e1 ▸ Heap.lt_size eo) (Nat.lt_irrefl _)
    · cases hmem
  · show Value.bool _ = Value.bool _
    rw [← all_range, hb, List.size_toArray, List.length_map]
end

/-! ### == and != of data at any depth: none, bools, ints, texts, lists, tuples -/
mutual
inductive Dp (K : PySem.W.Frag) (H : Hp) : V → PyData → Prop
  | non : Dp K H .non .none
  | bl (b : Bool) : Dp K H (.bl b) (.bool b)
  | int (i : Int) : Dp K H (.int i) (.int i)
  | str (x : Str) : Dp K H (.str x) (.str x)
  | lst {a : Addr} {xs : List V} {ds : List PyData} : SqL K H a xs → DpAll K H xs ds → Dp K H (.ref a) (.list ds)
  | tup {a : Addr} {xs : List V} {ds : List PyData} : SqT K H a xs → DpAll K H xs ds → Dp K H (.ref a) (.tuple ds)
inductive DpAll (K : PySem.W.Frag) (H : Hp) : List V → List PyData → Prop
  | nil : DpAll K H [] []
  | cons {v : V} {vs : List V} {d : PyData} {ds : List PyData} : Dp K H v d → DpAll K H vs ds → DpAll K H (v :: vs) (d :: ds)
end
section
variable {X : Cx} {pins : List (Addr × Obj)} {σ : St} {H : Hp} {s : Shared}
mutual
theorem Dp.reads (I : Inv X pins σ H s) : ∀ (d : PyData) (v : V) (u : Value), Dp X.K H v d → RelV v u → ∃ as, Reads s.heap u d as
  | .none, _, _, h, r => by
    cases h
    cases r
    exact ⟨_, Reads.none⟩
  | .bool b, _, _, h, r => by
    cases h
    cases r
    exact ⟨_, Reads.bool b⟩
  | .int i, _, _, h, r => by
    cases h
    obtain ⟨t, rfl⟩ := r
    exact ⟨_, Reads.int i t⟩
  | .str x, _, _, h, r => by
    cases h
    obtain ⟨t, rfl⟩ := r
    exact ⟨_, Reads.str x t⟩
  | .list ds, _, _, h, r => by
    cases h with
    | lst hs ha =>
      cases r
      obtain ⟨its, rv, ⟨o, n, ho, hc, _, hd⟩, _⟩ := I.list hs
      obtain ⟨as, hr⟩ := Dp.readsAll I ds _ its ha rv
      exact ⟨_, Reads.list ho hc hd hr⟩
  | .tuple ds, _, _, h, r => by
    cases h with
    | tup hs ha =>
      cases r
      obtain ⟨its, rv, ⟨o, ho, hc, n, hd⟩, _⟩ := I.tuple hs
      obtain ⟨as, hr⟩ := Dp.readsAll I ds _ its ha rv
      exact ⟨_, Reads.tuple ho hc hd hr⟩
  | .dict _, _, _, h, _ => by cases h
theorem Dp.readsAll (I : Inv X pins σ H s) : ∀ (ds : List PyData) (vs : List V) (us : List Value), DpAll X.K H vs ds → Vals vs us → ∃ as, ReadsAll s.heap us ds as
  | [], _, _, h, r => by
    cases h
    cases r
    exact ⟨_, ReadsAll.nil⟩
  | d :: ds, _, _, h, r => by
    cases h with
    | cons h1 h2 =>
      cases r with
      | cons r1 r2 =>
        obtain ⟨as, q1⟩ := Dp.reads I d _ _ h1 r1
        obtain ⟨bs, q2⟩ := Dp.readsAll I ds _ _ h2 r2
        exact ⟨_, ReadsAll.cons q1 q2⟩
end
end
section
variable {X : Cx}
def rEqD (K : PySem.W.Frag) : R2 := fun x y H Q => ∃ d e, Dp K H x d ∧ Dp K H y e ∧ SeqAt.shaped d = true ∧ SeqAt.shaped e = true ∧ Q (.bl (PyData.eqv d e)) H
def rNeD (K : PySem.W.Frag) : R2 := fun x y H Q => ∃ d e, Dp K H x d ∧ Dp K H y e ∧ SeqAt.shaped d = true ∧ SeqAt.shaped e = true ∧ Q (.bl (!PyData.eqv d e)) H
theorem op_eqD (hu : X.A.units + 64 < cLine) : OpR X (compareOp .Eq) (rEqD X.K) := by
  intro pins s σ H x y v u Q I rx ry h
  obtain ⟨d, e, hd, he, sd, se, q⟩ := h
  obtain ⟨as, r1⟩ := Dp.reads I d x v hd rx
  obtain ⟨bs, r2⟩ := Dp.reads I e y u he ry
  exact SeqAt.compareEq_shaped r1 r2 sd se hu ⟨.bl _, H, I, rfl, q⟩
theorem op_neD (hu : X.A.units + 64 < cLine) : OpR X (compareOp .NotEq) (rNeD X.K) := by
  intro pins s σ H x y v u Q I rx ry h
  obtain ⟨d, e, hd, he, sd, se, q⟩ := h
  obtain ⟨as, r1⟩ := Dp.reads I d x v hd rx
  obtain ⟨bs, r2⟩ := Dp.reads I e y u he ry
  exact SeqAt.compareNe_shaped r1 r2 sd se hu ⟨.bl _, H, I, rfl, q⟩
end
end L2

namespace L2
open PySem PySem.Spec PyProof.Rows
abbrev CellAt (h : Heap) (c : Addr) (v : Option Value) : Prop := h.IsCell c v
def relS (scope sc : Scope) : Scope :=
  { scope with names := scope.names.map fun (n, k) => if (k == .free && sc.kind == .function && sc.names.lookup n == some .cell) then (n, .cell) else (n, k) }

def cloFrom (cells : List (Str × Addr)) : List (Str × NameKind) → List (Str × Addr) → List (Str × Addr)
  | [], acc => acc
  | (n, k) :: r, acc => if k == .free then cloFrom cells r ((n, (cells.lookup n).getD 0) :: acc) else cloFrom cells r acc

theorem closure_loop (env : Env) (f : Str × NameKind → List (Str × Addr) → Sem (ForInStep (List (Str × Addr))))
    (hf : ∀ n k c, f (n, k) c = if k == .free then (do let a ← cellOf env n; pure (.yield ((n, a) :: c))) else pure (.yield c)) :
    ∀ (names : List (Str × NameKind)) (acc : List (Str × Addr)), (∀ y ∈ names, y.2 = .free → ∃ c, env.cells.lookup y.1 = some c) → forIn names acc f = pure (cloFrom env.cells names acc)
  | [], acc, _ => by rw [List.forIn_nil]; rfl
  | (n, k) :: r, acc, h => by
    rw [List.forIn_cons, hf]
    have ih := fun acc => closure_loop env f hf r acc fun y hy => h y (List.mem_cons_of_mem _ hy)
    unfold cloFrom
    by_cases hk : (k == NameKind.free) = true
    · rw [if_pos hk, if_pos hk]
      obtain ⟨c, hc⟩ := h (n, k) List.mem_cons_self (by simpa using hk)
      have e : cellOf env n = pure c := by unfold cellOf; rw [hc]
      rw [e]
      have e2 : (env.cells.lookup n).getD 0 = c := by rw [hc]; rfl
      rw [e2]
      exact ih _
    · rw [if_neg hk, if_neg hk]
      exact ih _
theorem closure_ok {scope : Scope} {env : Env} (h : ∀ y ∈ scope.names, y.2 = .free → ∃ c, env.cells.lookup y.1 = some c) : closureFor scope env = pure (cloFrom env.cells scope.names []) := by
  simp only [closureFor]
  rw [closure_loop env _ (fun n k c => rfl) scope.names [] h]
  rfl

theorem mem_lookup {α : Type} : ∀ {l : List (Str × α)} {n : Str} {c : α}, (n, c) ∈ l → ∃ c', l.lookup n = some c'
  | (k, v) :: r, n, c, h => by
    rw [List.lookup_cons]
    cases hb : n == k with
    | true => exact ⟨_, rfl⟩
    | false =>
      rcases List.mem_cons.mp h with e | h
      · cases e; simp at hb
      · exact mem_lookup h

theorem cloFrom_mem {cells : List (Str × Addr)} : ∀ {names : List (Str × NameKind)} {acc : List (Str × Addr)} {n : Str} {c : Addr}, (n, c) ∈ cloFrom cells names acc → (n, c) ∈ acc ∨ ((n, .free) ∈ names ∧ c = (cells.lookup n).getD 0)
  | [], _, _, _, h => .inl h
  | (m, k) :: r, acc, n, c, h => by
    unfold cloFrom at h
    split at h
    · rename_i hk
      have hk : k = .free := by simpa using hk
      rcases cloFrom_mem h with h | ⟨h1, h2⟩
      · rcases List.mem_cons.mp h with e | h
        · cases e; exact .inr ⟨hk ▸ List.mem_cons_self, rfl⟩
        · exact .inl h
      · exact .inr ⟨List.mem_cons_of_mem _ h1, h2⟩
    · rcases cloFrom_mem h with h | ⟨h1, h2⟩
      · exact .inl h
      · exact .inr ⟨List.mem_cons_of_mem _ h1, h2⟩
theorem cloFrom_acc {cells : List (Str × Addr)} : ∀ {names : List (Str × NameKind)} {acc : List (Str × Addr)} {p : Str × Addr}, p ∈ acc → p ∈ cloFrom cells names acc
  | [], _, _, h => h
  | (m, k) :: r, acc, p, h => by
    unfold cloFrom
    split
    · exact cloFrom_acc (List.mem_cons_of_mem _ h)
    · exact cloFrom_acc h
theorem cloFrom_has {cells : List (Str × Addr)} : ∀ {names : List (Str × NameKind)} {acc : List (Str × Addr)} {n : Str}, (n, .free) ∈ names → (n, (cells.lookup n).getD 0) ∈ cloFrom cells names acc
  | (m, k) :: r, acc, n, h => by
    unfold cloFrom
    rcases List.mem_cons.mp h with e | h
    · cases e
      exact cloFrom_acc List.mem_cons_self
    · split
      · exact cloFrom_has h
      · exact cloFrom_has h

theorem cells_mem : ∀ {names : List (Str × NameKind)} {h : Heap} {acc : List (Str × Addr)} {x : Str} {c : Addr}, (x, c) ∈ cellsFrom h.objs.size names acc →
    (x, c) ∈ acc ∨ ((x, .cell) ∈ names ∧ h.objs.size ≤ c ∧ CellAt (pushCells h names) c none)
  | [], _, _, _, _, h => .inl h
  | (n, k) :: r, h, acc, x, c, hm => by
    unfold cellsFrom at hm
    unfold pushCells
    split at hm
    · rename_i hk
      rw [if_pos hk]
      have hk : k = .cell := by simpa using hk
      rw [← Heap.size_push h { cls := .type "cell", data := .cell none }] at hm
      rcases cells_mem hm with hm | ⟨h1, h2, h3⟩
      · rcases List.mem_cons.mp hm with e | hm
        · cases e
          exact .inr ⟨hk ▸ List.mem_cons_self, Nat.le_refl _, _, pushCells_keeps r _ _ _ (Heap.get?_push_size _ rfl), rfl⟩
        · exact .inl hm
      · rw [Heap.size_push] at h2
        exact .inr ⟨List.mem_cons_of_mem _ h1, Nat.le_of_succ_le h2, h3⟩
    · rename_i hk
      rw [if_neg hk]
      rcases cells_mem hm with hm | ⟨h1, h2, h3⟩
      · exact .inl hm
      · exact .inr ⟨List.mem_cons_of_mem _ h1, h2, h3⟩
theorem cells_acc : ∀ {names : List (Str × NameKind)} {n : Nat} {acc : List (Str × Addr)} {p : Str × Addr}, p ∈ acc → p ∈ cellsFrom n names acc
  | [], _, _, _, h => h
  | (m, k) :: r, n, acc, p, h => by
    unfold cellsFrom
    split
    · exact cells_acc (List.mem_cons_of_mem _ h)
    · exact cells_acc h
theorem cells_has : ∀ {names : List (Str × NameKind)} {n : Nat} {acc : List (Str × Addr)} {x : Str}, (x, .cell) ∈ names → ∃ c, (x, c) ∈ cellsFrom n names acc
  | (m, k) :: r, n, acc, x, h => by
    unfold cellsFrom
    rcases List.mem_cons.mp h with e | h
    · cases e
      exact ⟨n, cells_acc List.mem_cons_self⟩
    · split
      · exact cells_has h
      · exact cells_has h
theorem cells_inj : ∀ {names : List (Str × NameKind)} {h : Heap} {acc : List (Str × Addr)} {x y : Str} {c : Addr}, (∀ p ∈ acc, p.2 < h.objs.size) → (∀ x y c, (x, c) ∈ acc → (y, c) ∈ acc → x = y) →
    (x, c) ∈ cellsFrom h.objs.size names acc → (y, c) ∈ cellsFrom h.objs.size names acc → x = y
  | [], _, _, _, _, _, _, hi, h1, h2 => hi _ _ _ h1 h2
  | (n, k) :: r, h, acc, x, y, c, hl, hi, h1, h2 => by
    unfold cellsFrom at h1 h2
    split at h1
    · rename_i hk
      rw [if_pos hk] at h2
      rw [← Heap.size_push h { cls := .type "cell", data := .cell none }] at h1 h2
      refine cells_inj (h := h.push _) (fun p hp => ?_) (fun x y c a b => ?_) h1 h2
      · rw [Heap.size_push]
        rcases List.mem_cons.mp hp with rfl | hp
        · exact Nat.lt_succ_self _
        · exact Nat.lt_succ_of_lt (hl p hp)
      · rcases List.mem_cons.mp a with e | a <;> rcases List.mem_cons.mp b with e' | b
        · cases e; cases e'; rfl
        · cases e; exact absurd (hl _ b) (Nat.lt_irrefl _)
        · cases e'; exact absurd (hl _ a) (Nat.lt_irrefl _)
        · exact hi _ _ _ a b
    · rename_i hk
      rw [if_neg hk] at h2
      exact cells_inj hl hi h1 h2

theorem newEnv_comp {M : Model} {A : Around} {E : Value → Shared → Prop} {s : Shared} {scope : Scope} {globals : Addr} {closure : List (Str × Addr)} {qual : Str} {func : Option Addr} {code : Value} {around : Env} {builtins : Addr} {Q : Env → Shared → Prop}
    (h : Q (newEnv scope s.heap.objs.size globals (cellsFrom (s.heap.objs.size + 1) scope.names closure) qual func code (some around) builtins)
      { s with heap := pushCells (s.heap.push { cls := .type "dict", data := .dict #[] }) scope.names }) :
    wpAny M A (newFunctionEnv scope globals closure [] qual func code (some around) builtins) Q E s := by
  simp only [newFunctionEnv, Option.isSome_some, if_true]
  refine wpAny_bind (wpAny_alloc ?_)
  refine wpAny_bind (wpAny_layCells _ (fun n k c => rfl) scope.names closure _ _ ?_)
  rw [show ({ s with heap := s.heap.push { cls := .type "dict", data := .dict #[] } } : Shared).heap.objs.size = s.heap.objs.size + 1 from Heap.size_push ..]
  rw [List.forIn_nil]
  exact wpAny_bind (wpAny_pure (wpAny_pure h))

/-- every name of the written scope, in the scope that runs -/
theorem lookup_relS {sc : Scope} : ∀ {names : List (Str × NameKind)} {x : Str} {k : NameKind},
    (names.map fun (n, k) => if (k == NameKind.free && sc.kind == .function && sc.names.lookup n == some .cell) then (n, NameKind.cell) else (n, k)).lookup x = some k →
    ∃ k', names.lookup x = some k' ∧ (k = k' ∨ (k' = .free ∧ k = .cell))
  | [], _, _, h => by simp at h
  | (n, k₀) :: r, x, k, h => by
    have ih := @lookup_relS sc r x k
    have h' : List.lookup x ((if (k₀ == NameKind.free && sc.kind == .function && sc.names.lookup n == some .cell) = true then (n, NameKind.cell) else (n, k₀)) :: (r.map _)) = some k := h
    cases hx : x == n with
    | true =>
      simp only [List.lookup_cons, hx]
      by_cases hc : (k₀ == NameKind.free && sc.kind == .function && sc.names.lookup n == some .cell) = true
      · rw [if_pos hc] at h'
        simp only [List.lookup_cons, hx] at h'
        cases h'
        simp only [Bool.and_eq_true, beq_iff_eq] at hc
        exact ⟨k₀, rfl, .inr ⟨hc.1.1, rfl⟩⟩
      · rw [if_neg hc] at h'
        simp only [List.lookup_cons, hx] at h'
        cases h'
        exact ⟨_, rfl, .inl rfl⟩
    | false =>
      simp only [List.lookup_cons, hx]
      by_cases hc : (k₀ == NameKind.free && sc.kind == .function && sc.names.lookup n == some .cell) = true
      · rw [if_pos hc] at h'
        simp only [List.lookup_cons, hx] at h'
        exact ih h'
      · rw [if_neg hc] at h'
        simp only [List.lookup_cons, hx] at h'
        exact ih h'



/-- the names of a comprehension's block: its own (with their places in N), or captured -/
structure BlkOk (N : List Str) (sc scope : Scope) (own : List (Str × Nat)) : Prop where
  kind : scope.kind = .function
  uniq : ∀ y ∈ scope.names, scope.names.lookup y.1 = some y.2
  ix : ∀ p ∈ own, N[p.2]? = some p.1
  free : ∀ y ∈ scope.names, y.2 = .free → sc.names.lookup y.1 = some .cell ∨ sc.names.lookup y.1 = some .free
  own : ∀ y ∈ scope.names, y.2 = .local ∨ y.2 = .cell → y.1 ∈ own.map (·.1) ∨ y.1 ∉ N
/-- the slots of the block's own names forgotten -/
def wipe (σ : St) : List Nat → St
  | [] => σ
  | v :: vs => (wipe σ vs).set v none
theorem wipe_length (σ : St) : ∀ vs : List Nat, (wipe σ vs).length = σ.length
  | [] => rfl
  | v :: vs => by unfold wipe; rw [List.length_set, wipe_length σ vs]
theorem wipe_some {σ : St} {i : Nat} {x : V} : ∀ {vs : List Nat}, (wipe σ vs)[i]? = some (some x) → σ[i]? = some (some x) ∧ i ∉ vs
  | [], h => ⟨h, by simp⟩
  | v :: vs, h => by
    unfold wipe at h
    by_cases hi : v = i
    · subst hi
      by_cases hv : v < (wipe σ vs).length
      · rw [List.getElem?_set_self hv] at h; cases h
      · rw [List.getElem?_eq_none (by simpa using hv)] at h; cases h
    · rw [List.getElem?_set_ne hi] at h
      obtain ⟨h1, h2⟩ := wipe_some h
      exact ⟨h1, by simp only [List.mem_cons, not_or]; exact ⟨fun e => hi e.symm, h2⟩⟩

/-- the context of a block that starts at s, its iterator's objects at fp -/
abbrev Cx.blk (X : Cx) (s : Shared) (H : Hp) (scope : Scope) (cenv : Env) (fp : List Addr) : Cx := { X with s_0 := s, H_0 := H, env := cenv, outer := X.stack, ex := fp, fn := fun x => scope.names.lookup x == some .cell, pn := [], xe := fun _ _ => False }
section
variable {X : Cx} {pins : List (Addr × Obj)} {σ : St} {H : Hp} {s : Shared}
theorem block_start {scope : Scope} {own : List (Str × Nat)} {fp : List Addr} (I : Inv X pins σ H s) (ok : BlkOk X.N X.env.scope scope own) (hN : X.N.Nodup) (hfp : ∀ b ∈ fp, FpOk X pins H b ∧ b < s.heap.objs.size) :
    Inv (X.blk s H scope (compEnvC scope (cellsFrom (s.heap.objs.size + 1) scope.names (cloFrom X.env.cells scope.names [])) s.heap.objs.size X.env) fp) [] (wipe σ (own.map (·.2))) H { s with heap := pushCells (s.heap.push { cls := .type "dict", data := .dict #[] }) scope.names } := by
  have hfree : ∀ y ∈ scope.names, y.2 = .free → ∃ c, X.env.cells.lookup y.1 = some c := fun y hy e => by
    rcases ok.free y hy e with k | k
    · exact I.ok.has _ (.inl k)
    · exact I.ok.has _ (.inr k)
  generalize hcenv : compEnvC scope (cellsFrom (s.heap.objs.size + 1) scope.names (cloFrom X.env.cells scope.names [])) s.heap.objs.size X.env = cenv
  have kp : ∀ b o, s.heap.get? b = some o → (pushCells (s.heap.push { cls := .type "dict", data := .dict #[] }) scope.names).get? b = some o := fun b o e => pushCells_keeps _ _ _ _ (Heap.get?_push_of_some _ e)
  have hL : cenv.locals = s.heap.objs.size := by rw [← hcenv]; rfl
  have hcl : cenv.cells = cellsFrom (s.heap.objs.size + 1) scope.names (cloFrom X.env.cells scope.names []) := by rw [← hcenv]; rfl
  have hsc : cenv.scope = relS scope X.env.scope := by rw [← hcenv]; rfl
  rw [← Heap.size_push s.heap { cls := .type "dict", data := .dict #[] }] at hcl
  have cm : ∀ {y c}, (y, c) ∈ cloFrom X.env.cells scope.names [] → X.env.cells.lookup y = some c ∧ c < s.heap.objs.size := fun {y c} hm => by
    rcases cloFrom_mem hm with hm | ⟨h1, rfl⟩
    · cases hm
    · obtain ⟨c, hc⟩ := hfree _ h1 rfl
      rw [hc]
      obtain ⟨w, z⟩ := I.cell _ _ hc
      exact ⟨rfl, z.lt⟩
  have mem : ∀ {y c}, cenv.cells.lookup y = some c → (X.env.cells.lookup y = some c ∧ c < s.heap.objs.size) ∨ (s.heap.objs.size + 1 ≤ c ∧ CellAt (pushCells (s.heap.push { cls := .type "dict", data := .dict #[] }) scope.names) c none) := fun {y c} e => by
    rw [hcl] at e
    rcases cells_mem (PySem.mem_of_lookup e) with hm | ⟨_, h2, h3⟩
    · exact .inl (cm hm)
    · rw [Heap.size_push] at h2; exact .inr ⟨h2, h3⟩
  have look : ∀ {y}, scope.names.lookup y = some .free → ∃ c, cenv.cells.lookup y = some c ∧ X.env.cells.lookup y = some c := fun {y} hl => by
    have hy : (y, NameKind.free) ∈ scope.names := PySem.mem_of_lookup hl
    obtain ⟨c', e'⟩ := mem_lookup (cells_acc (names := scope.names) (n := (s.heap.push { cls := .type "dict", data := .dict #[] }).objs.size) (cloFrom_has (cells := X.env.cells) (acc := []) hy))
    rw [← hcl] at e'
    refine ⟨c', e', ?_⟩
    rw [hcl] at e'
    rcases cells_mem (PySem.mem_of_lookup e') with hm | ⟨h1, _, _⟩
    · exact (cm hm).1
    · have := ok.uniq _ h1
      rw [hl] at this; cases this
  have okB : (X.blk s H scope cenv fp).Ok := by
    refine ⟨I.ok.mod, by show cenv.scope.kind = _; rw [hsc]; exact ok.kind, by show cenv.globals = _; rw [← hcenv]; exact I.ok.glob, by show cenv.builtins = _; rw [← hcenv]; exact I.ok.blt, by show s.heap.objs.size ≤ cenv.locals; rw [hL]; exact Nat.le_refl _,
      fun y z c e1 e2 => ?_, fun y hy => ?_, fun y c z e => ?_, I.ok.hd, I.ok.frames, .inl rfl, fun b hb => ⟨?_, fun y c e z => ?_⟩, I.bs, Nat.le_trans I.ok.bsz I.sz, fun b o e hb => ?_, fun b hb z => ?_, I.stack, I.stkFree⟩
    · have e1 : cenv.cells.lookup y = some c := e1
      have e2 : cenv.cells.lookup z = some c := e2
      rw [hcl] at e1 e2
      refine cells_inj (fun p hp => ?_) (fun y z c a b => I.ok.inj y z c (cm a).1 (cm b).1) (PySem.mem_of_lookup e1) (PySem.mem_of_lookup e2)
      rw [Heap.size_push]
      exact Nat.lt_succ_of_lt (cm (y := p.1) (c := p.2) hp).2
    · show ∃ c, cenv.cells.lookup y = some c
      have key : ∀ k, cenv.kindOf y = some k → (k = .cell ∨ k = .free) → ∃ c, cenv.cells.lookup y = some c := fun k hk hk' => by
        unfold Env.kindOf at hk
        rw [hsc] at hk
        obtain ⟨k', e, r⟩ := lookup_relS hk
        have : k' = .cell ∨ k' = .free := by
          rcases r with rfl | ⟨rfl, _⟩
          · exact hk'
          · exact .inr rfl
        rcases this with rfl | rfl
        · obtain ⟨c, hm⟩ := cells_has (n := (s.heap.push { cls := .type "dict", data := .dict #[] }).objs.size) (acc := cloFrom X.env.cells scope.names []) (PySem.mem_of_lookup e)
          obtain ⟨c', e'⟩ := mem_lookup hm
          exact ⟨c', by rw [hcl]; exact e'⟩
        · obtain ⟨c, h1, _⟩ := look e
          exact ⟨c, h1⟩
      rcases hy with hy | hy
      · exact key _ hy (.inl rfl)
      · exact key _ hy (.inr rfl)
    · have z : (scope.names.lookup y == some NameKind.cell) = true := z
      have z : scope.names.lookup y = some .cell := by simpa using z
      have e : cenv.cells.lookup y = some c := e
      rw [hcl] at e
      rcases cells_mem (PySem.mem_of_lookup e) with hm | ⟨_, h2, _⟩
      · rcases cloFrom_mem hm with hm | ⟨h1, _⟩
        · cases hm
        · have q := ok.uniq _ h1
          rw [z] at q; cases q
      · rw [Heap.size_push] at h2
        exact Nat.le_of_succ_le h2
    · show b ≠ cenv.locals
      rw [hL]; exact Nat.ne_of_lt (hfp b hb).2
    · have e : cenv.cells.lookup y = some c := e
      rcases mem e with ⟨h1, _⟩ | ⟨h1, _⟩
      · exact (hfp b hb).1.2.2.2.2.1 y c h1 z
      · have h2 : s.heap.objs.size + 1 ≤ b := by rw [← z]; exact h1
        exact absurd (Nat.lt_of_lt_of_le (hfp b hb).2 (Nat.le_of_succ_le h2)) (Nat.lt_irrefl _)
    · rcases (hfp b hb).1.2.2.2.1 with z | z
      · exact I.ok.noex b o e z
      · exact absurd (Nat.lt_of_lt_of_le (Heap.lt_size e) (Nat.le_trans I.ok.bsz z)) (Nat.lt_irrefl _)
    · rcases List.mem_cons.mp (I.stkSub b z) with z | z
      · exact (hfp b hb).1.2.1 z
      · exact (hfp b hb).1.2.2.1 z
  refine ⟨okB, rfl, I.bare, Un.kept kp, ⟨fun _ => none, ?_, fun i y av e1 e2 e3 => ?_⟩, fun y c e => ?_, ?_, fun y c e => ?_, fun p hp => ?_, I.hok.kept kp, by rw [wipe_length]; exact I.len⟩
  · show Heap.Ns _ cenv.locals _
    rw [hL]
    exact Heap.Ns.keeps (Heap.Ns.new ..) fun b o e => pushCells_keeps _ _ _ _ e
  · obtain ⟨e2, hne⟩ := wipe_some e2
    have hfr : scope.names.lookup y = some .free ∧ (cenv.kindOf y = some .cell ∨ cenv.kindOf y = some .free) := by
      have key : ∀ k, cenv.scope.names.lookup y = some k → k = .local ∨ k = .cell ∨ k = .free → scope.names.lookup y = some .free ∧ (cenv.kindOf y = some .cell ∨ cenv.kindOf y = some .free) := fun k hk hk' => by
        have hk0 := hk
        rw [hsc] at hk
        obtain ⟨k', e, r⟩ := lookup_relS hk
        have no : ¬ (k' = .local ∨ k' = .cell) := fun hh => by
          rcases ok.own _ (PySem.mem_of_lookup e) hh with e' | e'
          · obtain ⟨p, hp, hpy⟩ := List.mem_map.mp e'
            have e3 := ok.ix p hp
            have : p.1 = y := hpy
            rw [this] at e3
            exact hne (List.mem_map.mpr ⟨p, hp, nodup_ix hN e3 e1⟩)
          · exact e' (List.mem_of_getElem? e1)
        rcases r with rfl | ⟨rfl, rfl⟩
        · rcases hk' with rfl | rfl | rfl
          · exact absurd (.inl rfl) no
          · exact absurd (.inr rfl) no
          · exact ⟨e, .inr hk0⟩
        · exact ⟨e, .inl hk0⟩
      have e3 : Vis cenv.scope y := e3
      rcases e3 with e3 | e3 | e3
      · exact key _ e3 (.inl rfl)
      · exact key _ e3 (.inr (.inl rfl))
      · exact key _ e3 (.inr (.inr rfl))
    obtain ⟨m, hn, hl⟩ := I.loc
    have hvis : Vis X.env.scope y := (ok.free _ (PySem.mem_of_lookup hfr.1) rfl).elim (fun k => .inr (.inl k)) (fun k => .inr (.inr k))
    obtain ⟨w, r, q⟩ := hl i y av e1 e2 hvis
    refine ⟨w, r, .inr ⟨hfr.2, ?_⟩⟩
    obtain ⟨c, h1, h2⟩ := look hfr.1
    rcases q with ⟨k, _⟩ | ⟨_, c', e', z⟩
    · have k : X.env.scope.names.lookup y = some .local := k
      rcases ok.free _ (PySem.mem_of_lookup hfr.1) rfl with k' | k' <;> rw [show X.env.scope.names.lookup y = _ from k'] at k <;> cases k
    · rw [h2] at e'; cases e'
      exact ⟨c, h1, z.keeps kp⟩
  · have e : cenv.cells.lookup y = some c := e
    rcases mem e with ⟨h1, _⟩ | ⟨_, z⟩
    · obtain ⟨w, z⟩ := I.cell y c h1
      exact ⟨w, z.keeps kp⟩
    · exact ⟨_, z⟩
  · show H cenv.locals = none
    rw [hL]; exact I.hok.fresh (Nat.le_refl _)
  · have e : cenv.cells.lookup y = some c := e
    rcases mem e with ⟨h1, _⟩ | ⟨h1, _⟩
    · exact I.freeC y c h1
    · exact I.hok.fresh (Nat.le_of_succ_le h1)
  · exact absurd (show p ∈ ([] : List (Addr × Obj)) ++ [] from hp) (by simp)

/-- an item appended to a tracked list -/
theorem app_ok {E : Value → Shared → Prop} {D : Addr} {xs : List V} {y : V} {v : Value} {Q : Value → Shared → Prop} (I : Inv X pins σ H s) (hD : H D = some (.lst xs)) (hz : xs.length < sizeLine) (r : RelV y v)
    (h : ∀ s', Inv X pins σ (upd H D (.lst (xs ++ [y]))) s' → Q .none s') : wpAny (model X.prog X.w) X.A (call (.builtin "list.append") [.ref D, v]) Q E s := by
  obtain ⟨hz', its, n, ri, e⟩ := I.hok D _ hD
  have hl := ri.length
  refine append_at (hsz := by rw [List.size_toArray]; omega) e fun h' sb ho' => ?_
  refine h { s with heap := h' } (I.write (t' := s.toks) (by rw [hD]; trivial) (.inl rfl) (fun b u hb q => (sb.2 b hb).trans q) ⟨_, ho'⟩ ⟨by rw [List.length_append]; exact hz, its ++ [v], n + 1, ri.append (.cons r .nil), ?_⟩)
  rw [ho']
  simp

/-- a clause's tests -/
def PTs (X : Cx) (ifs : List Expr) (t : TT) : Prop :=
  ∀ (pins : List (Addr × Obj)) (s : Shared) (σ : St) (H : Hp) (Q : Bool → Hp → Prop), Inv X pins σ H s → t σ H Q →
    wpAny (model X.prog X.w) X.A (forIn ifs true fun c r => if r = true then do let ok ← isTrue c X.env (eval c X.env); pure (ForInStep.yield ok) else pure (ForInStep.yield r)) (TP X pins σ Q) X.xe s
def tYes : TT := fun _ H Q => Q true H
theorem pts_nil : PTs X [] tYes := fun _ _ _ H _ I h => wpAny_tests_nil ⟨H, I, h⟩
theorem pts_one {c : Expr} {t : TT} (h : PT X c t) : PTs X [c] t := fun pins s σ H Q I hw => wpAny_tests_one (h pins s σ H Q I hw)
end

theorem thnF {α : Type} {t : Sem α} {Q Q' : α → Shared → Prop} {M : Model} {A : Around} {E : Value → Shared → Prop} {s : Shared} (h : wpAny M A t Q (fun _ _ => False) s) (hQ : ∀ a s, Q a s → Q' a s) : wpAny M A t Q' E s := wpAny_mono h hQ fun _ _ z => False.elim z

/-- the loop of a list comprehension's block, the target of any form (codeAny_compLoop_tests asks a target that no tuple goes to; statement and proof follow it, PyProof/CompMap.lean:41-61, with the step letOwnedTupleGo kept) -/
theorem compLoop_any {prog : Program} {w : World} {A : Around} {R : Result → Shared → Prop} {s : Shared} {elt target iter : Expr} {ifs : List Expr} {scope : Scope} {pos : Pos} {it acc : Value} {env : Env} (I : Nat → Shared → Prop)
    (turn : ∀ n s, I n s → wpAny (model prog w) A (pyNext it) (fun r s₁ => match r with
      | none => R (.ok .next) s₁
      | some v => wpAny (model prog w) A (letOwnedTupleGo target it v) (fun _ s₁' => wpAny (model prog w) A (assign target env v) (fun _ s₂ =>
          wpAny (model prog w) A (forIn ifs true fun c r => if r = true then do let ok ← isTrue c env (eval c env); pure (ForInStep.yield ok) else pure (ForInStep.yield r)) (fun ok s₃ =>
            if ok = true then wpAny (model prog w) A (eval elt env) (fun x s₄ =>
              wpAny (model prog w) A (call (.builtin "list.append") [acc, x]) (fun _ s₅ => ∃ m, m < n ∧ I m s₅) (notedBy (model prog w) A env fun e s' => R (.error e) s') s₄) (notedBy (model prog w) A env fun e s' => R (.error e) s') s₃
            else ∃ m, m < n ∧ I m s₃) (notedBy (model prog w) A env fun e s' => R (.error e) s') s₂) (notedBy (model prog w) A env fun e s' => R (.error e) s') s₁') (notedBy (model prog w) A env fun e s' => R (.error e) s') s₁) (notedBy (model prog w) A env fun e s' => R (.error e) s') s)
    (n : Nat) (h : I n s) :
    codeAny (model prog w) A (.compLoop (.ListComp elt [⟨target, iter, ifs, 0⟩] scope pos) 0 it acc env) R s := by
  refine codeAny_loop rfl I (fun n s hI => ?_) n h
  show wpAny _ A ((compTurn (.ListComp elt [⟨target, iter, ifs, 0⟩] scope pos) 0 it acc env).onRaise (fun x => do noteFrame x env; theTreesLotGoes x)) _ _ s
  refine wpAny_noted ?_
  rw [compTurn_list]
  refine wpAny_bind (wpAny_standAt (wpAny_bind (wpAny_mono (turn n s hI) (fun r s₁ h₁ => ?_) fun _ _ h' => h')))
  cases r with
  | none => exact wpAny_pure h₁
  | some v =>
    refine wpAny_bind (wpAny_mono h₁ (fun _ s₁' h₁' => ?_) fun _ _ h' => h')
    refine wpAny_bind (wpAny_mono h₁' (fun _ s₂ h₂ => wpAny_bind (wpAny_mono h₂ (fun ok s₃ h₃ => ?_) fun _ _ h' => h')) fun _ _ h' => h')
    cases ok with
    | false => exact wpAny_pure ⟨rfl, h₃⟩
    | true =>
      exact wpAny_bind (wpAny_bind (wpAny_mono h₃ (fun x s₄ h₄ => wpAny_bind (wpAny_mono h₄ (fun _ s₅ h₅ => wpAny_pure (wpAny_pure ⟨rfl, h₅⟩)) fun _ _ h' => h')) fun _ _ h' => h'))

section
variable {X : Cx}
/-- [elt for target in iter if ..]: D the new list; W by the turn and a measure, Nx what a turn is to reach -/
def tLc (wi : TI) (g : TG) (tt : TT) (te : TE) (vs : List Nat) : TE := fun σ H Q => wi σ H fun J H1 => ∀ D, H1 D = none → ∃ W : Nat → Nat → Hp → Prop, (∃ m, W 0 m (upd H1 D (.lst []))) ∧ ∀ i m H, W i m H →
  (J.stop i H ∧ Q (.ref D) H) ∨ (J.go i H ∧ ∃ Nx : Hp → Prop, (∀ H', Nx H' → ∃ m', m' < m ∧ W (i + 1) m' H') ∧ ∀ x H', J.yld i H x H' → g x (wipe σ vs) H' fun σ2 H2 => wipe σ2 vs = wipe σ vs ∧ tt σ2 H2 fun b H3 =>
    if b = true then te σ2 H3 fun y H4 => ∃ acc, H4 D = some (.lst acc) ∧ acc.length < sizeLine ∧ Nx (upd H4 D (.lst (acc ++ [y]))) else Nx H3)
theorem lc_core {pins : List (Addr × Obj)} {s : Shared} {σ : St} {H : Hp} {Q : VK} {elt tg iter : Expr} {ifs : List Expr} {scope : Scope} {own : List (Str × Nat)} {pos pos' : Pos} {wi : TI} {g : TG} {tt : TT} {te : TE} {use : Option (Value → Sem Unit)} {Qf : Value → Shared → Prop}
    (hc : X.calm = true) (hN : X.N.Nodup) (I : Inv X pins σ H s) (hi : PI X tg iter wi) (ok : BlkOk X.N X.env.scope scope own)
    (hg : ∀ (s : Shared) (H : Hp) (C : Addr) (cl : List (Str × Addr)) (fp : List Addr), PG (X.blk s H scope (compEnvC scope cl C X.env) fp) tg g) (ht : ∀ (s : Shared) (H : Hp) (C : Addr) (cl : List (Str × Addr)) (fp : List Addr), PTs (X.blk s H scope (compEnvC scope cl C X.env) fp) ifs tt)
    (he : ∀ (s : Shared) (H : Hp) (C : Addr) (cl : List (Str × Addr)) (fp : List Addr), PE (X.blk s H scope (compEnvC scope cl C X.env) fp) elt te) (hs : ∀ x, foldedSetIterable iter X.env x = pure x)
    (h : tLc wi g tt te (own.map (·.2)) σ H Q)
    (hRR : ∀ D C s' m H', Inv X pins σ H' s' → Q (.ref D) H' → s'.heap.Ns C m → FpOk X pins H' C → compPost (model X.prog X.w) X.A X.xe use Qf (.ref D) C (.ok .next) s') :
    wpAny (model X.prog X.w) X.A (comprehension (.ListComp elt [⟨tg, iter, ifs, 0⟩] scope pos) scope X.env pos' (newList []) false (eval iter X.env) use) Qf X.xe s := by
  have hfree : ∀ y ∈ scope.names, y.2 = .free → ∃ c, X.env.cells.lookup y.1 = some c := fun y hy e => by
    rcases ok.free y hy e with k | k
    · exact I.ok.has _ (.inl k)
    · exact I.ok.has _ (.inr k)
  refine wpAny_comprehension_free (use := use) rfl hs (closure_ok hfree) ok.kind (fun y hy e => by rw [ok.uniq y hy, e])
    (thn (hi pins s σ H _ I h) fun xv s1 hx => thn hx fun itv s2 h2 => ?_)
  obtain ⟨it, fp, tn, J, H2, e, I2, T, st2, f2, q⟩ := h2
  subst e
  refine wpAny_newObj_type (newEnv_comp ?_) (by show 0 ≤ sizeLine; decide)
  generalize hD : s2.heap.objs.size = D
  have hDn : H2 D = none := I2.hok.fresh (Nat.le_of_eq hD)
  obtain ⟨W, ⟨m0, w0⟩, turn⟩ := q D hDn
  -- the new list
  generalize hs3 : ({ s2 with heap := s2.heap.push { cls := .type "list", data := .seq ([] : List Value).toArray } } : Shared) = s3
  have I3 : Inv X pins σ (upd H2 D (.lst [])) s3 := by
    rw [← hs3]
    refine I2.laid (t' := s2.toks) (fun b o e => Heap.get?_push_of_some _ e) (Nat.le_of_eq hD) ⟨Nat.zero_le _, [], 0, .nil, ?_⟩
    rw [← hD]
    exact Heap.get?_push_size _ rfl
  have h3 : s3.heap = s2.heap.push { cls := .type "list", data := .seq ([] : List Value).toArray } := by rw [← hs3]
  have sz : ∀ b ∈ fp, b < s2.heap.objs.size := fun b hb => by
    obtain ⟨o, e, _⟩ := T.obj _ _ st2 b hb
    exact Heap.lt_size e
  have f3 : ∀ b ∈ fp, FpOk X pins (upd H2 D (.lst [])) b ∧ b < s3.heap.objs.size := fun b hb => by
    have hlt := sz b hb
    refine ⟨⟨?_, (f2 b hb).2⟩, by rw [h3, Heap.size_push]; exact Nat.lt_succ_of_lt hlt⟩
    rw [upd_ne (by rw [← hD]; exact Nat.ne_of_lt hlt)]
    exact (f2 b hb).1
  have st3 : tn 0 s3.heap := T.keep _ _ _ st2 fun b _ o e => by rw [h3]; exact Heap.get?_push_of_some _ e
  have I4 := block_start I3 ok hN f3
  have pg := hg s3 (upd H2 D (.lst [])) s3.heap.objs.size (cellsFrom (s3.heap.objs.size + 1) scope.names (cloFrom X.env.cells scope.names [])) fp
  have pt := ht s3 (upd H2 D (.lst [])) s3.heap.objs.size (cellsFrom (s3.heap.objs.size + 1) scope.names (cloFrom X.env.cells scope.names [])) fp
  have pe := he s3 (upd H2 D (.lst [])) s3.heap.objs.size (cellsFrom (s3.heap.objs.size + 1) scope.names (cloFrom X.env.cells scope.names [])) fp
  show codeAny _ _ (.compStart (.ListComp elt [⟨tg, iter, ifs, 0⟩] scope pos) 0 (.ref it) (.ref D) (compEnvC scope (cellsFrom (s3.heap.objs.size + 1) scope.names (cloFrom X.env.cells scope.names [])) s3.heap.objs.size X.env)) (compPost (model X.prog X.w) X.A X.xe use Qf (.ref D) s3.heap.objs.size) { s3 with heap := pushCells (s3.heap.push { cls := .type "dict", data := .dict #[] }) scope.names }
  have nfp : ∀ b ∈ fp, (upd H2 D (.lst [])) b = none := fun b hb => (f3 b hb).1.1
  generalize hce : compEnvC scope (cellsFrom (s3.heap.objs.size + 1) scope.names (cloFrom X.env.cells scope.names [])) s3.heap.objs.size X.env = ce at I4 pg pt pe ⊢
  have cL : ce.locals = s3.heap.objs.size := by subst hce; rfl
  generalize hH3 : upd H2 D (.lst []) = H3 at I3 I4 pg pt pe w0 nfp f3
  generalize hs4 : ({ s3 with heap := pushCells (s3.heap.push { cls := .type "dict", data := .dict #[] }) scope.names } : Shared) = s4 at I4 ⊢
  have st4 : tn 0 s4.heap := T.keep _ _ _ st3 fun b _ o e => by rw [← hs4]; exact pushCells_keeps _ _ _ _ (Heap.get?_push_of_some _ e)
  have stat : ∀ {σ' : St} {H' : Hp} {s' : Shared}, Inv (X.blk s3 H3 scope ce fp) [] σ' H' s' → (∀ b ∈ fp, H' b = none) → ∀ b ∈ fp, FpOk (X.blk s3 H3 scope ce fp) [] H' b := fun {σ' H' s'} I' hn b hb =>
    ⟨hn b hb, (I'.ok.exf b hb).1, I'.ok.exfs b hb, .inl hb, fun x c e => (I'.ok.exf b hb).2 x c e, fun p hp => absurd (show p ∈ ([] : List (Addr × Obj)) ++ [] from hp) (by simp)⟩
  have loop : codeAny (model X.prog X.w) X.A (.compLoop (.ListComp elt [⟨tg, iter, ifs, 0⟩] scope pos) 0 (.ref it) (.ref D) ce) (compPost (model X.prog X.w) X.A X.xe use Qf (.ref D) s3.heap.objs.size) s4 := by
    refine compLoop_any (fun n s' => ∃ i H', Inv (X.blk s3 H3 scope ce fp) [] (wipe σ (own.map (·.2))) H' s' ∧ tn i s'.heap ∧ (∀ b ∈ fp, H' b = none) ∧ W i n H') ?_ m0 ⟨0, H3, I4, st4, nfp, w0⟩
    rintro n s5 ⟨i, H5, I5, st5, n5, w5⟩
    rcases turn i n H5 w5 with ⟨stop, qq⟩ | ⟨go, Nx, hNx, step⟩
    · have td := T.done (X.blk s3 H3 scope ce fp) rfl rfl rfl hc i [] s5 _ H5 (fun _ _ => False) I5 (stat I5 n5) st5 stop
      refine thnF td fun r s6 ⟨hr, I6⟩ => ?_
      subst hr
      -- back in the def's context
      have I7 : Inv X pins σ H5 s6 := I3.call' (ch := fp) I6.os I6.base I6.hok I6.bare fun b hb => ⟨(f3 b hb).1.2.2.2.1, (f3 b hb).1.2.1, (f3 b hb).1.2.2.2.2.1, (f3 b hb).1.2.2.2.2.2⟩
      have nC : H5 s3.heap.objs.size = none := by
        have z : H5 ce.locals = none := I6.free
        rw [cL] at z
        exact z
      obtain ⟨m, hn, _⟩ := I6.loc
      have hn : s6.heap.Ns ce.locals m := hn
      rw [cL] at hn
      exact hRR D s3.heap.objs.size s6 m H5 I7 qq hn (I3.fpOk (Nat.le_refl _) nC)
    · have ti := T.item (X.blk s3 H3 scope ce fp) rfl rfl rfl hc i [] s5 _ H5 (fun _ _ => False) I5 (stat I5 n5) st5 go
      refine thnF ti fun r s6 ⟨u, hr, h6⟩ => ?_
      subst hr
      refine thnF h6 fun _ s7 ⟨x, H7, I7, r7, y7, st7, n7⟩ => ?_
      have I7' := I7.pinned (stat I7 n7) (T.obj _ _ st7)
      refine thnF (pg _ s7 _ H7 x u _ I7' r7 (step x H7 y7)) fun _ s8 ⟨σ8, H8, I8, hw8, q8⟩ => ?_
      refine thnF (pt _ s8 σ8 H8 _ I8 q8) fun b s9 ⟨H9, I9, q9⟩ => ?_
      -- the turn's end
      have fin : ∀ {s' : Shared} {H' : Hp}, Inv (X.blk s3 H3 scope ce fp) ([] ++ pinsAt fp s7.heap) σ8 H' s' → Nx H' → ∃ m, m < n ∧ ∃ i H', Inv (X.blk s3 H3 scope ce fp) [] (wipe σ (own.map (·.2))) H' s' ∧ tn i s'.heap ∧ (∀ b ∈ fp, H' b = none) ∧ W i m H' := fun {s' H'} I' nx => by
        obtain ⟨m', hm, w'⟩ := hNx H' nx
        have pin' : ∀ b ∈ fp, ∀ o, s7.heap.get? b = some o → s'.heap.get? b = some o ∧ H' b = none := fun b hb o e =>
          let z := I'.pin (b, o) (List.mem_append_right _ (List.mem_append_right _ (mem_pinsAt hb e)))
          ⟨z.1, z.2.1⟩
        have hl : (wipe σ (own.map (·.2))).length = σ8.length := by rw [← hw8, wipe_length]
        refine ⟨m', hm, i + 1, H', (I'.unpinned (pins := [])).weak hl (fun j v e => ?_), T.keep _ _ _ st7 fun b hb o e => (pin' b hb o e).1, fun b hb => ?_, w'⟩
        · rw [← hw8] at e
          exact (wipe_some e).1
        · obtain ⟨o, e, _⟩ := T.obj _ _ st7 b hb
          exact (pin' b hb o e).2
      cases b with
      | false =>
        simp only [Bool.false_eq_true, if_false] at q9 ⊢
        exact fin I9 q9
      | true =>
        simp only [if_true] at q9 ⊢
        refine thnF (pe _ s9 σ8 H9 _ I9 q9) fun z s10 ⟨yv, H10, I10, r10, acc, hD10, hz10, nx⟩ => ?_
        exact app_ok (X := X.blk s3 H3 scope ce fp) I10 hD10 hz10 r10 fun s11 I11 => fin I11 nx
  exact codeAny_compStart_list loop (T.self X.A 0 _ _ _ st4 loop)
/-- as a value -/
theorem pe_lc {elt tg iter : Expr} {ifs : List Expr} {scope : Scope} {own : List (Str × Nat)} {pos : Pos} {wi : TI} {g : TG} {tt : TT} {te : TE} (hc : X.calm = true) (hN : X.N.Nodup) (hi : PI X tg iter wi) (ok : BlkOk X.N X.env.scope scope own)
    (hg : ∀ (s : Shared) (H : Hp) (C : Addr) (cl : List (Str × Addr)) (fp : List Addr), PG (X.blk s H scope (compEnvC scope cl C X.env) fp) tg g) (ht : ∀ (s : Shared) (H : Hp) (C : Addr) (cl : List (Str × Addr)) (fp : List Addr), PTs (X.blk s H scope (compEnvC scope cl C X.env) fp) ifs tt)
    (he : ∀ (s : Shared) (H : Hp) (C : Addr) (cl : List (Str × Addr)) (fp : List Addr), PE (X.blk s H scope (compEnvC scope cl C X.env) fp) elt te) (hs : ∀ x, foldedSetIterable iter X.env x = pure x := by intro _; rfl) :
    PE X (.ListComp elt [⟨tg, iter, ifs, 0⟩] scope pos) (tLc wi g tt te (own.map (·.2))) := by
  intro pins s σ H Q I h
  rw [eval_ListComp]
  refine lc_core hc hN I hi ok hg ht he hs h fun D C s' m H' I' q hn f => ⟨m, hn, fun h'' sb => ?_⟩
  obtain ⟨f0, f1, f2, f3, f4, f5⟩ := f
  exact ⟨.ref D, H', I'.turned (t' := s'.toks) (fun b o hb e => (sb.2 b hb).trans e) f0 f1 f3 f4 f5, rfl, q⟩
/-- name = [..] on one line, the name a local -/
theorem ps_setLc {i : Nat} {y : Str} {py : Pos} {elt tg iter : Expr} {ifs : List Expr} {scope : Scope} {own : List (Str × Nat)} {pos spos : Pos} {wi : TI} {g : TG} {tt : TT} {te : TE} (hc : X.calm = true) (hN : X.N.Nodup) (hy : X.N[i]? = some y) (hyl : X.env.scope.names.lookup y = some .local)
    (hsw : swapsWith (.ListComp elt [⟨tg, iter, ifs, 0⟩] scope pos) (some (.Name y py)) spos.line X.env = pure true) (hi : PI X tg iter wi) (ok : BlkOk X.N X.env.scope scope own)
    (hg : ∀ (s : Shared) (H : Hp) (C : Addr) (cl : List (Str × Addr)) (fp : List Addr), PG (X.blk s H scope (compEnvC scope cl C X.env) fp) tg g) (ht : ∀ (s : Shared) (H : Hp) (C : Addr) (cl : List (Str × Addr)) (fp : List Addr), PTs (X.blk s H scope (compEnvC scope cl C X.env) fp) ifs tt)
    (he : ∀ (s : Shared) (H : Hp) (C : Addr) (cl : List (Str × Addr)) (fp : List Addr), PE (X.blk s H scope (compEnvC scope cl C X.env) fp) elt te) (hs : ∀ x, foldedSetIterable iter X.env x = pure x := by intro _; rfl) :
    PS X (.Assign [.Name y py] (.ListComp elt [⟨tg, iter, ifs, 0⟩] scope pos) spos) (tAsg (tLc wi g tt te (own.map (·.2))) (gName i)) := by
  intro pins s σ H D I h
  rw [exec_Assign_Name_used _ _ _ _ hsw]
  refine wpAny_bind (wpAny_standAt (wpAny_bind ?_))
  show wpAny _ X.A (do let _ ← comprehension (.ListComp elt [⟨tg, iter, ifs, 0⟩] scope pos) scope X.env (firstIterPos [⟨tg, iter, ifs, 0⟩] pos) (newList []) false (eval iter X.env) (some (assign (.Name y py) X.env))) _ _ s
  have h : tLc wi g tt te (own.map (·.2)) σ H (fun x H1 => gName i x σ H1 D.nx) := h
  refine wpAny_bind (thn (lc_core (Qf := fun _ s' => SP X pins D .next s') hc hN I hi ok hg ht he hs h fun L C s' m H' I' q hn f => ?_) fun _ s' hq => wpAny_pure (wpAny_pure hq))
  show wpAny _ _ (assign (.Name y py) X.env (.ref L)) _ _ _
  refine wpAny_assign_Name (store_ok2 (v := V.ref L) I' hN hy (.inl hyl) rfl (fun s2 I2 ⟨a, sb, ha⟩ => ?_) (.inr hyl))
  obtain ⟨f0, f1, f2, f3, f4, f5⟩ := f
  have haC : C ≠ a := by
    rcases ha with z | z
    · rw [z]; exact f1
    · exact fun e => f4 y a z e.symm
  refine ⟨m, hn.sameBut sb haC, fun h3 sb3 => ?_⟩
  exact ⟨_, H', I2.turned (t' := s2.toks) (fun b o hb e => (sb3.2 b hb).trans e) f0 f1 f3 f4 f5, q⟩
theorem sw_true {elt : Expr} {gs : List Comprehension} {scope : Scope} {pos py : Pos} {y : Str} {l : Nat} {env : Env} (hk : env.scope.kind = .function) (hy : env.scope.names.lookup y = some .local) (hl : (py.line == pos.line) = true)
    (ha : (scope.names.any fun (n, k) => n == y && (k == .local || k == .cell)) = false) : swapsWith (.ListComp elt gs scope pos) (some (.Name y py)) l env = pure true := by
  have ky : env.kindOf y = some .local := hy
  have hb : env.blockKind = .function := by unfold Env.blockKind; rw [hk]; rfl
  unfold swapsWith
  simp only [hb, ky, ha, Expr.pos, hl]
  rfl
end

/-! ### the forms one uses -/
def blkC (N : List Str) (sc scope : Scope) (own : List (Str × Nat)) : Bool :=
  (match scope.kind with | .function => true | _ => false) && (scope.names.all fun y => decide (scope.names.lookup y.1 = some y.2)) && (own.all fun p => decide (N[p.2]? = some p.1)) &&
    (scope.names.all fun y => match y.2 with
      | .free => (match sc.names.lookup y.1 with | some .cell => true | some .free => true | _ => false)
      | .local => decide (y.1 ∈ own.map (·.1)) || decide (y.1 ∉ N)
      | .cell => decide (y.1 ∈ own.map (·.1)) || decide (y.1 ∉ N)
      | _ => true)
theorem blkOk_by {N : List Str} {sc scope : Scope} {own : List (Str × Nat)} (h : blkC N sc scope own = true) : BlkOk N sc scope own := by
  unfold blkC at h
  simp only [Bool.and_eq_true, List.all_eq_true, decide_eq_true_eq] at h
  obtain ⟨⟨⟨h1, h2⟩, h3⟩, h4⟩ := h
  refine ⟨?_, h2, h3, fun y hy e => ?_, fun y hy e => ?_⟩
  · split at h1
    · assumption
    · cases h1
  · have q := h4 y hy
    simp only [e] at q
    split at q <;> first | exact .inl (by assumption) | exact .inr (by assumption) | cases q
  · have q := h4 y hy
    rcases e with e | e <;> (simp only [e, Bool.or_eq_true, decide_eq_true_eq] at q; exact q)
end L2

namespace L2
open PySem PySem.Spec PyProof.Rows


section
variable {prog : Program} {w : World} {A : Around} {R : Result → Shared → Prop} {s : Shared} {elt t0 i0 t1 i1 : Expr} {ifs0 ifs1 : List Expr} {scope : Scope} {pos : Pos} {it acc : Value} {env : Env}
end

theorem wipe_out {σ : St} {i : Nat} : ∀ {vs : List Nat}, i ∉ vs → (wipe σ vs)[i]? = σ[i]?
  | [], _ => rfl
  | v :: vs, h => by
    have h1 : v ≠ i := fun e => h (by rw [e]; exact List.mem_cons_self)
    have h2 : i ∉ vs := fun m => h (List.mem_cons_of_mem _ m)
    unfold wipe
    rw [List.getElem?_set_ne h1]
    exact wipe_out h2
section
variable {X : Cx}
end
end L2

namespace L2
open PySem PySem.Spec PyProof.Rows

/-! ### lists of pairs as tables -/
section
variable {κ : Type} [DecidableEq κ]



end


/-! ### a tracked dict, its keys ints and texts or tuples of these -/


section
variable {P : Program} {w : World} {H : Hp} {h : Heap} {a : Addr}
end



section
variable {X : Cx} {pins : List (Addr × Obj)} {σ : St} {H : Hp} {s : Shared} {a : Addr} {y v : V} {u r : Value} {o : Option V} {A : Around} {E : Value → Shared → Prop}


end

section
variable {X : Cx} {pins : List (Addr × Obj)} {σ : St} {H : Hp} {s : Shared} {a : Addr} {kvs : List (Key × V)} {k : Key} {u : Value} {A : Around} {E : Value → Shared → Prop}
end


/-! ### readings and rules -/



section
variable {X : Cx} {o i e value : Expr} {pos pos' tpos : Pos} {td ty tv : TE}
end


/-! ### displays -/
section
variable {X : Cx} {pos : Pos}
end




/-! ### methods -/


section
variable {X : Cx} {pins : List (Addr × Obj)} {σ : St} {H : Hp} {s : Shared} {a : Addr} {y d : V} {u r : Value} {o : Option V} {A : Around} {E : Value → Shared → Prop}
end

section
variable {X : Cx} {o e f : Expr} {apos cpos : Pos} {td ty tx : TE}
end

/-! ### dict(d): a copy -/
section
variable {X : Cx} {pins : List (Addr × Obj)} {σ : St} {H : Hp} {s : Shared} {a : Addr} {kvs : List (Key × V)} {A : Around} {E : Value → Shared → Prop}
end


section
variable {X : Cx} {pins : List (Addr × Obj)} {σ : St} {H : Hp} {s : Shared} {a : Addr} {y : V} {u : Value} {A : Around} {E : Value → Shared → Prop}
end
end L2

namespace L2
open PySem PySem.Spec PyProof.Rows


section
variable {prog : Program} {w : World} {A : Around} {E : Value → Shared → Prop}


end

section
variable {X : Cx}
end
end L2

namespace L2
open PySem PySem.Spec PyProof.Rows


section
variable {X : Cx} {pins : List (Addr × Obj)} {σ : St} {H : Hp} {s : Shared} {h' : Heap}

/-! ### locking a thing while a statement runs -/
end
section
variable {X : Cx}

/-! ### one iterator just laid -/
end

/-! ### range with a step -/
section
variable {X : Cx} {tg : Expr}
end

/-! ### reversed(list) -/
section
variable {X : Cx} {tg : Expr}
end

/-! ### a str -/

/-! ### a dict's keys: any dict's entries -/
section
variable {prog : Program} {w : World} {A : Around} {E : Value → Shared → Prop} {s : Shared}
end

/-! ### a locked dict -/
section
variable {X : Cx} {pins : List (Addr × Obj)} {σ : St} {H : Hp} {s : Shared} {d : Addr} {o : Obj}
end

section
variable {P : Program} {w : World} {K : PySem.W.Frag} {tg : Expr} {d : Addr} {o : Obj} {es : Array DictEntry} {ep : Nat}
end

/-! ### for k in d, d.keys(), d.values(), d.items() -/
section
variable {X : Cx} {tg e : Expr} {td : TE} {apos cpos : Pos}
end

/-! ### enumerate(list) -/
/-! ### zip(list, list) -/
end L2

section 
namespace Bits
open PySem PyProof.Rows








end Bits
end 

section 
namespace TL
open PySem PySem.Builtin PySem.Builtin.Str PySem.StrLaws

abbrev tl (x : Str) : List Nat := x.cps.toList
theorem len_tl (x : Str) : x.length = (tl x).length := by simp [tl, Str.length]
theorem ext_tl {x y : Str} (h : tl x = tl y) : x = y := Str.ext' (Array.toList_inj.mp h)
theorem tl_append (x y : Str) : tl (x ++ y) = tl x ++ tl y := by
  show (x ++ y).cps.toList = _
  rw [Str.cps_append, Array.toList_append]
theorem map_tl_inj : ∀ {l m : List Str}, l.map tl = m.map tl → l = m
  | [], [], _ => rfl
  | [], _ :: _, h => by simp at h
  | _ :: _, [], h => by simp at h
  | x :: l, y :: m, h => by
    rw [List.map_cons, List.map_cons] at h
    injection h with h1 h2
    rw [ext_tl h1, map_tl_inj h2]

/-! ### the list functions -/
/-- S stands at the head of l -/
def pre (S l : List Nat) : Bool := l.take S.length == S
/-- l cut at each S from the left; k signs are still to be passed over -/
def spl (S : List Nat) : Nat → List Nat → List Nat → List (List Nat)
  | _, acc, [] => [acc]
  | 0, acc, c :: r => if pre S (c :: r) = true then acc :: spl S (S.length - 1) [] r else spl S 0 (acc ++ [c]) r
  | k + 1, acc, _ :: r => spl S k acc r

theorem spl_nil (S : List Nat) (k : Nat) (acc : List Nat) : spl S k acc [] = [acc] := by cases k <;> rfl
theorem spl_hit {S acc r : List Nat} {c : Nat} (h : pre S (c :: r) = true) : spl S 0 acc (c :: r) = acc :: spl S (S.length - 1) [] r := by
  show (if pre S (c :: r) = true then acc :: spl S (S.length - 1) [] r else spl S 0 (acc ++ [c]) r) = _
  rw [if_pos h]
theorem spl_miss {S acc r : List Nat} {c : Nat} (h : pre S (c :: r) = false) : spl S 0 acc (c :: r) = spl S 0 (acc ++ [c]) r := by
  show (if pre S (c :: r) = true then acc :: spl S (S.length - 1) [] r else spl S 0 (acc ++ [c]) r) = _
  rw [if_neg (by rw [h]; exact Bool.false_ne_true)]
theorem spl_pass (S : List Nat) : ∀ (k : Nat) (acc l : List Nat), spl S k acc l = spl S 0 acc (l.drop k)
  | 0, _, _ => by rw [List.drop_zero]
  | k + 1, acc, [] => by rw [List.drop_nil, spl_nil, spl_nil]
  | k + 1, acc, c :: r => by
    show spl S k acc r = spl S 0 acc (r.drop k)
    exact spl_pass S k acc r

theorem pre_nil {S : List Nat} (hS : S ≠ []) : pre S [] = false := by
  cases S with
  | nil => exact absurd rfl hS
  | cons s S => rfl
theorem pre_of_head {s c : Nat} (S r : List Nat) (h : c ≠ s) : pre (s :: S) (c :: r) = false := by
  cases hp : pre (s :: S) (c :: r) with
  | false => rfl
  | true =>
    have e : (c :: r).take (s :: S).length = s :: S := eq_of_beq hp
    rw [List.length_cons, List.take_succ_cons] at e
    injection e with e1 e2
    exact absurd e1 h
theorem pre_self (S r : List Nat) : pre S (S ++ r) = true := by
  show ((S ++ r).take S.length == S) = true
  have e : (S ++ r).take S.length = S := List.take_left
  rw [e] <;> exact beq_self_eq_true S

theorem getElem_drop_cons {L : List Nat} {a : Nat} (h : a < L.length) : ∃ c, L.drop a = c :: L.drop (a + 1) := ⟨L[a], List.drop_eq_getElem_cons h⟩
theorem spl_run (S L : List Nat) : ∀ (m a : Nat) (acc : List Nat), a + m ≤ L.length → (∀ k, a ≤ k → k < a + m → pre S (L.drop k) = false) →
    spl S 0 acc (L.drop a) = spl S 0 (acc ++ (L.drop a).take m) (L.drop (a + m))
  | 0, a, acc, _, _ => by rw [List.take_zero, List.append_nil, Nat.add_zero]
  | m + 1, a, acc, h, hn => by
    have hlt : a < L.length := by omega
    obtain ⟨c, e⟩ := getElem_drop_cons hlt
    have h0 := hn a (Nat.le_refl _) (by omega)
    have ih := spl_run S L m (a + 1) (acc ++ [c]) (by omega) (fun k h1 h2 => hn k (by omega) (by omega))
    have e2 : a + 1 + m = a + (m + 1) := by omega
    rw [e2] at ih
    rw [e] at h0
    rw [e, spl_miss h0, ih, List.take_succ_cons, List.append_assoc] <;> rfl
theorem drop_two (L : List Nat) (a b : Nat) : (L.drop a).drop b = L.drop (a + b) := by
  first
    | rw [List.drop_drop]
    | rw [List.drop_drop, Nat.add_comm]
theorem spl_at {S L : List Nat} (hS : S ≠ []) {c : Nat} {acc : List Nat} (h : pre S (L.drop c) = true) : spl S 0 acc (L.drop c) = acc :: spl S 0 [] (L.drop (c + S.length)) := by
  rw [← drop_two]
  cases e : L.drop c with
  | nil => rw [e, pre_nil hS] at h; cases h
  | cons d r =>
    rw [e] at h
    rw [spl_hit h, spl_pass]
    cases S with
    | nil => exact absurd rfl hS
    | cons s S => rfl

/-! ### the model's split and partition are these -/
theorem at_iff {x y : Str} (hy : tl y ≠ []) (i : Nat) : At x y x.length i ↔ pre (tl y) ((tl x).drop i) = true := by
  have hx := len_tl x
  have hl := len_tl y
  constructor
  · intro h
    have h2 := h.2
    rw [subAt_eq, hl] at h2
    exact h2
  · intro h
    have e : ((tl x).drop i).take (tl y).length = tl y := eq_of_beq h
    have e1 := congrArg List.length e
    rw [List.length_take, List.length_drop] at e1
    have e2 : 0 < (tl y).length := List.length_pos_iff.mpr hy
    refine ⟨by omega, ?_⟩
    rw [subAt_eq, hl]
    exact h
theorem no_at {x y : Str} (hy : tl y ≠ []) {i : Nat} (h : ¬ At x y x.length i) : pre (tl y) ((tl x).drop i) = false := by
  cases hp : pre (tl y) ((tl x).drop i) with
  | false => rfl
  | true => exact absurd ((at_iff hy i).mpr hp) h
theorem len1 {y : Str} (hy : tl y ≠ []) : 1 ≤ y.length := by
  have e2 : 0 < (tl y).length := List.length_pos_iff.mpr hy
  rw [len_tl y]
  exact e2
theorem tl_strSub (x : Str) (i j : Nat) : tl (strSub x i j) = ((tl x).drop i).take (j - i) := strSub_toList x i j
theorem tl_strSub_end (x : Str) (i : Nat) : tl (strSub x i x.length) = (tl x).drop i := by
  rw [tl_strSub, len_tl x]
  exact List.take_of_length_le (by rw [List.length_drop] <;> omega)

theorem parts_spl {x y : Str} (hy : tl y ≠ []) : ∀ (cuts : List Nat) (a f : Nat), a ≤ (tl x).length → ChainG x y x.length a cuts f → (∀ k, f ≤ k → ¬ At x y x.length k) →
    (partsFrom x y.length a cuts).map tl = spl (tl y) 0 [] ((tl x).drop a)
  | [], a, f, ha, h, hn => by
    have e : f = a := h
    subst e
    show [tl (strSub x f x.length)] = _
    have run := spl_run (tl y) (tl x) ((tl x).length - f) f [] (by omega) (fun k h1 _ => no_at hy (hn k h1))
    have e2 : f + ((tl x).length - f) = (tl x).length := by omega
    rw [e2, List.drop_length, spl_nil, List.nil_append, List.take_of_length_le (by rw [List.length_drop] <;> omega)] at run
    rw [run, tl_strSub_end]
  | c :: r, a, f, ha, h, hn => by
    obtain ⟨h1, h2, h3, h4⟩ := h
    have hc : c + y.length ≤ x.length := h2.1
    have hx := len_tl x
    have hl := len_tl y
    have ih := parts_spl hy r (c + y.length) f (by omega) h4 hn
    show tl (strSub x a c) :: (partsFrom x y.length (c + y.length) r).map tl = _
    have run := spl_run (tl y) (tl x) (c - a) a [] (by omega) (fun k k1 k2 => no_at hy (h3 k k1 (by omega)))
    have e2 : a + (c - a) = c := by omega
    rw [e2, List.nil_append, spl_at hy ((at_iff hy c).mp h2)] at run
    rw [run, ih, tl_strSub, hl]

/-- hk: by kind_ok where the separator is plain -/
theorem split_spl (x y : Str) (hy : tl y ≠ []) (hk : ¬ Builtin.Str.strKind x < Builtin.Str.strKind y) : (Txt.split x y).map tl = spl (tl y) 0 [] (tl x) := by
  obtain ⟨f, g, hn⟩ := occ_tight x y (len1 hy)
  have key := parts_spl hy _ 0 f (Nat.zero_le _) g hn
  rw [List.drop_zero] at key
  have none_case : occurrences x y 0 x.length (x.length + 1) = [] → [x].map tl = spl (tl y) 0 [] (tl x) := fun ho => by
    rw [ho] at key
    rw [← key]
    show [tl x] = [tl (strSub x 0 x.length)]
    rw [sub_whole]
  unfold Txt.split
  by_cases h1 : (decide (x.length < y.length) || decide (Builtin.Str.strKind x < Builtin.Str.strKind y)) = true
  · rw [if_pos h1]
    have hlt : x.length < y.length := by
      simp only [Bool.or_eq_true, decide_eq_true_eq] at h1
      rcases h1 with h | h
      · exact h
      · exact absurd h hk
    refine none_case ?_
    cases ho : occurrences x y 0 x.length (x.length + 1) with
    | nil => rfl
    | cons c r =>
      rw [ho] at g
      have hc : c + y.length ≤ x.length := g.2.1.1
      omega
  · rw [if_neg h1]
    by_cases h2 : (occurrences x y 0 x.length (x.length + 1)).isEmpty = true
    · rw [if_pos h2]
      exact none_case (List.isEmpty_iff.mp h2)
    · rw [if_neg h2, partsBetween_eq]
      exact key
theorem kind_ok {x y : Str} (h : y.cps.all (· < 256) = true) : ¬ Builtin.Str.strKind x < Builtin.Str.strKind y := by
  have e : Builtin.Str.strKind y = 1 := by unfold PySem.Builtin.Str.strKind; rw [if_pos h]
  rw [e]
  unfold PySem.Builtin.Str.strKind
  split
  · omega
  · split <;> omega


/-! ### computing spl and par -/
/-- a part that the separator does not begin in, then the separator -/
theorem spl_part {S p rest acc : List Nat} (hS : S ≠ []) (h : ∀ i, i < p.length → pre S ((p ++ (S ++ rest)).drop i) = false) :
    spl S 0 acc (p ++ (S ++ rest)) = (acc ++ p) :: spl S 0 [] rest := by
  have run := spl_run S (p ++ (S ++ rest)) p.length 0 acc (by rw [List.length_append]; omega) (fun k _ k2 => h k (by omega))
  have ed : (p ++ (S ++ rest)).drop p.length = S ++ rest := List.drop_left
  rw [List.drop_zero, Nat.zero_add, List.take_left] at run
  rw [run, spl_at hS (by rw [ed]; exact pre_self S rest), ← drop_two, ed, List.drop_left]
theorem spl_last {S p acc : List Nat} (h : ∀ i, i < p.length → pre S (p.drop i) = false) : spl S 0 acc p = [acc ++ p] := by
  have run := spl_run S p p.length 0 acc (by omega) (fun k _ k2 => h k (by omega))
  rw [List.drop_zero, Nat.zero_add, List.drop_length, spl_nil, List.take_length] at run
  exact run
/-- the separator's first sign is not in the part -/
theorem free_of {s : Nat} {S p q : List Nat} (h : s ∉ p) : ∀ i, i < p.length → pre (s :: S) ((p ++ q).drop i) = false := fun i hi => by
  have hlt : i < (p ++ q).length := by rw [List.length_append]; omega
  have e : (p ++ q).drop i = (p ++ q)[i] :: (p ++ q).drop (i + 1) := List.drop_eq_getElem_cons hlt
  rw [e]
  refine pre_of_head _ _ fun z => h ?_
  have e1 : (p ++ q)[i] = p[i] := List.getElem_append_left hi
  rw [← z, e1]
  exact List.getElem_mem hi
theorem spl_part1 {s : Nat} {S p rest acc : List Nat} (h : s ∉ p) : spl (s :: S) 0 acc (p ++ (s :: S ++ rest)) = (acc ++ p) :: spl (s :: S) 0 [] rest :=
  spl_part (by simp) (free_of h)
theorem spl_last1 {s : Nat} {S p acc : List Nat} (h : s ∉ p) : spl (s :: S) 0 acc p = [acc ++ p] := spl_last fun i hi => by
  have z := free_of (S := S) (q := []) h i hi
  rw [List.append_nil] at z
  exact z

/-- joined lists -/
def joinL (S : List Nat) : List (List Nat) → List Nat
  | [] => []
  | [p] => p
  | p :: q :: r => p ++ (S ++ joinL S (q :: r))
theorem tl_join (y : Str) : ∀ parts : List Str, tl (Str.join y parts) = joinL (tl y) (parts.map tl)
  | [] => rfl
  | [_] => rfl
  | x :: z :: r => by
    show tl (x ++ y ++ Str.join y (z :: r)) = tl x ++ (tl y ++ joinL (tl y) ((z :: r).map tl))
    rw [tl_append, tl_append, tl_join y (z :: r), List.append_assoc]
theorem spl_join {s : Nat} {S : List Nat} : ∀ {parts : List (List Nat)}, parts ≠ [] → (∀ p ∈ parts, s ∉ p) → spl (s :: S) 0 [] (joinL (s :: S) parts) = parts
  | [], h, _ => absurd rfl h
  | [p], _, hp => by
    show spl (s :: S) 0 [] p = [p]
    rw [spl_last1 (hp p (List.mem_singleton.mpr rfl)), List.nil_append]
  | p :: q :: r, _, hp => by
    show spl (s :: S) 0 [] (p ++ (s :: S ++ joinL (s :: S) (q :: r))) = p :: q :: r
    rw [spl_part1 (hp p (List.mem_cons_self ..)), List.nil_append, spl_join (by simp) fun z hz => hp z (List.mem_cons_of_mem _ hz)]
theorem join_eq (y : Str) (parts : List Str) : Txt.join y parts = Str.join y parts := glued_eq_join y parts
/-- THE READ-BACK: a joined text, split -/
theorem split_join {y : Str} {s : Nat} {S : List Nat} (ey : tl y = s :: S) (hk : y.cps.all (· < 256) = true) {parts : List Str} (hne : parts ≠ []) (hp : ∀ p ∈ parts, s ∉ tl p) :
    Txt.split (Txt.join y parts) y = parts := by
  refine map_tl_inj ?_
  rw [split_spl _ y (by rw [ey]; simp) (kind_ok hk), join_eq, tl_join, ey]
  refine spl_join (fun e => hne (List.map_eq_nil_iff.mp e)) fun p h => ?_
  obtain ⟨z, hz, rfl⟩ := List.mem_map.mp h
  exact hp z hz

/-! ### digits -/

/-! ### words: x.split() -/
end TL
end 

namespace L2
open PySem PySem.Spec PyProof.Rows


/-- a list of texts, of numbered texts -/
theorem vals_strs : ∀ l : List (Str × Tok), Vals ((l.map (·.1)).map V.str) (strValues l)
  | [] => .nil
  | p :: r => .cons ⟨p.2, rfl⟩ (vals_strs r)
theorem strs_of_vals : ∀ {ys : List Str} {us : List Value}, Vals (ys.map V.str) us → StrsAre us ys
  | [], _, .nil => .nil
  | y :: ys, _, .cons r t => by
    obtain ⟨k, rfl⟩ := r
    exact .cons y k (strs_of_vals t)

/-- a new list of texts, tracked -/
def rNewStrs (ys : List Str) : Hp → VK → Prop := fun H Q => ∀ p, H p = none → Q (.ref p) (upd H p (.lst (ys.map V.str)))

section
variable {X : Cx} {pins : List (Addr × Obj)} {σ : St} {H : Hp} {s : Shared} {Q : VK}
theorem laid_strs {l : List (Str × Tok)} {ys : List Str} {k : Nat} (I : Inv X pins σ H s) (e : l.map (·.1) = ys) (hz : ys.length ≤ sizeLine) (h : rNewStrs ys H Q) :
    EP X pins σ Q (.ref s.heap.objs.size) { s with toks := k, heap := s.heap.push { cls := .type "list", data := .seq (strValues l).toArray } } := by
  have hp := I.hok.fresh (Nat.le_refl _)
  refine ⟨.ref s.heap.objs.size, upd H s.heap.objs.size (.lst (ys.map V.str)), I.laid (fun b u q => Heap.get?_push_of_some _ q) (Nat.le_refl _) ⟨by rw [List.length_map]; exact hz, strValues l, _, ?_, Heap.get?_push_size _ rfl⟩, rfl, h _ hp⟩
  rw [← e]
  exact vals_strs l
end

section
variable {X : Cx}

/-- x.split(sep) -/
theorem mt_split : MtR X "str.split" (fun x xs H Q => ∃ a b, x = .str a ∧ xs = [.str b] ∧ (b.length == 0) = false ∧ a.length + 2 ≤ sizeLine ∧ rNewStrs (Txt.split a b) H Q) := by
  intro pins s σ H x xs v us Q I rx rs h
  obtain ⟨a, b, rfl, rfl, hb, hz, h⟩ := h
  obtain ⟨t, rfl⟩ := rx
  cases rs with
  | cons r1 rs =>
    cases rs
    obtain ⟨u, rfl⟩ := r1
    have hl : (Txt.split a b).length ≤ sizeLine := Nat.le_trans (PyProof.Rows.split_le a b) hz
    have hn : (Builtin.Str.partsBetween a (Builtin.Str.occurrences a b 0 a.length (a.length + 1)) b.length).length ≤ sizeLine := by
      have e1 := StrLaws.occ_length_le a b 0 a.length (a.length + 1)
      rw [length_partsBetween]; omega
    cases h1 : (decide (a.length < b.length) || decide (Builtin.Str.strKind a < Builtin.Str.strKind b))
    · cases hf : (Builtin.Str.occurrences a b 0 a.length (a.length + 1)).isEmpty
      · refine call_meets F.slot_str_split (typeIs_str _ _ _) F.entry_str_split (F.args_str_split_2 _ _) (meets_str_split_sep a b t u h1 hb hf (by omega) hn) ?_
        show EP X pins σ Q (.ref s.heap.objs.size) { s with toks := _, heap := s.heap.push { cls := .type "list", data := .seq (strsFrom s.toks (Builtin.Str.partsBetween a (Builtin.Str.occurrences a b 0 a.length (a.length + 1)) b.length)).toArray } }
        rw [strsFrom_eq]
        exact laid_strs (ys := Txt.split a b) I ((numbered_texts _ _).trans ((if_neg (ne_true_of_eq_false h1)).trans (if_neg (ne_true_of_eq_false hf))).symm) hl h
      · refine call_meets F.slot_str_split (typeIs_str _ _ _) F.entry_str_split (F.args_str_split_2 _ _) (meets_str_split_not_found a b t u h1 hb hf) ?_
        exact laid_strs (l := [(a, t)]) (ys := Txt.split a b) (k := s.toks) I ((if_neg (ne_true_of_eq_false h1)).trans (if_pos hf)).symm hl h
    · refine call_meets F.slot_str_split (typeIs_str _ _ _) F.entry_str_split (F.args_str_split_2 _ _) (meets_str_split_cannot_occur a b t u h1) ?_
      exact laid_strs (l := [(a, t)]) (ys := Txt.split a b) (k := s.toks) I (if_pos h1).symm hl h



/-- sep.join(a list | a tuple of texts) -/
theorem mt_join : MtR X "str.join" (fun x xs H Q => ∃ a p, ∃ ys : List Str, x = .str a ∧ xs = [.ref p] ∧ (SqL X.K H p (ys.map V.str) ∨ SqT X.K H p (ys.map V.str)) ∧
    (ys.map (·.length)).sum + ys.length * a.length ≤ 16777216 ∧ Q (.str (Txt.join a ys)) H) := by
  intro pins s σ H x xs v us Q I rx rs h
  obtain ⟨a, p, ys, rfl, rfl, hp, hz, h⟩ := h
  obtain ⟨t, rfl⟩ := rx
  cases rs with
  | cons r1 rs =>
    cases rs
    cases r1
    rcases hp with hp | hp
    · obtain ⟨its, r, ⟨o, n, ho, hc, _, hd⟩, _⟩ := I.list hp
      exact PyProof.Rows.join_list (items := its.toArray) ⟨o, ho, hc, n, hd⟩ (by rw [List.toList_toArray]; exact strs_of_vals r) hz fun t' k => ⟨.str _, H, I.tok k, ⟨t', rfl⟩, h⟩
    · obtain ⟨its, r, ht, _⟩ := I.tuple hp
      exact PyProof.Rows.join_tuple (items := its.toArray) ht (by rw [List.toList_toArray]; exact strs_of_vals r) hz fun t' k => ⟨.str _, H, I.tok k, ⟨t', rfl⟩, h⟩

/-! ### of a text alone -/

/-! ### of a text and a text -/
theorem mt1 {id : String} {g : Str → Str → V} (rule : ∀ (a b : Str) (t u : Tok) (s : Shared) (Q : Value → Shared → Prop), (∀ (v : Value) (k : Nat), RelV (g a b) v → Q v { s with toks := k }) →
    wpAny (model X.prog X.w) X.A (call (.builtin id) [.str a t, .str b u]) Q X.xe s) : MtR X id (fun x xs H Q => ∃ a b, x = .str a ∧ xs = [.str b] ∧ Q (g a b) H) := by
  intro pins s σ H x xs v us Q I rx rs h
  obtain ⟨a, b, rfl, rfl, h⟩ := h
  obtain ⟨t, rfl⟩ := rx
  cases rs with
  | cons r1 rs =>
    cases rs
    obtain ⟨u, rfl⟩ := r1
    exact rule a b t u s _ fun v k r => ⟨g a b, H, I.tok k, r, h⟩
theorem mt_endswith : MtR X "str.endswith" (fun x xs H Q => ∃ a b, x = .str a ∧ xs = [.str b] ∧ Q (.bl (Txt.endswith a b)) H) :=
  mt1 (g := fun a b => .bl (Txt.endswith a b)) fun _ _ _ _ s _ h => PySem.SC.endswith (h _ s.toks rfl)

/-- int(text) -/
theorem call_int_str : CallR X (.type "int") (fun xs H Q => ∃ a n, xs = [.str a] ∧ PySem.intText? a = some n ∧ a.length ≤ 640 ∧ Q (.int n) H) := by
  intro pins s σ H xs us Q I rs h
  obtain ⟨a, n, rfl, hn, hl, h⟩ := h
  cases rs with
  | cons r1 rs =>
    cases rs
    obtain ⟨t, rfl⟩ := r1
    exact PySem.W.KIN.call_text hn hl ⟨.int n, H, I.tok _, ⟨_, rfl⟩, h⟩
end

section
variable {X : Cx} {o e : Expr} {to te : TE}
def tM1 (r : V → List V → Hp → VK → Prop) (to te : TE) : TE := fun σ H Q => to σ H fun x H1 => (∃ a, x = .str a) ∧ te σ H1 fun y H2 => r x [y] H2 Q
theorem pe_m1 {id : String} {name : Str} {apos pos : Pos} {r : V → List V → Hp → VK → Prop} (slot : Slot "str" name id) (ty : typeOf (.builtin id) = pure (.type "method_descriptor")) (rule : MtR X id r) (ho : PE X o to) (he : PE X e te)
    (hs : starEach [e] X.env = [(false, eval e X.env)] := by rfl) (hbase : attributeBase o name X.env (eval o X.env) = eval o X.env := by rfl) (hline : (apos.endLine == pos.line) = true := by rfl) :
    PE X (.Call (.Attribute o name apos) [e] [] pos) (tM1 r to te) := by
  intro pins s σ H Q I h
  refine PySem.Call_method1 hbase hs hline (thn (ho pins s σ H _ I h) fun v s1 ⟨x, H1, I1, r1, q1⟩ => ?_)
  obtain ⟨⟨a, rfl⟩, q1⟩ := q1
  obtain ⟨t, rfl⟩ := _root_.id r1
  refine ⟨"str", _, F.plainAttrs_str, slot, ty, typeIs_str _ _ _, (fun _ e => nomatch e), Calls.callWith_builtin rfl (Calls.evalArgs_plain (Calls.spliced_cons ?_))⟩
  exact thn (he pins s1 σ H1 _ I1 q1) fun u s2 ⟨y, H2, I2, r2, q2⟩ => Calls.spliced_nil (rule pins s2 σ H2 _ [y] _ [u] Q I2 r1 (.cons r2 .nil) q2)

theorem pe_split {apos pos : Pos} (ho : PE X o to) (he : PE X e te) (hs : starEach [e] X.env = [(false, eval e X.env)] := by rfl) (hbase : attributeBase o "split" X.env (eval o X.env) = eval o X.env := by rfl) (hline : (apos.endLine == pos.line) = true := by rfl) :
    PE X (.Call (.Attribute o "split" apos) [e] [] pos) (tM1 (fun x xs H Q => ∃ a b, x = .str a ∧ xs = [.str b] ∧ (b.length == 0) = false ∧ a.length + 2 ≤ sizeLine ∧ rNewStrs (Txt.split a b) H Q) to te) :=
  pe_m1 F.slot_str_split F.type_str_split mt_split ho he hs hbase hline
theorem pe_join {apos pos : Pos} (ho : PE X o to) (he : PE X e te) (hs : starEach [e] X.env = [(false, eval e X.env)] := by rfl) (hbase : attributeBase o "join" X.env (eval o X.env) = eval o X.env := by rfl) (hline : (apos.endLine == pos.line) = true := by rfl) :
    PE X (.Call (.Attribute o "join" apos) [e] [] pos) (tM1 (fun x xs H Q => ∃ a p, ∃ ys : List Str, x = .str a ∧ xs = [.ref p] ∧ (SqL X.K H p (ys.map V.str) ∨ SqT X.K H p (ys.map V.str)) ∧
      (ys.map (·.length)).sum + ys.length * a.length ≤ 16777216 ∧ Q (.str (Txt.join a ys)) H) to te) :=
  pe_m1 F.slot_str_join F.type_str_join mt_join ho he hs hbase hline
end
end L2

namespace L2
open PySem PySem.Spec PyProof.Rows

section
variable {X : Cx}
end

/-! ### slices of a text -/
theorem IsPart.raw {v : Value} {o : Option Int} (p : IsPart v o) : ∃ l : Option (Int × Tok), v = partValue l ∧ l.map (·.1) = o := by
  cases p with
  | none => exact ⟨none, rfl, rfl⟩
  | int i t => exact ⟨some (i, t), rfl, rfl⟩

/-- a part, clipped, as the text's slice reckons it -/
def clipS (n d : Nat) : Option Int → Int
  | none => (d : Int)
  | some i => max 0 (min (if i < 0 then i + (n : Int) else i) (n : Int))
theorem clipS_eq (n d : Nat) (o : Option Int) : clipS n d o = ((HT.sIx n d o : Nat) : Int) := by
  cases o with
  | none => rfl
  | some v =>
    show max (0 : Int) (min (if v < 0 then v + (n : Int) else v) (n : Int)) = (((if v < 0 then (v + (n : Int)).toNat else min v.toNat n) : Nat) : Int)
    by_cases hv : v < 0
    · simp only [if_pos hv]
      omega
    · simp only [if_neg hv]
      omega
theorem sidx_clip (a b : Option Int) (n : Nat) : Builtin.Str.strSliceIndices a b 1 n = sliceRange (clipS n 0 a) (clipS n n b) 1 := by
  have h1 : ((1 : Int) > 0) = True := by simp
  cases a <;> cases b <;> first
    | rfl
    | (simp only [Builtin.Str.strSliceIndices, clipS, h1, if_true]; rfl)
    | simp [Builtin.Str.strSliceIndices, clipS]
theorem sidx (a b : Option Int) (n : Nat) : Builtin.Str.strSliceIndices a b 1 n = (List.range (HT.sIx n n b - HT.sIx n 0 a)).map (fun k => HT.sIx n 0 a + k) := by
  rw [sidx_clip, clipS_eq, clipS_eq]
  generalize HT.sIx n 0 a = p
  generalize HT.sIx n n b = q
  simp only [sliceRange, show ((1 : Int) > 0) = True from by simp, if_true]
  by_cases hlt : (p : Int) < q
  · have e3 : (((q : Int) - p + 1 - 1) / 1).toNat = q - p := by first | omega | (simp; done) | (simp; omega)
    simp only [hlt, if_true, e3]
    refine List.map_congr_left fun k _ => ?_
    omega
  · have : q - p = 0 := by omega
    simp [hlt, this]

/-- z[lo:hi] -/
def cutS (z : Str) (lo hi : Option Int) : Str :=
  ⟨((z.cps.toList.drop (HT.sIx z.length 0 lo)).take (HT.sIx z.length z.length hi - HT.sIx z.length 0 lo)).toArray⟩
theorem sliceText_cut (z : Str) (lo hi : Option Int) : PySem.StrLaws.sliceText z lo hi = cutS z lo hi := by
  have h1 : HT.sIx z.length 0 lo ≤ z.length := HT.sIx_le _ _ (Nat.zero_le _) _
  have h2 : HT.sIx z.length z.length hi ≤ z.length := HT.sIx_le _ _ (Nat.le_refl _) _
  have hp : HT.sIx z.length 0 lo ≤ max (HT.sIx z.length 0 lo) (HT.sIx z.length z.length hi) := Nat.le_max_left _ _
  have hq : max (HT.sIx z.length 0 lo) (HT.sIx z.length z.length hi) ≤ z.length := Nat.max_le.mpr ⟨h1, h2⟩
  have hd : max (HT.sIx z.length 0 lo) (HT.sIx z.length z.length hi) - HT.sIx z.length 0 lo = HT.sIx z.length z.length hi - HT.sIx z.length 0 lo := by omega
  have e : Builtin.Str.strSliceIndices lo hi 1 z.length =
      Builtin.Str.strSliceIndices (some ((HT.sIx z.length 0 lo : Nat) : Int)) (some ((max (HT.sIx z.length 0 lo) (HT.sIx z.length z.length hi) : Nat) : Int)) 1 z.length := by
    rw [PySem.StrLaws.strSliceIndices_plain hp hq, hd, sidx]
  have e2 : PySem.StrLaws.sliceText z lo hi =
      PySem.StrLaws.sliceText z (some ((HT.sIx z.length 0 lo : Nat) : Int)) (some ((max (HT.sIx z.length 0 lo) (HT.sIx z.length z.length hi) : Nat) : Int)) := by
    unfold PySem.StrLaws.sliceText
    rw [e]
  rw [e2, PySem.StrLaws.sliceText_nat z hp hq, hd]
  rfl
theorem cutS_length (z : Str) (lo hi : Option Int) : (cutS z lo hi).length ≤ z.length := by
  show (((z.cps.toList.drop (HT.sIx z.length 0 lo)).take (HT.sIx z.length z.length hi - HT.sIx z.length 0 lo)).toArray).size ≤ z.cps.size
  rw [List.size_toArray, List.length_take, List.length_drop, Array.length_toList]
  omega
def rSlS : V → Option Int → Option Int → Hp → VK → Prop := fun x lo hi H Q => ∃ z, x = .str z ∧ z.length ≤ sizeLine ∧ Q (.str (cutS z lo hi)) H
theorem sl_str {X : Cx} : SlR X rSlS := by
  intro pins s σ H x v vl vu lo hi sl Q I rx hs pl pu h
  obtain ⟨z, rfl, hz, q⟩ := h
  obtain ⟨t, rfl⟩ := rx
  obtain ⟨os, hos, hcs, hds⟩ := hs
  obtain ⟨l, rfl, rfl⟩ := IsPart.raw pl
  obtain ⟨u, rfl, rfl⟩ := IsPart.raw pu
  refine ⟨"str", _, F.slot_str_getitem.lookup, typeIs_str _ _ _, ?_⟩
  refine wpAny_getItem_str_slice (l := l) (u := u) (st := none) ⟨os, hos, hcs, hds⟩ rfl ?_
  have hl : (PySem.StrLaws.sliceText z (l.map (·.1)) (u.map (·.1))).length ≤ sizeLine := by
    rw [sliceText_cut]
    exact Nat.le_trans (cutS_length z _ _) hz
  rw [← sliceText_cut] at q
  unfold PySem.StrLaws.sliceText at q hl
  show Made.post (if ((1 : Int) == 1 && (Builtin.Str.strSliceIndices (l.map (·.1)) (u.map (·.1)) 1 z.length).length == z.length) = true then Made.val (.str z t)
    else Made.str ⟨((Builtin.Str.strSliceIndices (l.map (·.1)) (u.map (·.1)) 1 z.length).filterMap (z.cps[·]?)).toArray⟩) (EP X pins σ Q) s
  by_cases c : ((1 : Int) == 1 && (Builtin.Str.strSliceIndices (l.map (·.1)) (u.map (·.1)) 1 z.length).length == z.length) = true
  · rw [if_pos c] at q ⊢
    exact ⟨.str z, H, I, ⟨t, rfl⟩, q⟩
  · rw [if_neg c] at q hl ⊢
    exact ⟨hl, .str _, H, I.tok _, ⟨_, rfl⟩, q⟩
end L2

namespace Att
open PySem PySem.W PySem.Calls PyProof.Rows

/-! ### the script -/
theorem ints_of_wellAll {P : Params} {h : Heap} : ∀ (ns : List Int) (vs : List Value), WellAll P h vs (ns.map WData.int) → IntsAre vs ns := by
  intro ns
  induction ns with
  | nil =>
    intro vs w
    rw [List.map_nil] at w
    cases w
    exact .nil
  | cons n ns ih =>
    intro vs w
    rw [List.map_cons] at w
    cases w with
    | cons a b =>
      cases a
      exact .cons _ _ (ih _ b)

theorem script_of {l : OpenLaw} {n : Nat} (hn : l.most = some n) {P : Params} {h : Heap} {args : List WData} {vals : List Value}
    (hpre : l.row.toRowW.claim.pre args = true) (hwl : WellAll P h vals args) :
    ∃ a vs ns, vals = [Value.ref a] ∧ args = [WData.list (ns.map WData.int)] ∧ h.get? a = some { cls := .type "list", data := .seq vs.toArray } ∧ IntsAre vs ns ∧ ns.length ≤ n := by
  have hsh : WShape.hasAll [] args [.list .int] = true := (pre_splitW hpre).1
  have hc : l.pre.holds [] { args := args } = true := (pre_splitW hpre).2
  obtain ⟨d, r, rfl, h1, h2⟩ := hasAllW_cons hsh
  obtain rfl := hasAllW_nil h2
  obtain ⟨xs, rfl, h3⟩ := hasW_list h1
  obtain ⟨ns, rfl⟩ := items_int h3
  have hlen : ns.length ≤ n := by
    unfold OpenLaw.pre at hc
    have h4 : (WTm.not (.lt (.lit (.int (n : Int))) (.len (.arg 0)))).holds [] { args := [.list (ns.map .int)] } = true := by
      have h4 := (holds_andW hc).1
      rw [hn] at h4
      exact h4
    have h5 := condW_of h4 (w_not (w_lt w_lit (w_len_list (w_arg rfl))))
    rw [List.length_map] at h5
    refine Nat.le_of_not_lt fun q => ?_
    have q' : (n : Int) < ((ns.length : Nat) : Int) := by omega
    first
      | (rw [decide_eq_true q'] at h5; exact absurd h5 (by decide))
      | (simp at h5; omega)
  cases hwl with
  | cons w1 w2 =>
    cases w2
    cases w1 with
    | list ho hall => exact ⟨_, _, ns, rfl, rfl, ho, ints_of_wellAll ns _ hall, hlen⟩

theorem post_true (l : OpenLaw) (args : List WData) : l.row.toRowW.claim.post args (.bool true) args = true :=
  postW_of (r := l.row.toRowW) (X := (true == true))
    (show WShape.has [] (.bool true) .bool = true by first | rfl | decide | simp [WShape.has, WShape.arms, WShape.armsAll])
    (show (WTm.eq .res (.lit (.bool true))).value [] { args := args, res := some (.bool true), after := args } = some (.bool (true == true)) from w_eq_bool (w_res rfl) w_lit) rfl

/-! ### the attachment: holds_open's last premise (the goal 'hc' behind k_head) from a wpAny of the law's body -/

/-- the same from a codeAny of the CALL (for a layer whose function contracts speak of calls) -/
theorem attach_call {l : OpenLaw} {n : Nat} {q : Program} {loose : List Str} {XP : (Str → Option Value) → Heap → Prop} {YP : World → Heap → Prop} {d : DefRec}
    (hn : l.most = some n) (hdf : d.params.defaults = [])
    (call : ∀ (w : World) (s₀ s₁ : Shared) (mg mb : Str → Option Value) (fa : Addr) (o : Obj) (pm cd doc : Value) (a : Addr) (vs : List Value) (ns : List Int),
      Ground q loose [] XP w s₀ mg mb s₁.heap → YP w s₁.heap →
      s₁.heap.get? fa = some o → o.data = .func (docDef d.name d.params d.body d.scope pm cd doc) → s₁.heap.CodeRec cd d.name → mg d.name = some (.ref fa) →
      s₁.heap.get? a = some { cls := .type "list", data := .seq vs.toArray } → IntsAre vs ns → ns.length ≤ n → s₁.gens = #[] →
      codeAny (model l.prog w) callerA (.call (.ref fa) ⟨[.ref a], []⟩) (fun r s' => r = .ok (.ret (.bool true)) ∧ OldK s₁.heap s'.heap ∧ s'.os = s₁.os ∧ AllBare s'.gens) s₁) :
    WalkO q loose XP YP l.row.toRowW d [] (fun f vs => PySem.call f vs) := by
  intro w s₀ s₁ mg mb G Y fa o pm cd doc dV kV ho hd hcd hD hmg hg args vals as hpre hlay hrd hwl hlo
  obtain rfl : dV = .none := Dflts.none hD hdf
  obtain rfl : kV = .none := Dflts.noKw hD
  obtain ⟨a, vs, ns, rfl, rfl, hobj, hints, hlen⟩ := script_of hn hpre hwl
  refine enter_call (codeAny_mono (call w s₀ s₁ mg mb fa o pm cd doc a vs ns G Y ho (fd_plain hd) hcd hmg hobj hints hlen hg) fun r s' hq => ?_)
  obtain ⟨rfl, h2, h3, h4⟩ := hq
  exact ⟨.inl ⟨.bool true, .bool true, [], rfl, fun _ => rfl, .bool true, post_true l _, fun _ => ⟨List.Pairwise.nil, fun _ hm => (nomatch hm)⟩⟩, h2, h3, h4⟩


/-! ### rules over ANY heap (no ledger) from facts about the written part K: the library's own take a ledger (News) for what they write -/
section
variable {prog : Program} {w : World} {A : Around} {E : Value → Shared → Prop} {s : Shared} {K : Frag}





/-! the whole heap as the ledger: makes every rule that writes through a ledger a rule over any heap -/

end
end Att

namespace L2
open PySem PySem.Spec PyProof.Rows

theorem vals_ints : ∀ {vs : List Value} {ns : List Int}, IntsAre vs ns → Vals (ns.map V.int) vs
  | _, _, .nil => .nil
  | _, _, .cons n t h => .cons ⟨t, rfl⟩ (vals_ints h)

/-- nothing is tracked but the script, known to the object (or it is an object of the module) -/
def Only (H : Hp) : Prop := ∀ b, H b = none ∨ ∃ o xs, H b = some (.frz o (.lst xs))

/-- THE HEAD: the law's promise, at the heap behind the top. F, the promise of the law's def, may use that base is part of the heap (so K.In base, base.Ns mainGlobals mg stand in Mod) -/
theorem law_call {P : Program} {w : World} {K : PySem.W.Frag} {mg mb : Str → Option Value} {CX : CXT} {k : Nat} {fa a : Addr} {fd : FuncData} {x : Str} {sp : Sp} {s₁ : Shared} {vs : List Value} {ns : List Int}
    (KX : K.In s₁.heap) (hns : s₁.heap.Ns mainGlobals mg) (hb : s₁.heap.Ns builtinsNs mb) (hbb : ∀ x : Str, x ≠ "__name__" → mb x = bootBuiltins x) (hlim : s₁.heap.NoLimit) (hg : s₁.gens = #[])
    (ha : s₁.heap.get? a = some { cls := .type "list", data := .seq vs.toArray }) (hi : IntsAre vs ns) (hl : ns.length ≤ sizeLine) (hr : Room k callerA)
    (F : ∀ base : Heap, K.In base → base.Ns mainGlobals mg → FnOk P w K mg base CX k fa fd [x] sp) (hbind : ∀ (s : Shared) (u : Value), BindsTo s fd ⟨[u], []⟩ [(x, u)])
    (hsp : ∀ H : Hp, Only H → SqL K H a (ns.map V.int) → sp [.ref a] H (fun v _ => v = .bl true) fun _ _ _ => False)
    (hCX : ∀ H e s', CX [] H s₁ (fun _ _ _ => False) e s' → False) :
    codeAny (model P w) callerA (.call (.ref fa) ⟨[.ref a], []⟩) (fun r s' => r = .ok (.ret (.bool true)) ∧ OldK s₁.heap s'.heap ∧ s'.os = s₁.os ∧ AllBare s'.gens) s₁ := by
  have rv := vals_ints hi
  have lenV := hi.length
  -- from an abstract heap in which nothing but the script may be tracked
  have core : ∀ H : Hp, Only H → SqL K H a (ns.map V.int) → HOk P w H s₁.heap → (∀ b, H b ≠ none → b = a) → (H a ≠ none → K.lookup a = none) →
      codeAny (model P w) callerA (.call (.ref fa) ⟨[.ref a], []⟩) (fun r s' => r = .ok (.ret (.bool true)) ∧ OldK s₁.heap s'.heap ∧ s'.os = s₁.os ∧ AllBare s'.gens) s₁ := by
    intro H hO hS hok hA hK
    have base_of : ∀ {b : Addr} {o : Obj}, s₁.heap.get? b = some o → H b = none → (hidT s₁.heap H).get? b = some o := fun e n => hidT_get e n
    have noA : ∀ {b : Addr} {o : Obj} {es : Array DictEntry} {ep : Nat}, s₁.heap.get? b = some o → o.data = .dict es ep → H b = none := fun {b o es ep} e d => by
      cases q : H b with
      | none => rfl
      | some u =>
        have e' : b = a := hA b (by rw [q]; simp)
        subst e'
        rw [ha] at e; cases e
        have d' : Data.seq vs.toArray _ = Data.dict es ep := d
        cases d'
    have nsK : ∀ {b : Addr} {m : Str → Option Value}, s₁.heap.Ns b m → (hidT s₁.heap H).Ns b m := fun {b m} ⟨o, es, ep, e, d, r⟩ => ⟨o, es, ep, base_of e (noA e d), d, r⟩
    have hKb : K.In (hidT s₁.heap H) := fun b o e => base_of (KX b o e) (by
      cases q : H b with
      | none => rfl
      | some u =>
        have e' : b = a := hA b (by rw [q]; simp)
        subst e'
        rw [hK (by rw [q]; simp)] at e; cases e)
    have hM : Mod K mg (hidT s₁.heap H) := ⟨hKb, nsK hns, ⟨mb, nsK hb, hbb⟩, let ⟨mc, h1, h2⟩ := hlim; ⟨mc, nsK h1, h2⟩⟩
    have e0 : Env0 P w K mg (hidT s₁.heap H) callerA [] s₁ H := ⟨rfl, hM, fun b o e => of_hidT e, Nat.le_of_eq (hidT_size _ _), trivial, fun b hb => absurd (show b ∈ ([] : List Addr) from hb) (by simp), hok, .of_eq hg⟩
    refine codeAny_mono ((F _ hKb (nsK hns)).run callerA [] s₁ H ⟨[.ref a], []⟩ [.ref a] [.ref a] _ _ hr e0 (hbind s₁ (.ref a)) (.cons rfl .nil) (hsp H hO hS)) fun r s' h => ?_
    cases r with
    | error e => exact (hCX H e s' h).elim
    | ok fl =>
      cases fl with
      | next => exact False.elim h
      | brk => exact False.elim h
      | cont => exact False.elim h
      | ret u =>
        obtain ⟨v, H', os, bare, un, hok', r', q⟩ := h
        have q' : v = .bl true := q
        subst q'
        obtain rfl : u = Value.bool true := r'
        refine ⟨rfl, OldK.of_keep fun b o e => ?_, os, bare⟩
        cases q : H b with
        | none => exact un.keep b o e q (by intro z; exact absurd (show b ∈ ([] : List Addr) from z) (by simp)) (by simp)
        | some u =>
          rcases hO b with z | ⟨ob, xs, z⟩
          · rw [q] at z; cases z
          · have z2 := un.frzs b ob _ z
            obtain ⟨e1, _⟩ := hok b _ z
            obtain ⟨e2, _⟩ := hok' b _ z2
            rw [e] at e1; cases e1
            exact e2
  cases hk : K.lookup a with
  | some o =>
    -- the script is one of the module's own objects
    have e := KX a o hk
    rw [ha] at e
    cases e
    refine core (fun _ => none) (fun _ => .inl rfl) (.inr ⟨_, vs.toArray, _, hk, rfl, rfl, rfl, by rw [List.size_toArray, lenV]; exact hl, by simpa using rv⟩) (fun b u z => by have z' : (none : Option HO) = some u := z; cases z') (fun b z => absurd rfl z) fun z => absurd rfl z
  | none =>
    refine core (fun b => if b = a then some (.frz { cls := .type "list", data := .seq vs.toArray } (.lst (ns.map V.int))) else none) (fun b => ?_) (.inl (.inr ⟨{ cls := .type "list", data := .seq vs.toArray }, if_pos rfl⟩)) (fun b u z => ?_) (fun b z => ?_) fun _ => hk
    · by_cases hb : b = a
      · exact .inr ⟨_, _, if_pos hb⟩
      · exact .inl (if_neg hb)
    · by_cases hb : b = a
      · have z' := (if_pos hb).symm.trans z
        cases z'
        subst hb
        exact ⟨ha, by rw [List.length_map]; exact hl, vs, _, rv, ha⟩
      · have z' := (if_neg hb).symm.trans z
        cases z'
    · by_cases hb : b = a
      · exact hb
      · exact absurd (if_neg hb) z
end L2

namespace L2
open PySem PySem.Spec PyProof.Rows


/-- the goal that k_head leaves (case hc), from the law's promise. F gives the function object fd (K's own) once, then the promise over every base -/
theorem walk_of {l : PySem.W.OpenLaw} {n k : Nat} {q : Program} {loose : List Str} {XP : (Str → Option Value) → Heap → Prop} {YP : World → Heap → Prop} {d : DefRec} {K : Params → PySem.W.Frag} {CX : World → CXT} {sp : World → Sp} {x : Str}
    (hn : l.most = some n) (hn2 : n ≤ sizeLine) (hdf : d.params.defaults = []) (hr : Room k callerA)
    (hY : ∀ (w : World) (h : Heap), YP w h → (K w.params).In h)
    (F : ∀ (w : World) (mg : Str → Option Value) (fa : Addr) (h : Heap), (K w.params).In h → h.Ns mainGlobals mg → mg d.name = some (.ref fa) →
      ∃ fd : FuncData, (∀ (s : Shared) (u : Value), BindsTo s fd ⟨[u], []⟩ [(x, u)]) ∧
        ∀ base : Heap, (K w.params).In base → base.Ns mainGlobals mg → FnOk l.prog w (K w.params) mg base (CX w) k fa fd [x] (sp w))
    (hsp : ∀ (w : World) (H : Hp) (a : Addr) (ns : List Int), ns.length ≤ n → Only H → SqL (K w.params) H a (ns.map V.int) → sp w [.ref a] H (fun v _ => v = .bl true) fun _ _ _ => False)
    (hCX : ∀ (w : World) (H : Hp) (s : Shared) (e : Value) (s' : Shared), CX w [] H s (fun _ _ _ => False) e s' → False) :
    PySem.W.WalkO q loose XP YP l.row.toRowW d [] (fun f vs => PySem.call f vs) := by
  refine Att.attach_call hn hdf fun w s₀ s₁ mg mb fa o pm cd doc a vs ns G Y ho hd hcd hmg hobj hints hlen hg => ?_
  have KX := hY w _ Y
  obtain ⟨fd, hb, hF⟩ := F w mg fa _ KX G.T.g hmg
  exact law_call KX G.T.g G.T.b G.T.builtins G.T.nolimit hg hobj hints (Nat.le_trans hlen hn2) hr hF hb (fun H hO hS => hsp w H a ns hlen hO hS) fun H e s' => hCX w H s₁ e s'
end L2

/- THE LAST THEOREM (shape; LID, My.* are yours):
   My.Adr: a structure of the addresses that your layer names (classes, functions); My.Txt K t: a structure (Prop) of the equations over K;
   My.txt_mk : {K} {implicit addresses ..} (e1 : nsIn K mainGlobals "law" = some (some (.ref f))) (e2 : K.lookup f = some ⟨oc, od, .func (fnOf "law" "law" params body scope dV kV doc pm an cdv ct), sl⟩) (e3 : codeIn K cdv "law" = true) .. : ∃ t, My.Txt K t

set_option maxRecDepth 100000 in
set_option maxHeartbeats 0 in
theorem PySem.Challenge.cw_LID_holds : PySem.Challenge.rw_LID.Holds := by
  w_on; o_law; k_head; (case hw => w_witness2)
  k_fill
  refine L2.walk_of (l := PySem.Challenge.rw_LID) (n := 63) (k := 40) (x := "script") (CX := fun w => ..) (sp := fun _ => My.sp_law) rfl (by decide) rfl ⟨rfl, by decide, by decide⟩ (fun w h Y => PySem.W.kIn_of Y) ?F ?S ?C
  case F =>
    intro w mg fa h KX G hmg
    have T : ∃ t, My.Txt (L2.KOf KX) t := by
      dsimp only [L2.KOf]                          -- K must stand as «<heap const> w.params» for k_is
      refine' My.txt_mk ?e1 ?e2 ?e3 ..
      (case e1 => PySem.W.k_is)                    -- in the order: a name -> its address -> its object -> its parts
      (case e2 => PySem.W.k_is)
      ..
    obtain ⟨t, T⟩ := T
    have e0 := hmg.symm.trans (PySem.W.mg_of KX G T.law)
    cases e0                                       -- fa is the law's own address
    exact ⟨_, fun s u => .of_eq rfl, fun base kb nb => My.law_fn T kb nb⟩     -- if «.of_eq rfl» comes too early: refine' ⟨_, ?b, fun base kb nb => My.law_fn T kb nb⟩; exact fun s u => .of_eq rfl
  case S => exact fun w H a ns hl hO hS => ..
  case C => exact ..
(the tactic k_is has no namespace: write k_is) -/

/-! SHORT WORDS over the layer: a def of the text, its body, what a loop and a test want. -/
namespace L2
open PySem PySem.Spec PyProof.Rows

/-! ### the text by places -/
def defArgs (s : Stmt) : Arguments := match s with
  | .FunctionDef _ a _ _ _ _ _ _ _ _ => a
  | _ => { posonlyargs := [], args := [], vararg := none, kwonlyargs := [], kw_defaults := [], kwarg := none, defaults := [] }
def defBody (s : Stmt) : List Stmt := match s with
  | .FunctionDef _ _ b _ _ _ _ _ _ _ => b
  | _ => []
def defScope (s : Stmt) : Scope := match s with
  | .FunctionDef _ _ _ _ _ _ sc _ _ _ => sc
  | _ => { kind := .function, names := [], isGenerator := false, isCoroutine := false }

/-! ### no exception leaves a def -/
abbrev CX0 : CXT := fun _ _ _ _ _ _ => False
abbrev E0 : XK := fun _ _ _ => False
theorem pass0 {X : Cx} : Passes CX0 X E0 := fun _ _ _ _ _ _ _ h => h.elim

/-! ### a def (or method) of the text as it stands behind the top -/
structure Fun (K : PySem.W.Frag) (x qual : Str) (st : Stmt) (f : Addr) (fd : FuncData) : Prop where
  ex : ∃ (oc : Value) (od : Option Addr) (kV doc pm : Value) (an : Option Addr) (cdv ct : Value) (osl : Array (Option Value)),
    fd = PySem.W.fnOf x qual (defArgs st) (defBody st) (defScope st) .none kV doc pm an cdv ct ∧ K.lookup f = some ⟨oc, od, .func fd, osl⟩ ∧ PySem.W.codeIn K cdv qual = true
  kp : PySem.W.keepIn K (.ref f) = true
section
variable {P : Program} {w : World} {K : PySem.W.Frag} {mg : Str → Option Value} {base : Heap}
/-- THE RULE for a def: its body as a term of rules, and the reading of that term -/
theorem Fun.ok {x qual : Str} {st : Stmt} {f : Addr} {fd : FuncData} {N ps : List Str} {k : Nat} {sp : Sp} (F : Fun K x qual st f fd) (S : FnScope N ps (defScope st)) (len : ∀ vs H Q E, sp vs H Q E → vs.length = ps.length)
    (hbody : ∀ (cdv : Value) (A : Around) (outer : List Env) (s : Shared) (H : Hp) (vs : List V) (Q : VK) (E : XK), Room k (A.deeper (envOfC qual (defScope st) s.heap.objs.size f cdv)) → sp vs H Q E →
      ∃ t, PSs (cxOf CX0 P w K mg base N qual (defScope st) f cdv A outer s H E).nox (defBody st) t ∧ t { nx := fun _ H' => Q .non H', rt := Q } (start N vs) H) : FnOk P w K mg base CX0 (k + 1) f fd ps sp := by
  obtain ⟨oc, od, kV, doc, pm, an, cdv, ct, osl, rfl, lk, hcd⟩ := F.ex
  refine fn_of lk hcd S len fun A outer s H vs Q E hr hsp => ?_
  obtain ⟨t, h, q⟩ := hbody cdv A outer s H vs Q E hr hsp
  exact ⟨t, h.nox, q⟩
/-- how its arguments bind (no defaults): h is «fun _ _ _ _ _ _ us hl => match us, hl with | [_, _], _ => rfl», one _ a parameter -/
theorem Fun.binds {x qual : Str} {st : Stmt} {f : Addr} {fd : FuncData} {ps : List Str} (F : Fun K x qual st f fd)
    (h : ∀ (kV doc pm : Value) (an : Option Addr) (cdv ct : Value) (us : List Value), us.length = ps.length → bindArgs (PySem.W.fnOf x qual (defArgs st) (defBody st) (defScope st) .none kV doc pm an cdv ct) ⟨us, []⟩ = pure (ps.zip us)) : Binds K fd ps [] := by
  obtain ⟨oc, od, kV, doc, pm, an, cdv, ct, osl, rfl, lk, hcd⟩ := F.ex
  exact .all (h kV doc pm an cdv ct)
theorem fun_mk {x qual : Str} {st : Stmt} {f : Addr} {oc : Value} {od an : Option Addr} {osl : Array (Option Value)} {kV doc pm cdv ct : Value} (l : K.lookup f = some ⟨oc, od, .func (PySem.W.fnOf x qual (defArgs st) (defBody st) (defScope st) .none kV doc pm an cdv ct), osl⟩)
    (c : PySem.W.codeIn K cdv qual = true) (k : PySem.W.keepIn K (.ref f) = true) : Fun K x qual st f (PySem.W.fnOf x qual (defArgs st) (defBody st) (defScope st) .none kV doc pm an cdv ct) := ⟨⟨oc, od, kV, doc, pm, an, cdv, ct, osl, rfl, l, c⟩, k⟩
end

/-! ### expressions in short: the name that stands in the i-th slot -/
section
variable {X : Cx}
end

/-! ### tests -/

/-! ### heaps -/

/-! ### a dict's pairs: keys that differ -/
section
variable {κ : Type} [DecidableEq κ]
end
/-! ### lists -/
end L2

set_option linter.all false
namespace ST
open PySem PySem.SetTable

/-! ### the way of a probe -/
def adv (m : Nat) (p : Probe) : Probe :=
  if p.more > 0 then { p with j := p.j + 1, more := p.more - 1 } else
  { p with j := (leap m p.i p.perturb).1, more := runEnd m (leap m p.i p.perturb).1 - (leap m p.i p.perturb).1, i := (leap m p.i p.perturb).1, perturb := (leap m p.i p.perturb).2 }
theorem advance_eq (t : SetTable) (p : Probe) : t.advance p = adv t.mask p := rfl
def stt (m : Nat) (h : Int) : Probe :=
  { j := bits h % (m + 1), more := runEnd m (bits h % (m + 1)) - bits h % (m + 1), i := bits h % (m + 1), perturb := bits h, dummy := none }
def pth (m : Nat) : Probe → Nat → Probe
  | p, 0 => p
  | p, n + 1 => pth m (adv m p) n
theorem pth_succ (m : Nat) : ∀ (n : Nat) (p : Probe), pth m p (n + 1) = adv m (pth m p n)
  | 0, _ => rfl
  | n + 1, p => by
    show pth m (adv m p) (n + 1) = _
    rw [pth_succ m n]; rfl
theorem pth_add (m : Nat) : ∀ (a b : Nat) (p : Probe), pth m p (a + b) = pth m (pth m p a) b
  | 0, b, p => by rw [Nat.zero_add]; rfl
  | a + 1, b, p => by
    rw [Nat.add_right_comm]
    exact pth_add m a b (adv m p)
/-- the dummy goes along -/
theorem adv_dummy (m : Nat) (p : Probe) (d : Option Nat) : adv m { p with dummy := d } = { adv m p with dummy := d } := by
  unfold adv
  by_cases h : p.more > 0
  · rw [if_pos h, if_pos h]
  · rw [if_neg h, if_neg h]
theorem adv_keeps (m : Nat) (p : Probe) : (adv m p).dummy = p.dummy := by
  unfold adv; split <;> rfl
/-- two probes alike but for the dummy -/
structure Alike (p q : Probe) : Prop where
  j : p.j = q.j
  more : p.more = q.more
  i : p.i = q.i
  perturb : p.perturb = q.perturb
theorem Alike.refl (p : Probe) : Alike p p := ⟨rfl, rfl, rfl, rfl⟩
theorem Alike.adv {p q : Probe} (a : Alike p q) (m : Nat) : Alike (adv m p) (adv m q) := by
  obtain ⟨h1, h2, h3, h4⟩ := a
  unfold ST.adv
  rw [h2]
  by_cases h : q.more > 0
  · rw [if_pos h, if_pos h]; exact ⟨by simp [h1], rfl, h3, h4⟩
  · rw [if_neg h, if_neg h, h3, h4]; exact ⟨rfl, rfl, rfl, rfl⟩
theorem Alike.pth {m : Nat} : ∀ (n : Nat) {p q : Probe}, Alike p q → Alike (pth m p n) (pth m q n)
  | 0, _, _, a => a
  | n + 1, _, _, a => Alike.pth n (a.adv m)

/-- masks whose leaps come everywhere -/
def lp (m x : Nat) : Nat := (x * 5 + 1) % (m + 1)
def itl (m : Nat) : Nat → Nat → Nat
  | 0, x => x
  | n + 1, x => itl m n (lp m x)
structure Good (m : Nat) : Prop where
  odd : m % 2 = 1
  most : m ≤ 8191
  least : 7 ≤ m
  full : ∀ i e, i ≤ m → e ≤ m → ∃ r, r ≤ m ∧ itl m r i = e
/-- what a probe's numbers keep -/
structure PrOk (m : Nat) (p : Probe) : Prop where
  i : p.i ≤ m
  j : p.j + p.more ≤ m
  more : p.more ≤ 9
theorem runEnd_le (m i : Nat) (h : i ≤ m) : runEnd m i ≤ m := by unfold runEnd; split <;> omega
theorem runEnd_ge (m i : Nat) : i ≤ runEnd m i := by unfold runEnd; split <;> omega
theorem runEnd_nine (m i : Nat) : runEnd m i - i ≤ 9 := by unfold runEnd; split <;> omega
theorem leap_le (m i q : Nat) : (leap m i q).1 ≤ m := by
  unfold leap; exact Nat.le_of_lt_succ (Nat.mod_lt _ (Nat.succ_pos _))
theorem PrOk.adv {m : Nat} {p : Probe} (h : PrOk m p) : PrOk m (adv m p) := by
  obtain ⟨h1, h2, h3⟩ := h
  unfold ST.adv
  split
  · refine ⟨h1, ?_, ?_⟩ <;> dsimp only <;> omega
  · have a := leap_le m p.i p.perturb
    have b := runEnd_le m _ a
    have c := runEnd_ge m (leap m p.i p.perturb).1
    exact ⟨a, by dsimp only; omega, runEnd_nine _ _⟩
theorem PrOk.pth {m : Nat} : ∀ (n : Nat) {p : Probe}, PrOk m p → PrOk m (pth m p n)
  | 0, _, h => h
  | n + 1, _, h => PrOk.pth n h.adv
theorem PrOk.start (m : Nat) (h : Int) : PrOk m (stt m h) := by
  have a : bits h % (m + 1) ≤ m := Nat.le_of_lt_succ (Nat.mod_lt _ (Nat.succ_pos _))
  have b := runEnd_le m _ a
  have c := runEnd_ge m (bits h % (m + 1))
  exact ⟨a, by show bits h % (m + 1) + (runEnd m (bits h % (m + 1)) - bits h % (m + 1)) ≤ m; omega, runEnd_nine _ _⟩
/-- to the end of a run -/
theorem run_out {m : Nat} : ∀ (k : Nat) {p : Probe}, p.more = k → (pth m p k).more = 0 ∧ (pth m p k).i = p.i ∧ (pth m p k).perturb = p.perturb
  | 0, p, h => ⟨h, rfl, rfl⟩
  | k + 1, p, h => by
    have e : adv m p = { p with j := p.j + 1, more := p.more - 1 } := by unfold adv; rw [if_pos (by omega)]
    have := run_out (m := m) k (p := adv m p) (by rw [e]; simp [h])
    show (pth m (adv m p) k).more = 0 ∧ (pth m (adv m p) k).i = p.i ∧ (pth m (adv m p) k).perturb = p.perturb
    rw [e] at this ⊢
    exact this
def lpq (m : Nat) (x : Nat × Nat) : Nat × Nat := leap m x.1 x.2
def itq (m : Nat) : Nat → Nat × Nat → Nat × Nat
  | 0, x => x
  | n + 1, x => itq m n (lpq m x)
/-- the k-th leap's place is met within 10 k steps -/
theorem leaps {m : Nat} : ∀ (k : Nat) {p : Probe}, PrOk m p → ∃ n, n ≤ 10 * k ∧ (k ≠ 0 → (pth m p n).j = (itq m k (p.i, p.perturb)).1) ∧ (pth m p n).i = (itq m k (p.i, p.perturb)).1 ∧ (pth m p n).perturb = (itq m k (p.i, p.perturb)).2
  | 0, p, _ => ⟨0, Nat.zero_le _, fun h => absurd rfl h, rfl, rfl⟩
  | k + 1, p, h => by
    obtain ⟨r1, r2, r3⟩ := run_out (m := m) p.more (p := p) rfl
    have e : adv m (pth m p p.more) = { pth m p p.more with j := (leap m p.i p.perturb).1, more := runEnd m (leap m p.i p.perturb).1 - (leap m p.i p.perturb).1, i := (leap m p.i p.perturb).1, perturb := (leap m p.i p.perturb).2 } := by
      unfold adv; rw [if_neg (by omega), r2, r3]
    have ok : PrOk m (adv m (pth m p p.more)) := (h.pth _).adv
    cases k with
    | zero =>
      refine ⟨p.more + 1, by have := h.more; omega, fun _ => ?_, ?_, ?_⟩ <;> rw [pth_succ, e] <;> rfl
    | succ k =>
      obtain ⟨n, hn, hj, hi, hq⟩ := leaps (k + 1) ok
      have ei : (adv m (pth m p p.more)).i = (leap m p.i p.perturb).1 := by rw [e]
      have eq : (adv m (pth m p p.more)).perturb = (leap m p.i p.perturb).2 := by rw [e]
      rw [ei, eq] at hj hi hq
      refine ⟨p.more + 1 + n, by have := h.more; omega, fun _ => ?_, ?_, ?_⟩ <;> rw [pth_add, pth_succ]
      · exact hj (by simp)
      · exact hi
      · exact hq
theorem itq_perturb (m : Nat) : ∀ (k : Nat) (x : Nat × Nat), (itq m k x).2 = x.2 / 32 ^ k
  | 0, x => by simp [itq]
  | k + 1, x => by
    show (itq m k (lpq m x)).2 = _
    rw [itq_perturb m k]
    show (x.2 / 32) / 32 ^ k = _
    rw [Nat.div_div_eq_div_mul, Nat.pow_succ, Nat.mul_comm 32]
theorem itq_add (m : Nat) : ∀ (a b : Nat) (x : Nat × Nat), itq m (a + b) x = itq m b (itq m a x)
  | 0, b, x => by rw [Nat.zero_add]; rfl
  | a + 1, b, x => by rw [Nat.add_right_comm]; exact itq_add m a b _
theorem itq_zero (m : Nat) : ∀ (k : Nat) (i : Nat), (itq m k (i, 0)).1 = itl m k i
  | 0, _ => rfl
  | k + 1, i => by
    show (itq m k (leap m i 0)).1 = itl m k (lp m i)
    have : leap m i 0 = (lp m i, 0) := by simp [leap, lp]
    rw [this]; exact itq_zero m k _
theorem itq_le (m : Nat) : ∀ (k : Nat) (x : Nat × Nat), x.1 ≤ m → (itq m k x).1 ≤ m
  | 0, x, h => h
  | k + 1, x, h => itq_le m k _ (leap_le m _ _)
/-- every place is met -/
theorem covers {m : Nat} (g : Good m) {p : Probe} (h : PrOk m p) (hq : p.perturb < 2 ^ 64) (e : Nat) (he : e ≤ m) : ∃ n, n < 10 * turns m ∧ (pth m p n).j = e := by
  have z : (itq m 13 (p.i, p.perturb)).2 = 0 := by
    rw [itq_perturb]
    apply Nat.div_eq_of_lt
    exact Nat.lt_of_lt_of_le hq (by decide)
  obtain ⟨r, hr, er⟩ := g.full (itq m 13 (p.i, p.perturb)).1 e (itq_le m 13 _ h.i) he
  obtain ⟨n, hn, hj, _⟩ := leaps (m := m) (13 + r) h
  refine ⟨n, by unfold turns; omega, ?_⟩
  rw [hj (by omega), itq_add]
  have : itq m 13 (p.i, p.perturb) = ((itq m 13 (p.i, p.perturb)).1, 0) := by rw [← z]
  rw [this, itq_zero]
  exact er
theorem bits_lt (h : Int) : bits h < 2 ^ 64 := by
  unfold bits
  have a := Int.emod_lt_of_pos h (show (0 : Int) < 2 ^ 64 by decide)
  have b := Int.emod_nonneg h (show (2 ^ 64 : Int) ≠ 0 by decide)
  omega

/-! ### which masks -/
def orb (m : Nat) : Nat → Nat → Nat → Nat
  | 0, _, acc => acc
  | n + 1, x, acc => orb m n (lp m x) (acc ||| (1 <<< x))
theorem orb_spec (m e : Nat) : ∀ (n x acc : Nat), (orb m n x acc).testBit e = true → acc.testBit e = true ∨ ∃ r, r < n ∧ itl m r x = e
  | 0, x, acc, h => .inl h
  | n + 1, x, acc, h => by
    rcases orb_spec m e n _ _ h with h | ⟨r, hr, q⟩
    · rw [Nat.testBit_or, Bool.or_eq_true] at h
      rcases h with h | h
      · exact .inl h
      · rw [Nat.testBit_shiftLeft] at h
        refine .inr ⟨0, Nat.succ_pos _, ?_⟩
        show x = e
        simp only [Bool.and_eq_true, decide_eq_true_eq] at h
        have h2 := h.2
        by_cases hx : e - x = 0
        · omega
        · have : Nat.testBit 1 (e - x) = false := by
            obtain ⟨k, hk⟩ : ∃ k, e - x = k + 1 := ⟨e - x - 1, by omega⟩
            rw [hk]; simp [Nat.testBit_succ]
          rw [this] at h2; cases h2
    · exact .inr ⟨r + 1, by omega, q⟩
theorem good_of {m : Nat} (odd : m % 2 = 1) (most : m ≤ 8191) (least : 7 ≤ m) (h : (List.range (m + 1)).all (fun i => orb m (m + 1) i 0 == 2 ^ (m + 1) - 1) = true) : Good m := by
  refine ⟨odd, most, least, fun i e hi he => ?_⟩
  have := List.all_eq_true.mp h i (List.mem_range.mpr (by omega))
  have e1 : orb m (m + 1) i 0 = 2 ^ (m + 1) - 1 := by simpa using this
  have tb : (orb m (m + 1) i 0).testBit e = true := by rw [e1, Nat.testBit_two_pow_sub_one]; simp; omega
  rcases orb_spec m e _ _ _ tb with z | ⟨r, hr, q⟩
  · simp at z
  · exact ⟨r, by omega, q⟩
theorem good7 : Good 7 := good_of (by decide) (by decide) (by decide) (by decide +kernel)
theorem good15 : Good 15 := good_of (by decide) (by decide) (by decide) (by decide +kernel)
theorem good31 : Good 31 := good_of (by decide) (by decide) (by decide) (by decide +kernel)
theorem good63 : Good 63 := good_of (by decide) (by decide) (by decide) (by decide +kernel)
theorem good127 : Good 127 := good_of (by decide) (by decide) (by decide) (by decide +kernel)
theorem good255 : Good 255 := good_of (by decide) (by decide) (by decide) (by decide +kernel)
end ST

set_option linter.all false
namespace ST
open PySem PySem.SetTable

/-! ### rising arrays -/
abbrev Ris (xs : List Nat) : Prop := xs.Pairwise (· < ·)
theorem Ris.get {xs : List Nat} (h : Ris xs) {i k a b : Nat} (hi : xs[i]? = some a) (hk : xs[k]? = some b) (l : i < k) : a < b := by
  obtain ⟨h1, e1⟩ := List.getElem?_eq_some_iff.mp hi
  obtain ⟨h2, e2⟩ := List.getElem?_eq_some_iff.mp hk
  have := List.pairwise_iff_getElem.mp h i k h1 h2 l
  rw [e1, e2] at this; exact this
theorem getD_of {xs : Array Nat} {k d a : Nat} (h : xs.toList[k]? = some a) : xs.getD k d = a := by
  have : xs[k]? = some a := by simpa using h
  rw [Array.getD_eq_getD_getElem?, this]; rfl
theorem below_go {xs : Array Nat} {j : Nat} (hs : Ris xs.toList) : ∀ (fuel lo hi : Nat), hi - lo ≤ fuel → lo ≤ hi → hi ≤ xs.size → (∀ k a, k < lo → xs.toList[k]? = some a → a < j) → (∀ k a, hi ≤ k → xs.toList[k]? = some a → j ≤ a) →
    below.go xs j fuel lo hi ≤ xs.size ∧ (∀ k a, k < below.go xs j fuel lo hi → xs.toList[k]? = some a → a < j) ∧ (∀ k a, below.go xs j fuel lo hi ≤ k → xs.toList[k]? = some a → j ≤ a)
  | 0, lo, hi, hf, hl, hh, h1, h2 => by
    have : lo = hi := by omega
    subst this
    exact ⟨hh, h1, h2⟩
  | fuel + 1, lo, hi, hf, hl, hh, h1, h2 => by
    unfold below.go
    by_cases hlt : lo < hi
    · rw [if_pos hlt]
      have hm : (lo + hi) / 2 < xs.toList.length := by rw [Array.length_toList]; omega
      have hg : xs.toList[(lo + hi) / 2]? = some xs.toList[(lo + hi) / 2] := List.getElem?_eq_getElem hm
      dsimp only
      rw [getD_of hg]
      by_cases hc : xs.toList[(lo + hi) / 2] < j
      · rw [if_pos hc]
        refine below_go hs fuel _ hi (by omega) (by omega) hh (fun k a hk e => ?_) h2
        by_cases e2 : k = (lo + hi) / 2
        · subst e2; rw [hg] at e; cases e; exact hc
        · exact Nat.lt_trans (hs.get e hg (by omega)) hc
      · rw [if_neg hc]
        refine below_go hs fuel lo _ (by omega) (by omega) (by omega) h1 (fun k a hk e => ?_)
        by_cases e2 : k = (lo + hi) / 2
        · subst e2; rw [hg] at e; cases e; omega
        · have := hs.get hg e (by omega); omega
    · rw [if_neg hlt]
      have : lo = hi := by omega
      subst this
      exact ⟨hh, h1, h2⟩
theorem below_spec {xs : Array Nat} {j : Nat} (hs : Ris xs.toList) : below xs j ≤ xs.size ∧ (∀ k a, k < below xs j → xs.toList[k]? = some a → a < j) ∧ (∀ k a, below xs j ≤ k → xs.toList[k]? = some a → j ≤ a) := by
  refine below_go hs _ _ _ (Nat.le_refl _) (Nat.zero_le _) (Nat.le_refl _) (fun k a h => absurd h (Nat.not_lt_zero _)) fun k a h e => ?_
  have := (List.getElem?_eq_some_iff.mp e).1
  rw [Array.length_toList] at this; omega
theorem below_at {xs : Array Nat} {j i : Nat} (hs : Ris xs.toList) (h : xs.toList[i]? = some j) : below xs j = i := by
  obtain ⟨h1, h2, h3⟩ := below_spec (j := j) hs
  rcases Nat.lt_trichotomy (below xs j) i with q | q | q
  · obtain ⟨hi, _⟩ := List.getElem?_eq_some_iff.mp h
    have hb : xs.toList[below xs j]? = some xs.toList[below xs j] := List.getElem?_eq_getElem (by omega)
    have a := h3 _ _ (Nat.le_refl _) hb
    have b := hs.get hb h q
    omega
  · exact q
  · exact absurd (h2 _ _ q h) (Nat.lt_irrefl _)
theorem below_mem {xs : Array Nat} {j : Nat} (hs : Ris xs.toList) : xs[below xs j]? = some j ↔ j ∈ xs.toList := by
  constructor
  · intro h
    have : xs.toList[below xs j]? = some j := by simpa using h
    exact List.mem_of_getElem? this
  · intro h
    obtain ⟨i, hi⟩ := List.mem_iff_getElem?.mp h
    rw [below_at hs hi]; simpa using hi
theorem has_iff {xs : Array Nat} {j : Nat} (hs : Ris xs.toList) : has xs j = true ↔ j ∈ xs.toList := by
  unfold has
  rw [beq_iff_eq]; exact below_mem hs
theorem insertAt_list {α : Type} (xs : Array α) (p : Nat) (x : α) : (insertAt xs p x).toList = xs.toList.take p ++ x :: xs.toList.drop p := by
  unfold insertAt
  simp [Array.toList_extract, List.extract]
  exact List.take_of_length_le (by simp)
theorem eraseAt_list {α : Type} (xs : Array α) (p : Nat) : (eraseAt xs p).toList = xs.toList.take p ++ xs.toList.drop (p + 1) := by
  unfold eraseAt
  simp [Array.toList_extract, List.extract]
  exact List.take_of_length_le (by simp)
theorem mem_insertAt {α : Type} {xs : Array α} {p : Nat} {x y : α} : y ∈ (insertAt xs p x).toList ↔ y ∈ xs.toList ∨ y = x := by
  rw [insertAt_list]
  constructor
  · intro h
    rcases List.mem_append.mp h with h | h
    · exact .inl (List.mem_of_mem_take h)
    · rcases List.mem_cons.mp h with h | h
      · exact .inr h
      · exact .inl (List.mem_of_mem_drop h)
  · rintro (h | h)
    · rw [← List.take_append_drop p xs.toList] at h
      rcases List.mem_append.mp h with h | h
      · exact List.mem_append_left _ h
      · exact List.mem_append_right _ (List.mem_cons_of_mem _ h)
    · subst h; exact List.mem_append_right _ List.mem_cons_self
theorem ris_insert {xs : Array Nat} {j : Nat} (hs : Ris xs.toList) (hj : j ∉ xs.toList) : Ris (insertAt xs (below xs j) j).toList := by
  obtain ⟨h1, h2, h3⟩ := below_spec (j := j) hs
  rw [insertAt_list]
  show List.Pairwise _ _
  rw [List.pairwise_append, List.pairwise_cons]
  have d : List.Pairwise (· < ·) xs.toList := hs
  rw [← List.take_append_drop (below xs j) xs.toList, List.pairwise_append] at d
  obtain ⟨d1, d2, d3⟩ := d
  have low : ∀ a ∈ xs.toList.take (below xs j), a < j := fun a ha => by
    obtain ⟨k, hk⟩ := List.mem_iff_getElem?.mp ha
    rw [List.getElem?_take] at hk
    split at hk
    · exact h2 k a (by assumption) hk
    · cases hk
  have high : ∀ a ∈ xs.toList.drop (below xs j), j < a := fun a ha => by
    obtain ⟨k, hk⟩ := List.mem_iff_getElem?.mp ha
    rw [List.getElem?_drop] at hk
    have q := h3 _ a (Nat.le_add_right _ _) hk
    have : a ≠ j := fun e => hj (by rw [← e]; exact List.mem_of_getElem? hk)
    omega
  refine ⟨d1, ⟨high, d2⟩, fun a ha b hb => ?_⟩
  rcases List.mem_cons.mp hb with hb | hb
  · subst hb; exact low a ha
  · exact d3 a ha b hb
theorem ris_erase {xs : Array Nat} {p : Nat} (hs : Ris xs.toList) : Ris (eraseAt xs p).toList := by
  rw [eraseAt_list]
  show List.Pairwise _ _
  have d : List.Pairwise (· < ·) xs.toList := hs
  rw [← List.take_append_drop p xs.toList, List.pairwise_append] at d
  rw [List.pairwise_append]
  have e : xs.toList.drop (p + 1) = (xs.toList.drop p).drop 1 := by rw [List.drop_drop]
  rw [e]
  exact ⟨d.1, d.2.1.sublist (List.drop_sublist _ _), fun a ha b hb => d.2.2 a ha b (List.mem_of_mem_drop hb)⟩
theorem mem_erase_sub {α : Type} {xs : Array α} {p : Nat} {y : α} (h : y ∈ (eraseAt xs p).toList) : y ∈ xs.toList := by
  rw [eraseAt_list] at h
  rcases List.mem_append.mp h with h | h
  · exact List.mem_of_mem_take h
  · exact List.mem_of_mem_drop h
theorem mem_erase_iff {xs : Array Nat} {p j y : Nat} (hs : Ris xs.toList) (hp : xs.toList[p]? = some j) : y ∈ (eraseAt xs p).toList ↔ y ∈ xs.toList ∧ y ≠ j := by
  constructor
  · intro h
    refine ⟨mem_erase_sub h, ?_⟩
    rintro rfl
    rw [eraseAt_list] at h
    rcases List.mem_append.mp h with h | h
    · obtain ⟨k, hk⟩ := List.mem_iff_getElem?.mp h
      rw [List.getElem?_take] at hk
      split at hk
      · exact absurd (hs.get hk hp (by assumption)) (Nat.lt_irrefl _)
      · cases hk
    · obtain ⟨k, hk⟩ := List.mem_iff_getElem?.mp h
      rw [List.getElem?_drop] at hk
      exact absurd (hs.get hp hk (by omega)) (Nat.lt_irrefl _)
  · rintro ⟨h, ne⟩
    obtain ⟨k, hk⟩ := List.mem_iff_getElem?.mp h
    rw [eraseAt_list]
    rcases Nat.lt_trichotomy k p with q | q | q
    · exact List.mem_append_left _ (List.mem_iff_getElem?.mpr ⟨k, by rw [List.getElem?_take, if_pos q]; exact hk⟩)
    · subst q; rw [hp] at hk; cases hk; exact absurd rfl ne
    · exact List.mem_append_right _ (List.mem_iff_getElem?.mpr ⟨k - (p + 1), by rw [List.getElem?_drop]; rw [show p + 1 + (k - (p + 1)) = k by omega]; exact hk⟩)

/-! ### slots -/
def Full (t : SetTable) (j : Nat) : Prop := j ∈ t.place.toList ∨ j ∈ t.dummies.toList
section
variable {t : SetTable} (rp : Ris t.place.toList) (rd : Ris t.dummies.toList)
include rp rd
theorem slot_live {i j : Nat} (h : t.place.toList[i]? = some j) : t.slot j = .live i := by
  have hb : below t.place j = i := below_at rp h
  have hg : t.place[i]? = some j := by simpa using h
  unfold slot
  dsimp only
  rw [hb, hg]; simp
theorem slot_dummy {j : Nat} (h : j ∉ t.place.toList) (hd : j ∈ t.dummies.toList) : t.slot j = .dummy := by
  unfold slot
  dsimp only
  rw [if_neg (by rw [beq_iff_eq]; exact fun q => h ((below_mem rp).mp q)), if_pos ((has_iff rd).mpr hd)]
theorem slot_empty {j : Nat} (h : ¬ Full t j) : t.slot j = .empty := by
  unfold slot
  dsimp only
  rw [if_neg (by rw [beq_iff_eq]; exact fun q => h (.inl ((below_mem rp).mp q))), if_neg (by rw [has_iff rd]; exact fun q => h (.inr q))]
theorem slot_cases (j : Nat) : (∃ i, t.slot j = .live i ∧ t.place.toList[i]? = some j) ∨ (t.slot j = .dummy ∧ j ∉ t.place.toList ∧ j ∈ t.dummies.toList) ∨ (t.slot j = .empty ∧ ¬ Full t j) := by
  by_cases h : j ∈ t.place.toList
  · obtain ⟨i, hi⟩ := List.mem_iff_getElem?.mp h
    exact .inl ⟨i, slot_live rp rd hi, hi⟩
  · by_cases hd : j ∈ t.dummies.toList
    · exact .inr (.inl ⟨slot_dummy rp rd h hd, h, hd⟩)
    · have : ¬ Full t j := fun q => q.elim h hd
      exact .inr (.inr ⟨slot_empty rp rd this, this⟩)
end

/-- h's way comes to j through full slots -/
def Rch (t : SetTable) (h : Int) (j : Nat) : Prop := ∃ n, (pth t.mask (stt t.mask h) n).j = j ∧ ∀ k, k < n → Full t (pth t.mask (stt t.mask h) k).j
structure TabOk (t : SetTable) (es : List (Int × Value)) : Prop where
  good : Good t.mask
  rp : Ris t.place.toList
  rd : Ris t.dummies.toList
  lp : ∀ j ∈ t.place.toList, j ≤ t.mask
  ld : ∀ j ∈ t.dummies.toList, j ≤ t.mask
  dis : ∀ j ∈ t.place.toList, j ∉ t.dummies.toList
  len : t.place.toList.length = es.length
  fill : t.fill ≤ t.mask
  rch : ∀ q ∈ t.place.toList.zip es, Rch t q.2.1 q.1
/-- some slot is empty -/
theorem TabOk.hole {t : SetTable} {es : List (Int × Value)} (T : TabOk t es) : ∃ e, e ≤ t.mask ∧ ¬ Full t e := by
  refine Classical.byContradiction fun hn => ?_
  have all : ∀ e, e ≤ t.mask → Full t e := fun e he => Classical.byContradiction fun q => hn ⟨e, he, q⟩
  have sub : List.range (t.mask + 1) ⊆ t.place.toList ++ t.dummies.toList := fun e he => by
    have := all e (Nat.le_of_lt_succ (List.mem_range.mp he))
    exact List.mem_append.mpr this
  have := List.nodup_range.length_le_of_subset sub
  have f : t.place.size + t.dummies.size ≤ t.mask := T.fill
  simp only [List.length_range, List.length_append, Array.length_toList] at this
  omega
/-- the first empty slot on a way -/
theorem first_hole {P : Nat → Prop} : ∀ (n : Nat), ¬ P n → ∃ k, k ≤ n ∧ ¬ P k ∧ ∀ r, r < k → P r
  | 0, h => ⟨0, Nat.le_refl _, h, fun _ q => absurd q (Nat.not_lt_zero _)⟩
  | n + 1, h => by
    by_cases q : ∃ k, k ≤ n ∧ ¬ P k
    · obtain ⟨k, hk, nk⟩ := q
      obtain ⟨r, h1, h2, h3⟩ := first_hole (P := P) k nk
      exact ⟨r, by omega, h2, h3⟩
    · exact ⟨n + 1, Nat.le_refl _, h, fun r hr => Classical.byContradiction fun z => q ⟨r, by omega, z⟩⟩
/-- from a place on h's way there is a first hole, near enough -/
theorem TabOk.way {t : SetTable} {es : List (Int × Value)} (T : TabOk t es) {p : Probe} (ok : PrOk t.mask p) (hq : p.perturb < 2 ^ 64) : ∃ N, N < 10 * turns t.mask ∧ ¬ Full t (pth t.mask p N).j ∧ ∀ k, k < N → Full t (pth t.mask p k).j := by
  obtain ⟨e, he, hn⟩ := T.hole
  obtain ⟨n, hl, hj⟩ := covers T.good ok hq e he
  obtain ⟨N, h1, h2, h3⟩ := first_hole (P := fun k => Full t (pth t.mask p k).j) n (by rw [hj]; exact hn)
  exact ⟨N, by omega, h2, h3⟩
/-- what a probe meets: the first slot on the way that is empty or bears the hash -/
theorem probe_go {t : SetTable} (rp : Ris t.place.toList) (rd : Ris t.dummies.toList) {hashAt : Nat → Int} {h : Int} : ∀ (fuel N : Nat) (p : Probe), N < fuel → ¬ Full t (pth t.mask p N).j → (∀ k, k < N → Full t (pth t.mask p k).j) →
    ∃ n d, n ≤ N ∧ (∀ k, k < n → ∀ i, t.place.toList[i]? = some (pth t.mask p k).j → ¬ hashAt i = h) ∧ (d = p.dummy ∨ ∃ k, k < n ∧ d = some (pth t.mask p k).j ∧ (pth t.mask p k).j ∈ t.dummies.toList ∧ (pth t.mask p k).j ∉ t.place.toList) ∧
      ((n = N ∧ probe.go t hashAt h fuel p = some (.empty (pth t.mask p n).j d)) ∨
       (∃ i nx, t.place.toList[i]? = some (pth t.mask p n).j ∧ hashAt i = h ∧ n < N ∧ Alike nx (pth t.mask p (n + 1)) ∧ nx.dummy = d ∧ probe.go t hashAt h fuel p = some (.candidate (pth t.mask p n).j i nx)))
  | 0, N, p, hf, _, _ => absurd hf (Nat.not_lt_zero _)
  | fuel + 1, N, p, hf, hN, hk => by
    unfold probe.go
    rcases slot_cases rp rd p.j with ⟨i, e, hi⟩ | ⟨e, hp, hd⟩ | ⟨e, ne⟩
    · rw [e]
      dsimp only
      have hN0 : N ≠ 0 := by
        rintro rfl
        exact hN (.inl (List.mem_of_getElem? hi))
      by_cases hh : hashAt i = h
      · rw [if_pos (by simp [hh])]
        refine ⟨0, p.dummy, Nat.zero_le _, fun k q => absurd q (Nat.not_lt_zero _), .inl rfl, .inr ⟨i, t.advance p, hi, hh, by omega, ?_, ?_, rfl⟩⟩
        · rw [advance_eq]; exact Alike.refl _
        · rw [advance_eq]; exact adv_keeps _ _
      · rw [if_neg (by simpa using hh)]
        obtain ⟨M, rfl⟩ : ∃ M, N = M + 1 := ⟨N - 1, by omega⟩
        rw [advance_eq]
        obtain ⟨n, d, h1, h2, h3, h4⟩ := probe_go rp rd (hashAt := hashAt) (h := h) fuel M (adv t.mask p) (by omega) hN (fun k q => hk (k + 1) (by omega))
        rw [adv_keeps] at h3
        refine ⟨n + 1, d, by omega, fun k q i' hi' => ?_, ?_, ?_⟩
        · cases k with
          | zero =>
            have : t.place.toList[i']? = some p.j := hi'
            have : i' = i := by
              rcases Nat.lt_trichotomy i' i with z | z | z
              · exact absurd (rp.get this hi z) (Nat.lt_irrefl _)
              · exact z
              · exact absurd (rp.get hi this z) (Nat.lt_irrefl _)
            subst this; exact hh
          | succ k => exact h2 k (by omega) i' hi'
        · rcases h3 with h3 | ⟨k, q, r⟩
          · exact .inl h3
          · exact .inr ⟨k + 1, by omega, r⟩
        · rcases h4 with ⟨a, b⟩ | ⟨i', nx, a, b, c, f, g, k⟩
          · exact .inl ⟨by omega, b⟩
          · exact .inr ⟨i', nx, a, b, by omega, f, g, k⟩
    · rw [e]
      dsimp only
      have hN0 : N ≠ 0 := by
        rintro rfl
        exact hN (.inr hd)
      obtain ⟨M, rfl⟩ : ∃ M, N = M + 1 := ⟨N - 1, by omega⟩
      rw [advance_eq, adv_dummy]
      have al : ∀ k, (pth t.mask { adv t.mask p with dummy := some p.j } k).j = (pth t.mask p (k + 1)).j := fun k =>
        (Alike.pth k (p := { adv t.mask p with dummy := some p.j }) (q := adv t.mask p) ⟨rfl, rfl, rfl, rfl⟩).j
      obtain ⟨n, d, h1, h2, h3, h4⟩ := probe_go rp rd (hashAt := hashAt) (h := h) fuel M { adv t.mask p with dummy := some p.j } (by omega) (by rw [al]; exact hN) (fun k q => by rw [al]; exact hk (k + 1) (by omega))
      refine ⟨n + 1, d, by omega, fun k q i' hi' => ?_, ?_, ?_⟩
      · cases k with
        | zero => exact absurd (List.mem_of_getElem? hi') hp
        | succ k => exact h2 k (by omega) i' (by rw [al]; exact hi')
      · rcases h3 with h3 | ⟨k, q, r1, r2, r3⟩
        · exact .inr ⟨0, by omega, h3, hd, hp⟩
        · rw [al] at r1 r2 r3
          exact .inr ⟨k + 1, by omega, r1, r2, r3⟩
      · rcases h4 with ⟨a, b⟩ | ⟨i', nx, a, b, c, f, g, k⟩
        · rw [al] at b
          exact .inl ⟨by omega, b⟩
        · rw [al] at a k
          refine .inr ⟨i', nx, a, b, by omega, ?_, g, k⟩
          have := (Alike.pth (m := t.mask) (n + 1) (p := { adv t.mask p with dummy := some p.j }) (q := adv t.mask p) ⟨rfl, rfl, rfl, rfl⟩)
          exact ⟨f.j.trans this.j, f.more.trans this.more, f.i.trans this.i, f.perturb.trans this.perturb⟩
    · rw [e]
      dsimp only
      have hN0 : N = 0 := by
        refine Classical.byContradiction fun z => ?_
        exact ne (hk 0 (by omega))
      subst hN0
      exact ⟨0, p.dummy, Nat.le_refl _, fun k q => absurd q (Nat.not_lt_zero _), .inl rfl, .inl ⟨rfl, rfl⟩⟩
end ST

set_option linter.all false
namespace ST
open PySem PySem.SetTable

theorem Rch.mono {t t' : SetTable} {h : Int} {j : Nat} (r : Rch t h j) (hm : t'.mask = t.mask) (f : ∀ j, Full t j → Full t' j) : Rch t' h j := by
  obtain ⟨n, e, k⟩ := r
  refine ⟨n, by rw [hm]; exact e, fun q hq => ?_⟩
  rw [hm]; exact f _ (k q hq)
theorem zip_take {α β : Type} : ∀ (p : Nat) (xs : List α) (ys : List β), (xs.take p).zip (ys.take p) = (xs.zip ys).take p
  | 0, _, _ => by simp
  | p + 1, [], _ => by simp
  | p + 1, _ :: _, [] => by simp
  | p + 1, x :: xs, y :: ys => by simp [zip_take p xs ys]
theorem zip_drop {α β : Type} : ∀ (p : Nat) (xs : List α) (ys : List β), (xs.drop p).zip (ys.drop p) = (xs.zip ys).drop p
  | 0, _, _ => by simp
  | p + 1, [], _ => by simp
  | p + 1, _ :: _, [] => by simp
  | p + 1, x :: xs, y :: ys => by simp [zip_drop p xs ys]
theorem zip_insert {α β : Type} : ∀ {xs : List α} {ys : List β} {p : Nat} {x : α} {y : β}, xs.length = ys.length → ∀ q ∈ (xs.take p ++ x :: xs.drop p).zip (ys.take p ++ y :: ys.drop p), q ∈ xs.zip ys ∨ q = (x, y) := by
  intro xs ys p x y hl q hq
  have l1 : (xs.take p).length = (ys.take p).length := by simp [hl]
  rw [List.zip_append l1, List.zip_cons_cons] at hq
  rcases List.mem_append.mp hq with h | h
  · rw [zip_take] at h
    exact .inl (List.mem_of_mem_take h)
  · rcases List.mem_cons.mp h with h | h
    · exact .inr h
    · rw [zip_drop] at h
      exact .inl (List.mem_of_mem_drop h)
/-- an element is laid -/
theorem TabOk.put {t : SetTable} {es : Array (Int × Value)} (T : TabOk t es.toList) {s : Nat} {h : Int} {x : Value} (hs : s ∉ t.place.toList) (hm : s ≤ t.mask) (r : Rch t h s) (room : s ∈ t.dummies.toList ∨ t.fill + 1 ≤ t.mask) :
    TabOk (t.put s).1 (insertAt es (t.put s).2 (h, x)).toList ∧ (t.put s).1.mask = t.mask ∧ (t.put s).1.led = t.led ∧ (t.put s).1.moves = t.moves ∧ (t.put s).1.finger = t.finger ∧ (t.put s).1.plain = t.plain ∧ (s ∈ t.dummies.toList → (t.put s).1.fill = t.fill) ∧ (s ∉ t.dummies.toList → (t.put s).1.fill = t.fill + 1) := by
  have full : ∀ j, Full t j → Full (t.put s).1 j := fun j hj => by
    rcases hj with hj | hj
    · exact .inl (mem_insertAt.mpr (.inl hj))
    · by_cases e : j = s
      · exact .inl (mem_insertAt.mpr (.inr e))
      · refine .inr ?_
        show j ∈ (if has t.dummies s = true then eraseAt t.dummies (below t.dummies s) else t.dummies).toList
        split
        · rename_i hd
          obtain ⟨i, hi⟩ := List.mem_iff_getElem?.mp ((has_iff T.rd).mp hd)
          rw [below_at T.rd hi]
          exact (mem_erase_iff T.rd hi).mpr ⟨hj, e⟩
        · exact hj
  have dsub : ∀ j, j ∈ (t.put s).1.dummies.toList → j ∈ t.dummies.toList ∧ j ≠ s := fun j hj0 => by
    have hj : j ∈ (if has t.dummies s = true then eraseAt t.dummies (below t.dummies s) else t.dummies).toList := hj0
    split at hj
    · rename_i hd
      obtain ⟨i, hi⟩ := List.mem_iff_getElem?.mp ((has_iff T.rd).mp hd)
      rw [below_at T.rd hi] at hj
      exact (mem_erase_iff T.rd hi).mp hj
    · rename_i hd
      refine ⟨hj, ?_⟩
      rintro rfl
      exact hd ((has_iff T.rd).mpr hj)
  have psz : (t.put s).1.place.size = t.place.size + 1 := by
    have := congrArg List.length (insertAt_list t.place (below t.place s) s)
    have bl := (below_spec (j := s) T.rp).1
    simp only [Array.length_toList, List.length_append, List.length_take, List.length_cons, List.length_drop] at this
    show (insertAt t.place (below t.place s) s).size = _
    omega
  have f1 : s ∈ t.dummies.toList → (t.put s).1.fill = t.fill := fun hd => by
    obtain ⟨i, hi⟩ := List.mem_iff_getElem?.mp hd
    have hl := (List.getElem?_eq_some_iff.mp hi).1
    have : (t.put s).1.dummies.size = t.dummies.size - 1 := by
      show (if has t.dummies s = true then eraseAt t.dummies (below t.dummies s) else t.dummies).size = _
      rw [if_pos ((has_iff T.rd).mpr hd), below_at T.rd hi]
      have := congrArg List.length (eraseAt_list t.dummies i)
      simp only [Array.length_toList, List.length_append, List.length_take, List.length_drop] at this
      rw [Array.length_toList] at hl
      omega
    show (t.put s).1.place.size + (t.put s).1.dummies.size = t.place.size + t.dummies.size
    rw [Array.length_toList] at hl
    omega
  have f2 : s ∉ t.dummies.toList → (t.put s).1.fill = t.fill + 1 := fun hd => by
    have : (t.put s).1.dummies = t.dummies := by
      show (if has t.dummies s = true then eraseAt t.dummies (below t.dummies s) else t.dummies) = _
      rw [if_neg (by rw [has_iff T.rd]; exact hd)]
    show (t.put s).1.place.size + (t.put s).1.dummies.size = t.place.size + t.dummies.size + 1
    rw [this]; omega
  refine ⟨⟨T.good, ris_insert T.rp hs, ?_, ?_, ?_, ?_, ?_, ?_, ?_⟩, rfl, rfl, rfl, rfl, rfl, f1, f2⟩
  · show Ris (if has t.dummies s = true then eraseAt t.dummies (below t.dummies s) else t.dummies).toList
    split
    · exact ris_erase T.rd
    · exact T.rd
  · intro j hj
    rcases mem_insertAt.mp hj with q | q
    · exact T.lp j q
    · subst q; exact hm
  · intro j hj; exact T.ld j (dsub j hj).1
  · intro j hj hd
    rcases mem_insertAt.mp hj with q | q
    · exact T.dis j q (dsub j hd).1
    · exact (dsub j hd).2 q
  · have e1 : (t.put s).1.place.toList.length = _ := congrArg List.length (insertAt_list t.place (below t.place s) s)
    have e2 := congrArg List.length (insertAt_list es (below t.place s) (h, x))
    show (t.put s).1.place.toList.length = (insertAt es (below t.place s) (h, x)).toList.length
    rw [e1, e2]
    have := T.len
    simp only [List.length_append, List.length_take, List.length_cons, List.length_drop]
    rw [this]
  · show (t.put s).1.fill ≤ t.mask
    by_cases hd : s ∈ t.dummies.toList
    · rw [f1 hd]; exact T.fill
    · rw [f2 hd]; exact room.resolve_left hd
  · intro q hq
    have hq : q ∈ (insertAt t.place (below t.place s) s).toList.zip (insertAt es (below t.place s) (h, x)).toList := hq
    rw [insertAt_list, insertAt_list] at hq
    rcases zip_insert T.len q hq with z | z
    · exact (T.rch q z).mono rfl full
    · subst z; exact r.mono rfl full
/-- the empty table -/
theorem TabOk.fresh (f m : Nat) (led : Bool) : TabOk (SetTable.fresh f m led) [] :=
  ⟨good7, by simp [SetTable.fresh], by simp [SetTable.fresh], by simp [SetTable.fresh], by simp [SetTable.fresh], by simp [SetTable.fresh], rfl, by simp [SetTable.fresh, SetTable.fill], by simp [SetTable.fresh]⟩

/-! ### a table laid anew -/
def pr (m i q : Nat) : Probe := { j := i, more := runEnd m i - i, i := i, perturb := q, dummy := none }
theorem pr_run (m i q : Nat) : ∀ k, k ≤ runEnd m i - i → pth m (pr m i q) k = { j := i + k, more := runEnd m i - i - k, i := i, perturb := q, dummy := none }
  | 0, _ => rfl
  | k + 1, h => by
    rw [pth_succ, pr_run m i q k (by omega)]
    unfold adv
    rw [if_pos (show runEnd m i - i - k > 0 by omega)]
    congr 1
theorem pr_next (m i q : Nat) : pth m (pr m i q) (runEnd m i - i + 1) = pr m (leap m i q).1 (leap m i q).2 := by
  rw [pth_succ, pr_run m i q _ (Nat.le_refl _)]
  unfold adv
  rw [if_neg (show ¬ (runEnd m i - i - (runEnd m i - i) > 0) by omega)]
  rfl
def Own (owner : Array (Option Nat)) (j : Nat) : Prop := ¬ (owner.getD j (some 0)).isNone = true
theorem free_some {m : Nat} {owner : Array (Option Nat)} : ∀ (fuel i q j : Nat), layClean.free m owner fuel i q = some j → ∃ n, (pth m (pr m i q) n).j = j ∧ (owner.getD j (some 0)).isNone = true ∧ ∀ k, k < n → Own owner (pth m (pr m i q) k).j
  | 0, _, _, _, h => by unfold layClean.free at h; cases h
  | fuel + 1, i, q, j, h => by
    unfold layClean.free at h
    cases e : (List.range (runEnd m i + 1 - i)).find? fun k => (owner.getD (i + k) (some 0)).isNone with
    | some k =>
      rw [e] at h
      have h : i + k = j := by simpa using h
      have hk := List.mem_range.mp (List.mem_of_find?_eq_some e)
      have hp := List.find?_some e
      have rg := runEnd_ge m i
      refine ⟨k, ?_, by rw [← h]; exact hp, fun r hr => ?_⟩
      · rw [pr_run m i q k (by omega)]; exact h
      · rw [pr_run m i q r (by omega)]
        obtain ⟨_, as, bs, e1, e2⟩ := List.find?_eq_some_iff_append.mp e
        have : r ∈ as := by
          have hl : as.length = k := by
            have := congrArg (fun l => l[as.length]?) e1
            simp only [List.getElem?_append_right (Nat.le_refl _), Nat.sub_self, List.getElem?_cons_zero] at this
            obtain ⟨hh, z⟩ := List.getElem?_eq_some_iff.mp this
            simpa using z
          have : as[r]? = some r := by
            have this : (List.range (runEnd m i + 1 - i))[r]? = (as ++ k :: bs)[r]? := by rw [e1]
            rw [List.getElem?_append_left (by omega)] at this
            rw [← this]
            exact List.getElem?_range (by omega)
          exact List.mem_of_getElem? this
        have := e2 r this
        show ¬ (owner.getD (i + r) (some 0)).isNone = true
        intro z; rw [z] at this; cases this
    | none =>
      rw [e] at h
      have h : layClean.free m owner fuel (leap m i q).1 (leap m i q).2 = some j := h
      obtain ⟨n, h1, h2, h3⟩ := free_some fuel _ _ j h
      have nn := List.find?_eq_none.mp e
      have rg := runEnd_ge m i
      refine ⟨runEnd m i - i + 1 + n, by rw [pth_add, pr_next]; exact h1, h2, fun k hk => ?_⟩
      by_cases hlt : k < runEnd m i - i + 1
      · rw [pr_run m i q k (by omega)]
        exact nn k (List.mem_range.mpr (by omega))
      · obtain ⟨r, rfl⟩ : ∃ r, k = runEnd m i - i + 1 + r := ⟨k - (runEnd m i - i + 1), by omega⟩
        rw [pth_add, pr_next]
        exact h3 r (by omega)
theorem free_none {m : Nat} {owner : Array (Option Nat)} : ∀ (fuel i q : Nat), layClean.free m owner fuel i q = none → ∀ k, k < fuel → Own owner (itq m k (i, q)).1
  | 0, _, _, _, k, hk => absurd hk (Nat.not_lt_zero _)
  | fuel + 1, i, q, h, k, hk => by
    unfold layClean.free at h
    cases e : (List.range (runEnd m i + 1 - i)).find? fun k => (owner.getD (i + k) (some 0)).isNone with
    | some k => rw [e] at h; cases h
    | none =>
      rw [e] at h
      have h : layClean.free m owner fuel (leap m i q).1 (leap m i q).2 = none := h
      cases k with
      | zero =>
        have := List.find?_eq_none.mp e 0 (List.mem_range.mpr (by have := runEnd_ge m i; omega))
        exact this
      | succ k => exact free_none fuel _ _ h k (by omega)
theorem free_ex {m : Nat} (g : Good m) {owner : Array (Option Nat)} {i q e : Nat} (hi : i ≤ m) (hq : q < 2 ^ 64) (he : e ≤ m) (hn : (owner.getD e (some 0)).isNone = true) : ∃ j, layClean.free m owner (turns m) i q = some j := by
  cases h : layClean.free m owner (turns m) i q with
  | some j => exact ⟨j, rfl⟩
  | none =>
    have z : (itq m 13 (i, q)).2 = 0 := by
      rw [itq_perturb]
      apply Nat.div_eq_of_lt
      exact Nat.lt_of_lt_of_le hq (by decide)
    obtain ⟨r, hr, er⟩ := g.full (itq m 13 (i, q)).1 e (itq_le m 13 _ hi) he
    have := free_none _ _ _ h (13 + r) (by unfold turns; omega)
    rw [itq_add] at this
    have e13 : itq m 13 (i, q) = ((itq m 13 (i, q)).1, 0) := by rw [← z]
    rw [e13, itq_zero, er] at this
    exact absurd hn this
structure LayOk (m : Nat) (hs : List Int) (owner : Array (Option Nat)) (k : Nat) : Prop where
  size : owner.size = m + 1
  own : ∀ (j a : Nat), owner[j]? = some (some a) → a < k ∧ ∃ h, hs[a]? = some h ∧ ∃ n, (pth m (stt m h) n).j = j ∧ ∀ r, r < n → ∃ b, owner[(pth m (stt m h) r).j]? = some (some b)
  inj : ∀ (j j' a : Nat), owner[j]? = some (some a) → owner[j']? = some (some a) → j = j'
  sur : ∀ (a : Nat), a < k → ∃ j : Nat, owner[j]? = some (some a)
theorem LayOk.hole {m : Nat} {hs : List Int} {owner : Array (Option Nat)} {k : Nat} (L : LayOk m hs owner k) (hk : k ≤ m) : ∃ e, e ≤ m ∧ (owner.getD e (some 0)).isNone = true := by
  refine Classical.byContradiction fun hn => ?_
  have all : ∀ e, e ≤ m → ∃ a, owner[e]? = some (some a) := fun e he => by
    refine Classical.byContradiction fun q => hn ⟨e, he, ?_⟩
    have hlt : e < owner.size := by rw [L.size]; omega
    have hg : owner[e]? = some owner[e] := Array.getElem?_eq_getElem hlt
    cases ho : owner[e] with
    | none => rw [ho] at hg; rw [Array.getD_eq_getD_getElem?, hg]; rfl
    | some a => rw [ho] at hg; exact absurd ⟨a, hg⟩ q
  let f : Nat → Nat := fun e => if h : e ≤ m then Classical.choose (all e h) else 0
  have hf : ∀ e, e ≤ m → owner[e]? = some (some (f e)) := fun e he => by
    show owner[e]? = some (some (if h : e ≤ m then Classical.choose (all e h) else 0))
    rw [dif_pos he]; exact Classical.choose_spec (all e he)
  have nd : ((List.range (m + 1)).map f).Nodup := by
    show List.Pairwise _ _
    rw [List.pairwise_map]
    refine List.Pairwise.imp_of_mem ?_ (List.nodup_range (n := m + 1))
    intro a b ha hb hab e
    refine hab (L.inj a b (f a) (hf a (Nat.le_of_lt_succ (List.mem_range.mp ha))) ?_)
    rw [e]; exact hf b (Nat.le_of_lt_succ (List.mem_range.mp hb))
  have sub : (List.range (m + 1)).map f ⊆ List.range k := fun x hx => by
    obtain ⟨e, he, rfl⟩ := List.mem_map.mp hx
    exact List.mem_range.mpr (L.own e _ (hf e (Nat.le_of_lt_succ (List.mem_range.mp he)))).1
  have := nd.length_le_of_subset sub
  simp at this; omega
theorem stt_pr (m : Nat) (h : Int) : stt m h = pr m (bits h % (m + 1)) (bits h) := rfl
theorem LayOk.step {m : Nat} (g : Good m) {hs : List Int} {owner : Array (Option Nat)} {k : Nat} (L : LayOk m hs owner k) (hk : k ≤ m) {h : Int} (hh : hs[k]? = some h) :
    ∃ j, layClean.free m owner (turns m) (bits h % (m + 1)) (bits h) = some j ∧ LayOk m hs (owner.setIfInBounds j (some k)) (k + 1) := by
  obtain ⟨e, he, hn⟩ := L.hole hk
  have hi : bits h % (m + 1) ≤ m := Nat.le_of_lt_succ (Nat.mod_lt _ (Nat.succ_pos _))
  obtain ⟨j, hj⟩ := free_ex g hi (bits_lt h) he hn
  obtain ⟨n, h1, h2, h3⟩ := free_some _ _ _ _ hj
  rw [← stt_pr] at h1 h3
  have hlt : j < owner.size := by
    refine Classical.byContradiction fun q => ?_
    rw [Array.getD_eq_getD_getElem?, Array.getElem?_eq_none (by omega)] at h2
    cases h2
  have old : owner[j]? = some none := by
    have hg : owner[j]? = some owner[j] := Array.getElem?_eq_getElem hlt
    rw [Array.getD_eq_getD_getElem?, hg] at h2
    rw [hg]
    cases q : owner[j] with
    | none => rfl
    | some a => rw [q] at h2; cases h2
  have kept : ∀ i a, owner[i]? = some (some a) → (owner.setIfInBounds j (some k))[i]? = some (some a) := fun i a e1 => by
    rw [Array.getElem?_setIfInBounds_ne]
    · exact e1
    · rintro rfl; rw [old] at e1; cases e1
  have new : (owner.setIfInBounds j (some k))[j]? = some (some k) := by
    rw [Array.getElem?_setIfInBounds_self_of_lt hlt]
  have back : ∀ i a, (owner.setIfInBounds j (some k))[i]? = some (some a) → (i = j ∧ a = k) ∨ (i ≠ j ∧ owner[i]? = some (some a)) := fun i a e1 => by
    by_cases q : i = j
    · subst q; rw [new] at e1; cases e1; exact .inl ⟨rfl, rfl⟩
    · rw [Array.getElem?_setIfInBounds_ne (fun z => q z.symm)] at e1
      exact .inr ⟨q, e1⟩
  refine ⟨j, hj, by rw [Array.size_setIfInBounds]; exact L.size, fun i a e1 => ?_, fun i i' a e1 e2 => ?_, fun a ha => ?_⟩
  · rcases back i a e1 with ⟨rfl, rfl⟩ | ⟨_, e1⟩
    · refine ⟨Nat.lt_succ_self _, h, hh, n, h1, fun r hr => ?_⟩
      have := h3 r hr
      have hrm : (pth m (stt m h) r).j ≤ m := by have := (PrOk.start m h).pth r; have := this.j; omega
      have hsz : (pth m (stt m h) r).j < owner.size := by rw [L.size]; omega
      have hg : owner[(pth m (stt m h) r).j]? = some (owner[(pth m (stt m h) r).j]'hsz) := Array.getElem?_eq_getElem hsz
      unfold Own at this
      rw [Array.getD_eq_getD_getElem?, hg] at this
      cases q : owner[(pth m (stt m h) r).j]'hsz with
      | none => rw [q] at this; exact absurd rfl this
      | some b => rw [q] at hg; exact ⟨b, kept _ _ hg⟩
    · obtain ⟨q1, h', q2, n', q3, q4⟩ := L.own i a e1
      exact ⟨by omega, h', q2, n', q3, fun r hr => let ⟨b, z⟩ := q4 r hr; ⟨b, kept _ _ z⟩⟩
  · rcases back i a e1 with ⟨y, z⟩ | ⟨_, e1'⟩ <;> rcases back i' _ e2 with ⟨y', z'⟩ | ⟨_, e2'⟩
    · rw [y, y']
    · subst z; exact absurd (L.own _ _ e2').1 (Nat.lt_irrefl _)
    · subst z'; exact absurd (L.own _ _ e1').1 (Nat.lt_irrefl _)
    · exact L.inj _ _ _ e1' e2'
  · by_cases q : a = k
    · subst q; exact ⟨j, new⟩
    · obtain ⟨i, e1⟩ := L.sur a (by omega)
      exact ⟨i, kept _ _ e1⟩
def layStep (m : Nat) (acc : Option (Array (Option Nat) × Nat)) (h : Int) : Option (Array (Option Nat) × Nat) := do
  let (owner, k) ← acc
  let j ← layClean.free m owner (turns m) (bits h % (m + 1)) (bits h)
  pure (owner.setIfInBounds j (some k), k + 1)
theorem lay_fold {m : Nat} (g : Good m) {hs : List Int} : ∀ (rest done : List Int) (owner : Array (Option Nat)), hs = done ++ rest → hs.length ≤ m + 1 → LayOk m hs owner done.length → ∃ owner', rest.foldl (layStep m) (some (owner, done.length)) = some (owner', hs.length) ∧ LayOk m hs owner' hs.length
  | [], done, owner, e, _, L => by
    rw [List.append_nil] at e; subst e
    exact ⟨owner, rfl, L⟩
  | h :: rest, done, owner, e, hl, L => by
    have hk : hs[done.length]? = some h := by rw [e]; simp
    have hle : done.length ≤ m := by
      have := congrArg List.length e
      simp at this; omega
    obtain ⟨j, hj, L'⟩ := L.step g hle hk
    have ih := lay_fold g rest (done ++ [h]) (owner.setIfInBounds j (some done.length)) (by rw [e]; simp) hl (by rw [List.length_append]; exact L')
    obtain ⟨o', q1, q2⟩ := ih
    refine ⟨o', ?_, q2⟩
    rw [List.foldl_cons]
    have : layStep m (some (owner, done.length)) h = some (owner.setIfInBounds j (some done.length), (done ++ [h]).length) := by
      unfold layStep
      simp only [Option.bind_eq_bind, Option.bind_some, hj, List.length_append]
      rfl
    rw [this]; exact q1
theorem layClean_ok {m : Nat} (g : Good m) (hs : Array Int) (hl : hs.size ≤ m + 1) : ∃ owner, layClean m hs = some owner ∧ LayOk m hs.toList owner hs.size := by
  have L0 : LayOk m hs.toList (Array.replicate (m + 1) none) 0 := by
    refine ⟨by simp, fun j a e => ?_, fun j j' a e _ => ?_, fun a h => absurd h (Nat.not_lt_zero _)⟩
    · rw [Array.getElem?_replicate] at e; split at e <;> cases e
    · rw [Array.getElem?_replicate] at e; split at e <;> cases e
  obtain ⟨o, h1, h2⟩ := lay_fold g hs.toList [] _ (by simp) (by simpa using hl) L0
  refine ⟨o, ?_, by simpa using h2⟩
  unfold layClean
  have : (hs.foldl (layStep m) (some (Array.replicate (m + 1) none, 0))) = some (o, hs.toList.length) := by
    rw [← Array.foldl_toList]; exact h1
  show (hs.foldl (layStep m) (some (Array.replicate (m + 1) none, 0))).map (·.1) = some o
  rw [this]; rfl
end ST

set_option linter.all false
namespace ST
open PySem PySem.SetTable

def liveOf (m : Nat) (owner : Array (Option Nat)) : List (Nat × Nat) := (List.range (m + 1)).filterMap fun j => (owner.getD j none).map (j, ·)
theorem mem_live {m : Nat} {hs : List Int} {owner : Array (Option Nat)} {k : Nat} (L : LayOk m hs owner k) {p : Nat × Nat} : p ∈ liveOf m owner ↔ owner[p.1]? = some (some p.2) := by
  unfold liveOf
  rw [List.mem_filterMap]
  constructor
  · rintro ⟨j, hj, e⟩
    have hlt : j < owner.size := by rw [L.size]; exact List.mem_range.mp hj
    rw [Array.getD_eq_getD_getElem?, Array.getElem?_eq_getElem hlt] at e
    cases q : owner[j] with
    | none => rw [q] at e; cases e
    | some a =>
      rw [q] at e
      have e : (j, a) = p := by simpa using e
      subst e
      show owner[j]? = some (some a)
      rw [Array.getElem?_eq_getElem hlt, q]
  · intro e
    obtain ⟨hlt, q⟩ := Array.getElem?_eq_some_iff.mp e
    refine ⟨p.1, List.mem_range.mpr (by rw [← L.size]; exact hlt), ?_⟩
    rw [Array.getD_eq_getD_getElem?, e]; rfl
theorem live_ris {m : Nat} (owner : Array (Option Nat)) : Ris ((liveOf m owner).map (·.1)) := by
  unfold liveOf
  rw [List.map_filterMap]
  show List.Pairwise _ _
  rw [List.pairwise_filterMap]
  refine List.Pairwise.imp ?_ List.pairwise_lt_range
  intro a b hab x hx y hy
  cases qa : owner.getD a none with
  | none => rw [qa] at hx; cases hx
  | some u =>
    cases qb : owner.getD b none with
    | none => rw [qb] at hy; cases hy
    | some v =>
      rw [qa] at hx; rw [qb] at hy
      simp at hx hy
      subst hx; subst hy; exact hab
theorem live_order {m : Nat} {hs : List Int} {owner : Array (Option Nat)} {n : Nat} (L : LayOk m hs owner n) : ((liveOf m owner).map (·.2)).Perm (List.range n) := by
  have nd : ((liveOf m owner).map (·.2)).Nodup := by
    show List.Pairwise _ _
    rw [List.pairwise_map]
    have h1 := live_ris (m := m) owner
    have h1 : List.Pairwise (· < ·) ((liveOf m owner).map (·.1)) := h1
    rw [List.pairwise_map] at h1
    refine List.Pairwise.imp_of_mem ?_ h1
    intro a b ha hb hab e
    have ha := (mem_live L).mp ha
    have hb := (mem_live L).mp hb
    have := L.inj a.1 b.1 a.2 ha (by rw [e]; exact hb)
    omega
  refine (List.perm_ext_iff_of_nodup nd List.nodup_range).mpr fun a => ?_
  rw [List.mem_range]
  constructor
  · intro h
    obtain ⟨p, hp, rfl⟩ := List.mem_map.mp h
    exact (L.own _ _ ((mem_live L).mp hp)).1
  · intro h
    obtain ⟨j, e⟩ := L.sur a h
    exact List.mem_map.mpr ⟨(j, a), (mem_live L).mpr e, rfl⟩
theorem filterMap_get {α : Type} {es : List α} : ∀ {l : List Nat}, (∀ a ∈ l, a < es.length) → ∃ ys, l.filterMap (es[·]?) = ys ∧ ys.length = l.length ∧ ∀ (i a : Nat), l[i]? = some a → ys[i]? = es[a]?
  | [], _ => ⟨[], rfl, rfl, fun i a e => by simp at e⟩
  | x :: l, h => by
    obtain ⟨ys, h1, h2, h3⟩ := filterMap_get (l := l) fun a ha => h a (List.mem_cons_of_mem _ ha)
    have hx := h x List.mem_cons_self
    refine ⟨es[x] :: ys, ?_, by simp [h2], fun i a e => ?_⟩
    · rw [List.filterMap_cons, List.getElem?_eq_getElem hx]
      simp only [h1]
    · cases i with
      | zero =>
        simp at e; subst e
        simp [List.getElem?_eq_getElem hx]
      | succ i => simpa using h3 i a (by simpa using e)
theorem range_filterMap {α : Type} (es : List α) : (List.range es.length).filterMap (es[·]?) = es := by
  induction es with
  | nil => rfl
  | cons x es ih =>
    rw [List.length_cons, List.range_succ_eq_map, List.filterMap_cons]
    simp only [List.getElem?_cons_zero, List.filterMap_map]
    congr 1
/-- the table laid anew from its hashes -/
theorem laid_ok {m : Nat} (g : Good m) (finger moves : Nat) (led plain : Bool) (es : Array (Int × Value)) (hl : es.size ≤ m) :
    ∃ t order, laid m finger moves led plain (es.map (·.1)) = some (t, order) ∧ t.mask = m ∧ t.dummies = #[] ∧ t.finger = finger ∧ t.moves = moves ∧ t.led = led ∧ t.plain = plain ∧ t.fill = es.size ∧
      (order.filterMap (es[·]?)).toList.Perm es.toList ∧ (order.filterMap (es[·]?)).size = es.size ∧ TabOk t (order.filterMap (es[·]?)).toList := by
  obtain ⟨owner, h1, L⟩ := layClean_ok g (es.map (·.1)) (by rw [Array.size_map]; omega)
  have hsz : (es.map (·.1)).size = es.size := Array.size_map
  rw [hsz] at L
  have po := live_order L
  have rng : ∀ a ∈ (liveOf m owner).map (·.2), a < es.toList.length := fun a ha => by
    have := List.mem_range.mp (po.mem_iff.mp ha)
    simpa using this
  obtain ⟨ys, y1, y2, y3⟩ := filterMap_get (es := es.toList) rng
  have el : (((liveOf m owner).map (·.2)).toArray.filterMap (es[·]?)).toList = ys := by
    rw [Array.toList_filterMap, ← y1]
    simp
  have perm : ys.Perm es.toList := by
    rw [← y1]
    have := po.filterMap (es.toList[·]?)
    have e2 : (List.range es.size).filterMap (es.toList[·]?) = es.toList := by
      have := range_filterMap es.toList
      simpa using this
    rw [e2] at this; exact this
  have sz : ys.length = es.size := by rw [perm.length_eq]; simp
  refine ⟨{ mask := m, place := ((liveOf m owner).map (·.1)).toArray, dummies := #[], finger, led, moves, plain }, ((liveOf m owner).map (·.2)).toArray, ?_, rfl, rfl, rfl, rfl, rfl, rfl, ?_, by rw [el]; exact perm, ?_, ?_⟩
  · unfold laid
    rw [h1]; rfl
  · show ((liveOf m owner).map (·.1)).toArray.size + 0 = es.size
    simp only [List.size_toArray, List.length_map, Nat.add_zero]
    have := po.length_eq
    simpa using this
  · rw [← Array.length_toList, el]; exact sz
  · rw [el]
    have len : (liveOf m owner).length = es.size := by have := po.length_eq; simpa using this
    refine ⟨g, by simpa using live_ris owner, by simp, fun j hj => ?_, by simp, by simp, by simp [sz, len], ?_, fun q hq => ?_⟩
    · simp only [List.mem_map] at hj
      obtain ⟨p, hp, rfl⟩ := hj
      have := (mem_live L).mp hp
      obtain ⟨hlt, _⟩ := Array.getElem?_eq_some_iff.mp this
      rw [L.size] at hlt; exact Nat.le_of_lt_succ hlt
    · show ((liveOf m owner).map (·.1)).toArray.size + 0 ≤ m
      simp [len]; exact hl
    · have hq : q ∈ ((liveOf m owner).map (·.1)).zip ys := by simpa using hq
      obtain ⟨i, hi⟩ := List.mem_iff_getElem?.mp hq
      rw [List.getElem?_zip_eq_some] at hi
      obtain ⟨i1, i2⟩ := hi
      rw [List.getElem?_map] at i1
      obtain ⟨p, hp, ep⟩ := Option.map_eq_some_iff.mp i1
      have := y3 i p.2 (by rw [List.getElem?_map, hp]; rfl)
      rw [i2] at this
      obtain ⟨_, h, q1, n, q2, q3⟩ := L.own p.1 p.2 ((mem_live L).mp (List.mem_of_getElem? hp))
      have eh : h = q.2.1 := by
        rw [Array.toList_map, List.getElem?_map, ← this] at q1
        simpa using q1.symm
      subst eh
      refine ⟨n, by rw [← ep]; exact q2, fun r hr => .inl ?_⟩
      obtain ⟨b, z⟩ := q3 r hr
      show _ ∈ ((liveOf m owner).map (·.1)).toArray.toList
      simp only [List.mem_map]
      exact ⟨(_, b), (mem_live L).mpr z, rfl⟩
/-! ### loads -/
def Lo (t : SetTable) : Prop := t.fill * 5 < t.mask * 3
theorem sizeAbove_good {n : Nat} (h : n ≤ 255) : Good (sizeAbove n - 1) ∧ n < sizeAbove n := by
  have all : ∀ k, k ≤ 255 → (sizeAbove k - 1 = 7 ∨ sizeAbove k - 1 = 15 ∨ sizeAbove k - 1 = 31 ∨ sizeAbove k - 1 = 63 ∨ sizeAbove k - 1 = 127 ∨ sizeAbove k - 1 = 255) ∧ k < sizeAbove k := by decide +kernel
  obtain ⟨a, b⟩ := all n h
  refine ⟨?_, b⟩
  rcases a with a | a | a | a | a | a <;> rw [a]
  · exact good7
  · exact good15
  · exact good31
  · exact good63
  · exact good127
  · exact good255
theorem sizeAbove_line {n : Nat} (h : n ≤ 255) : sizeAbove n ≤ 256 := by
  have all : ∀ k, k ≤ 255 → sizeAbove k ≤ 256 := by decide +kernel
  exact all n h
end ST

set_option linter.all false
set_option maxRecDepth 100000
namespace SE
open PySem PySem.Spec PyProof.Rows

/-! ### data that may be an element or a key: whole numbers, texts, tuples of these -/
mutual
def hb : PyData → Bool
  | .int _ => true
  | .str x => PyData.canLay0 (.str x)
  | .tuple xs => hbAll xs
  | .none | .bool _ | .list _ | .dict _ => false
def hbAll : List PyData → Bool
  | [] => true
  | x :: xs => hb x && hbAll xs
end
theorem hbAll_mem : ∀ {xs : List PyData}, hbAll xs = true → ∀ x ∈ xs, hb x = true
  | [], _, _, h => nomatch h
  | y :: ys, e, x, h => by
    have e : (hb y && hbAll ys) = true := by simpa [hbAll] using e
    rw [Bool.and_eq_true] at e
    rcases List.mem_cons.mp h with rfl | h
    · exact e.1
    · exact hbAll_mem e.2 x h
mutual
theorem hb_canLay : ∀ d, hb d = true → d.canLay0 = true
  | .int _, _ => rfl
  | .str _, h => by simpa [hb] using h
  | .tuple xs, h => by
    show PyData.canLayAll0 xs = true
    exact hbAll_canLay xs (by simpa [hb] using h)
  | .none, h => by simp [hb] at h
  | .bool _, h => by simp [hb] at h
  | .list _, h => by simp [hb] at h
  | .dict _, h => by simp [hb] at h
theorem hbAll_canLay : ∀ xs, hbAll xs = true → PyData.canLayAll0 xs = true
  | [], _ => rfl
  | x :: xs, h => by
    have h : hb x = true ∧ hbAll xs = true := by simpa [hbAll] using h
    show (x.canLay0 && PyData.canLayAll0 xs) = true
    rw [hb_canLay x h.1, hbAll_canLay xs h.2]; rfl
end
mutual
theorem eqv_hb : ∀ d e, hb d = true → hb e = true → PyData.eqv d e = true → d = e
  | .int i, .int j, _, _, h => by simp [PyData.eqv] at h; rw [h]
  | .str i, .str j, _, _, h => by simp [PyData.eqv] at h; rw [h]
  | .tuple xs, .tuple ys, h1, h2, h => by
    rw [PyData.eqv] at h
    rw [eqvAll_hb xs ys (by simpa [hb] using h1) (by simpa [hb] using h2) h]
  | .int _, .str _, _, _, h => by simp [PyData.eqv] at h
  | .int _, .tuple _, _, _, h => by simp [PyData.eqv] at h
  | .str _, .int _, _, _, h => by simp [PyData.eqv] at h
  | .str _, .tuple _, _, _, h => by simp [PyData.eqv] at h
  | .tuple _, .int _, _, _, h => by simp [PyData.eqv] at h
  | .tuple _, .str _, _, _, h => by simp [PyData.eqv] at h
  | .none, _, h, _, _ => by simp [hb] at h
  | .bool _, _, h, _, _ => by simp [hb] at h
  | .list _, _, h, _, _ => by simp [hb] at h
  | .dict _, _, h, _, _ => by simp [hb] at h
  | _, .none, _, h, _ => by simp [hb] at h
  | _, .bool _, _, h, _ => by simp [hb] at h
  | _, .list _, _, h, _ => by simp [hb] at h
  | _, .dict _, _, h, _ => by simp [hb] at h
theorem eqvAll_hb : ∀ xs ys, hbAll xs = true → hbAll ys = true → PyData.eqvAll xs ys = true → xs = ys
  | [], [], _, _, _ => rfl
  | [], _ :: _, _, _, h => by simp [PyData.eqvAll] at h
  | _ :: _, [], _, _, h => by simp [PyData.eqvAll] at h
  | x :: xs, y :: ys, h1, h2, h => by
    have h1 : hb x = true ∧ hbAll xs = true := by simpa [hbAll] using h1
    have h2 : hb y = true ∧ hbAll ys = true := by simpa [hbAll] using h2
    rw [PyData.eqvAll, Bool.and_eq_true] at h
    rw [eqv_hb x y h1.1 h2.1 h.1, eqvAll_hb xs ys h1.2 h2.2 h.2]
end
theorem eqv_iff {d e : PyData} (h1 : hb d = true) (h2 : hb e = true) : PyData.eqv d e = true ↔ d = e :=
  ⟨eqv_hb d e h1 h2, fun h => by subst h; exact SeqAt.eqv_refl d (hb_canLay d h1)⟩
mutual
def hsh (w : World) : PyData → Int
  | .int i => hashInt i
  | .str x => hashStr w x
  | .tuple xs => reduceHash (Builtin.Tuple.tupleHashOf (hshAll w xs))
  | .none | .bool _ | .list _ | .dict _ => 0
def hshAll (w : World) : List PyData → List Int
  | [] => []
  | x :: xs => hsh w x :: hshAll w xs
end
theorem hshAll_map (w : World) : ∀ xs, hshAll w xs = xs.map (hsh w)
  | [] => by simp [hshAll]
  | x :: xs => by rw [hshAll, hshAll_map w xs]; rfl
theorem depth_mem : ∀ {xs : List PyData} {x : PyData}, x ∈ xs → x.depth ≤ PyData.depthAll xs
  | y :: ys, x, h => by
    rw [PyData.depthAll]
    rcases List.mem_cons.mp h with rfl | h
    · exact Nat.le_max_left _ _
    · exact Nat.le_trans (depth_mem h) (Nat.le_max_right _ _)
theorem depth_tuple (xs : List PyData) : (PyData.tuple xs).depth = PyData.depthAll xs + 1 := by rw [PyData.depth]

def AllP (P : PyData → Prop) : List PyData → Prop
  | [] => True
  | x :: xs => P x ∧ AllP P xs
theorem AllP.mem {P : PyData → Prop} : ∀ {xs : List PyData}, AllP P xs → ∀ x ∈ xs, P x
  | _ :: _, h, x, hx => (List.mem_cons.mp hx).elim (fun e => e ▸ h.1) fun hx => AllP.mem h.2 x hx
section
variable {P : PyData → Prop} (hi : ∀ i, P (.int i)) (hs : ∀ x, P (.str x)) (ht : ∀ xs, (∀ x ∈ xs, P x) → P (.tuple xs)) (hn : P .none) (hbl : ∀ b, P (.bool b)) (hl : ∀ xs, P (.list xs)) (hd : ∀ k, P (.dict k))
include hi hs ht hn hbl hl hd
mutual
theorem ind : ∀ d, P d
  | .int i => hi i
  | .str x => hs x
  | .tuple xs => ht xs (indAll xs).mem
  | .none => hn
  | .bool b => hbl b
  | .list xs => hl xs
  | .dict k => hd k
theorem indAll : ∀ xs, AllP P xs
  | [] => trivial
  | x :: xs => ⟨ind x, indAll xs⟩
end
end
section
variable (prog : Program) (w : World)
def HashOk (d : PyData) : Prop := ∀ (A : Around) (E : Value → Shared → Prop) (s : Shared) (v : Value) (as : List Addr) (Q : Int → Shared → Prop), Reads s.heap v d as → hb d = true → A.units + d.depth < cLine → (∀ tk, s.toks ≤ tk → Q (hsh w d) { s with toks := tk }) →
  wpAny (model prog w) A (pyHash v) Q E s
def QuietOk (d : PyData) : Prop := ∀ (n : Nat) (A : Around) (E : Value → Shared → Prop) (s : Shared) (v : Value) (as : List Addr) (Q : Bool → Shared → Prop), Reads s.heap v d as → hb d = true → d.depth ≤ n → Q true s →
  wpAny (model prog w) A (eqIsQuiet n v) Q E s
def PlainOk (d : PyData) : Prop := ∀ (n : Nat) (A : Around) (E : Value → Shared → Prop) (s : Shared) (v : Value) (as : List Addr) (Q : Bool → Shared → Prop), Reads s.heap v d as → hb d = true → d.depth ≤ n → Q false s →
  wpAny (model prog w) A (ofAClassStatement n v) Q E s
end
section
variable {prog : Program} {w : World}
theorem hash_tuple {xs : List PyData} (ih : ∀ x ∈ xs, HashOk prog w x) : HashOk prog w (.tuple xs) := by
  intro A E s v as Q r hbx hu h
  have hbx : hbAll xs = true := by simpa [hb] using hbx
  rw [depth_tuple] at hu
  cases r with
  | @tuple a o items n _ _ ho hc hd hi =>
  have hT : s.TypeIs (.ref a) "tuple" := ⟨o, ho, hc⟩
  unfold pyHash
  first | unfold pyHashByItsType | skip
  first | refine wpAny_bind (wpAny_cRoomFor_or (.inr (by omega)) ?_) | skip
  refine wpAny_bind (wpAny_specialOf hT F.slot_tuple_hash.lookup ?_)
  show wpAny _ _ (if (some (Value.builtin "tuple.__hash__") == some Value.none) = true then _ else _) Q E s
  rw [if_neg (by rw [beq_builtin_none]; exact Bool.false_ne_true)]
  refine wpAny_bind (wpAny_specialOf hT F.slot_tuple_hash.lookup ?_)
  show wpAny _ _ (callSpecialIfBoundUnlessNone? (.ref a) "__hash__" _ >>= _) Q E s
  refine wpAny_bind (wpAny_callSpecialIfBoundUnlessNone?_slot hT F.slot_tuple_hash (wpAny_call_entry F.slot_tuple_hash hT F.entry_tuple_hash ?_ (F.args_tuple_hash_1 _)))
  show wpAny _ _ (Builtin.Tuple.tupleItemsOf (.ref a) >>= _) _ _ s
  refine wpAny_bind (wpAny_tupleItemsOf ho hd ?_)
  refine wpAny_bind ?_
  rw [← Array.forIn_toList]
  refine wpAny_forIn_list _
    (fun rest (b : Array Int) s' => ∃ done left as', xs = done ++ left ∧ ReadsAll s.heap rest left as' ∧ b.toList = done.map (hsh w) ∧ ∃ tk, s.toks ≤ tk ∧ s' = { s with toks := tk })
    _ ?_ ?_ _ _ ⟨[], xs, _, rfl, hi, rfl, s.toks, Nat.le_refl _, rfl⟩
  · rintro x rest b s' ⟨done, left, as', e, hl, hb', tk, htk, rfl⟩
    cases hl with
    | @cons _ _ d ds a1 a2 h1 h2 =>
      have hm : d ∈ xs := by rw [e]; simp
      refine wpAny_bind (ih d hm _ _ _ _ _ _ h1 (hbAll_mem hbx d hm) ?_ fun tk' htk' => ?_)
      · have := depth_mem hm
        show A.units + 1 + d.depth < cLine
        omega
      · first
          | exact wpAny_pure ⟨done ++ [d], ds, a2, by rw [e]; simp, h2, by simp [hb'], tk', Nat.le_trans htk htk', rfl⟩
          | exact wpAny_bind (wpAny_pure (wpAny_pure ⟨done ++ [d], ds, a2, by rw [e]; simp, h2, by simp [hb'], tk', Nat.le_trans htk htk', rfl⟩))
  · rintro b s' ⟨done, left, as', e, hl, hb', tk, htk, rfl⟩
    cases hl
    rw [List.append_nil] at e
    subst e
    show wpAny _ _ (retInt (Builtin.Tuple.tupleHashOf b.toList)) _ _ _
    rw [hb']
    refine wpAny_ret_mkInt ?_
    show wpAny _ _ (if (decide (-(2 : Int) ^ 63 ≤ Builtin.Tuple.tupleHashOf (xs.map (hsh w))) && decide (Builtin.Tuple.tupleHashOf (xs.map (hsh w)) < 2 ^ 63)) = true then _ else _) Q E _
    have h' : ∀ tk, s.toks ≤ tk → Q (reduceHash (Builtin.Tuple.tupleHashOf (xs.map (hsh w)))) { s with toks := tk } := fun tk htk => by have := h tk htk; rw [hsh, hshAll_map] at this; exact this
    unfold reduceHash at h'
    by_cases hr : (decide (-(2 : Int) ^ 63 ≤ Builtin.Tuple.tupleHashOf (xs.map (hsh w))) && decide (Builtin.Tuple.tupleHashOf (xs.map (hsh w)) < 2 ^ 63)) = true
    · rw [if_pos hr]
      rw [if_pos hr] at h'
      exact wpAny_pure (h' _ (Nat.le_succ_of_le htk))
    · rw [if_neg hr]
      rw [if_neg hr] at h'
      exact wpAny_bind (wpAny_rule (wpAny_pure (h' _ (Nat.le_succ_of_le htk))))
theorem hash_ok : ∀ d, HashOk prog w d := ind
  (fun i A E s v as Q r _ _ h => by cases r; exact wpAny_pyHash_int (by rw [show hsh w (.int i) = hashInt i by rw [hsh]] at h; exact h _ (Nat.le_succ _)))
  (fun x A E s v as Q r _ _ h => by cases r; exact wpAny_pyHash_str (by rw [show hsh w (.str x) = hashStr w x by rw [hsh]] at h; exact h _ (Nat.le_succ _)))
  (fun xs ih => hash_tuple ih) (fun A E s v as Q r h _ _ => by simp [hb] at h) (fun _ A E s v as Q r h _ _ => by simp [hb] at h) (fun _ A E s v as Q r h _ _ => by simp [hb] at h) (fun _ A E s v as Q r h _ _ => by simp [hb] at h)
theorem quiet_tuple {xs : List PyData} (ih : ∀ x ∈ xs, QuietOk prog w x) : QuietOk prog w (.tuple xs) := by
  intro n A E s v as Q r hbx hn h
  have hbx : hbAll xs = true := by simpa [hb] using hbx
  rw [depth_tuple] at hn
  obtain ⟨k, rfl⟩ : ∃ k, n = k + 1 := ⟨n - 1, by omega⟩
  cases r with
  | @tuple a o items m _ _ ho hc hd hi =>
  have hT : s.TypeIs (.ref a) "tuple" := ⟨o, ho, hc⟩
  unfold eqIsQuiet
  refine wpAny_bind (wpAny_specialOf hT F.slot_tuple_eq.lookup ?_)
  show wpAny _ _ (isInstance (.ref a) (.type "tuple") >>= _) _ _ s
  refine wpAny_bind (wpAny_isInstance hT isSubtype_tuple_tuple ?_)
  simp only [Bool.not_true, Bool.false_eq_true, if_false]
  refine wpAny_bind (wpAny_seqItems ho hd ?_)
  refine wpAny_bind ?_
  show wpAny _ _ (forIn items _ _) _ _ s
  rw [← Array.forIn_toList]
  refine wpAny_forIn_list _ (fun rest r s' => r.1 = none ∧ s' = s ∧ ∃ left as', (∀ x ∈ left, x ∈ xs) ∧ ReadsAll s.heap rest left as') _ ?_ ?_ _ _ ⟨rfl, rfl, xs, _, fun x h => h, hi⟩
  · rintro v rest r s' ⟨hr, rfl, left, as', sub, hl⟩
    cases hl with
    | @cons _ _ d ds a1 a2 h1 h2 =>
      have hm := sub d List.mem_cons_self
      refine wpAny_bind (ih d hm k _ _ _ _ _ _ h1 (hbAll_mem hbx d hm) (by have := depth_mem hm; omega) ?_)
      simp only [Bool.not_true, Bool.false_eq_true, if_false]
      exact wpAny_pure ⟨rfl, rfl, ds, a2, fun x h => sub x (List.mem_cons_of_mem _ h), h2⟩
  · rintro ⟨r1, r2⟩ s' ⟨hr, rfl, _⟩
    simp only at hr
    subst hr
    exact wpAny_pure h
theorem quiet_ok : ∀ d, QuietOk prog w d := ind
  (fun i n A E s v as Q r _ _ h => by cases r; rw [eqIsQuiet_byValue _ rfl]; exact wpAny_pure h)
  (fun x n A E s v as Q r _ _ h => by cases r; rw [eqIsQuiet_byValue _ rfl]; exact wpAny_pure h)
  (fun xs ih => quiet_tuple ih) (fun n A E s v as Q r h _ _ => by simp [hb] at h) (fun _ n A E s v as Q r h _ _ => by simp [hb] at h) (fun _ n A E s v as Q r h _ _ => by simp [hb] at h) (fun _ n A E s v as Q r h _ _ => by simp [hb] at h)
theorem plain_tuple {xs : List PyData} (ih : ∀ x ∈ xs, PlainOk prog w x) : PlainOk prog w (.tuple xs) := by
  intro n A E s v as Q r hbx hn h
  have hbx : hbAll xs = true := by simpa [hb] using hbx
  rw [depth_tuple] at hn
  obtain ⟨k, rfl⟩ : ∃ k, n = k + 1 := ⟨n - 1, by omega⟩
  cases r with
  | @tuple a o items m _ _ ho hc hd hi =>
  have hT : s.TypeIs (.ref a) "tuple" := ⟨o, ho, hc⟩
  unfold ofAClassStatement
  refine wpAny_bind (wpAny_typeOf hT ?_)
  show wpAny _ _ (pure true >>= _) _ _ s
  refine wpAny_bind (wpAny_pure ?_)
  simp only [Bool.not_true, Bool.false_eq_true, if_false]
  refine wpAny_bind (wpAny_seqItems ho hd ?_)
  dsimp only
  refine wpAny_bind ?_
  show wpAny _ _ (forIn items _ _) _ _ s
  rw [← Array.forIn_toList]
  refine wpAny_forIn_list _ (fun rest r s' => r.1 = none ∧ s' = s ∧ ∃ left as', (∀ x ∈ left, x ∈ xs) ∧ ReadsAll s.heap rest left as') _ ?_ ?_ _ _ ⟨rfl, rfl, xs, _, fun x h => h, hi⟩
  · rintro v rest r s' ⟨hr, rfl, left, as', sub, hl⟩
    cases hl with
    | @cons _ _ d ds a1 a2 h1 h2 =>
      have hm := sub d List.mem_cons_self
      refine wpAny_bind (ih d hm k _ _ _ _ _ _ h1 (hbAll_mem hbx d hm) (by have := depth_mem hm; omega) ?_)
      simp only [Bool.false_eq_true, if_false]
      exact wpAny_pure ⟨rfl, rfl, ds, a2, fun x h => sub x (List.mem_cons_of_mem _ h), h2⟩
  · rintro ⟨r1, r2⟩ s' ⟨hr, rfl, _⟩
    simp only at hr
    subst hr
    exact wpAny_pure h
theorem plain_ok : ∀ d, PlainOk prog w d := ind
  (fun i n A E s v as Q r _ _ h => by cases r; unfold ofAClassStatement; exact wpAny_pure h)
  (fun x n A E s v as Q r _ _ h => by cases r; unfold ofAClassStatement; exact wpAny_pure h)
  (fun xs ih => plain_tuple ih) (fun n A E s v as Q r h _ _ => by simp [hb] at h) (fun _ n A E s v as Q r h _ _ => by simp [hb] at h) (fun _ n A E s v as Q r h _ _ => by simp [hb] at h) (fun _ n A E s v as Q r h _ _ => by simp [hb] at h)
mutual
def ho : PyData → Bool
  | .int _ => true
  | .tuple xs => hoAll xs
  | .str _ | .none | .bool _ | .list _ | .dict _ => false
def hoAll : List PyData → Bool
  | [] => true
  | x :: xs => ho x && hoAll xs
end
theorem hoAll_mem : ∀ {xs : List PyData}, hoAll xs = true → ∀ x ∈ xs, ho x = true
  | y :: ys, e, x, h => by
    have e : ho y = true ∧ hoAll ys = true := by simpa [hoAll] using e
    rcases List.mem_cons.mp h with rfl | h
    · exact e.1
    · exact hoAll_mem e.2 x h
def ByValI (prog : Program) (w : World) (d : PyData) : Prop := ∀ (n : Nat) (A : Around) (E : Value → Shared → Prop) (s : Shared) (v : Value) (as : List Addr) (Q : Bool → Shared → Prop), Reads s.heap v d as → ho d = true → d.depth ≤ n → Q true s →
  wpAny (model prog w) A (hashByValue n v) Q E s
theorem byvalI_tuple {xs : List PyData} (ih : ∀ x ∈ xs, ByValI prog w x) : ByValI prog w (.tuple xs) := by
  intro n A E s v as Q r hbx hn h
  have hbx : hoAll xs = true := by simpa [ho] using hbx
  rw [depth_tuple] at hn
  obtain ⟨k, rfl⟩ : ∃ k, n = k + 1 := ⟨n - 1, by omega⟩
  cases r with
  | @tuple a o items m _ _ ho hc hd hi =>
  have hT : s.TypeIs (.ref a) "tuple" := ⟨o, ho, hc⟩
  unfold hashByValue
  refine wpAny_bind (wpAny_specialOf hT F.slot_tuple_hash.lookup ?_)
  show wpAny _ _ (seqItems? (.ref a) >>= _) _ _ s
  refine wpAny_bind (wpAny_seqItems ho hd ?_)
  refine wpAny_bind ?_
  show wpAny _ _ (forIn items _ _) _ _ s
  rw [← Array.forIn_toList]
  refine wpAny_forIn_list _ (fun rest r s' => r.1 = none ∧ s' = s ∧ ∃ left as', (∀ x ∈ left, x ∈ xs) ∧ ReadsAll s.heap rest left as') _ ?_ ?_ _ _ ⟨rfl, rfl, xs, _, fun x h => h, hi⟩
  · rintro v rest r s' ⟨hr, rfl, left, as', sub, hl⟩
    cases hl with
    | @cons _ _ d ds a1 a2 h1 h2 =>
      have hm := sub d List.mem_cons_self
      refine wpAny_bind (ih d hm k _ _ _ _ _ _ h1 (hoAll_mem hbx d hm) (by have := depth_mem hm; omega) ?_)
      simp only [Bool.not_true, Bool.false_eq_true, if_false]
      exact wpAny_pure ⟨rfl, rfl, ds, a2, fun x h => sub x (List.mem_cons_of_mem _ h), h2⟩
  · rintro ⟨r1, r2⟩ s' ⟨hr, rfl, _⟩
    simp only at hr
    subst hr
    exact wpAny_pure h
theorem byvalI_ok : ∀ d, ByValI prog w d := ind
  (fun i n A E s v as Q r _ _ h => by cases r; cases n <;> (unfold hashByValue; exact wpAny_pure h))
  (fun _ n A E s v as Q r h _ _ => by simp [ho] at h)
  (fun xs ih => byvalI_tuple ih) (fun n A E s v as Q r h _ _ => by simp [ho] at h) (fun _ n A E s v as Q r h _ _ => by simp [ho] at h) (fun _ n A E s v as Q r h _ _ => by simp [ho] at h) (fun _ n A E s v as Q r h _ _ => by simp [ho] at h)
mutual
theorem ho_hb : ∀ d, ho d = true → hb d = true
  | .int _, _ => rfl
  | .tuple xs, h => by
    show hbAll xs = true
    exact hoAll_hb xs (by simpa [ho] using h)
  | .str _, h => by simp [ho] at h
  | .none, h => by simp [ho] at h
  | .bool _, h => by simp [ho] at h
  | .list _, h => by simp [ho] at h
  | .dict _, h => by simp [ho] at h
theorem hoAll_hb : ∀ xs, hoAll xs = true → hbAll xs = true
  | [], _ => rfl
  | x :: xs, h => by
    have h : ho x = true ∧ hoAll xs = true := by simpa [hoAll] using h
    show (hb x && hbAll xs) = true
    rw [ho_hb x h.1, hoAll_hb xs h.2]; rfl
end
end
end SE

set_option linter.all false
set_option maxRecDepth 100000
namespace SE
open PySem PySem.Spec PyProof.Rows ST

/-! ### a heap that keeps its tuples -/
def TupsK (h h' : Heap) : Prop := ∀ b o, h.get? b = some o → o.cls = .type "tuple" → h'.get? b = some o
theorem TupsK.trans {a b c : Heap} (x : TupsK a b) (y : TupsK b c) : TupsK a c := fun d o e q => y d o (x d o e q) q
theorem TupsK.of {h h' : Heap} (k : ∀ b o, h.get? b = some o → h'.get? b = some o) : TupsK h h' := fun b o e _ => k b o e
theorem TupsK.but {h h' : Heap} {a : Addr} {o : Obj} (ho : h.get? a = some o) (hc : o.cls ≠ .type "tuple") (s : Heap.SameBut a h h') : TupsK h h' := fun b u e q => by
  by_cases hb : b = a
  · subst hb; rw [ho] at e; cases e; exact absurd q hc
  · exact (s.2 b hb).trans e
def ReadsKeep (d : PyData) : Prop := hb d = true → ∀ (h h' : Heap) (v : Value) (as : List Addr), TupsK h h' → Reads h v d as → Reads h' v d as
theorem readsAll_keep : ∀ (xs : List PyData), (∀ x ∈ xs, ReadsKeep x) → hbAll xs = true → ∀ (h h' : Heap) (vs : List Value) (as : List Addr), TupsK h h' → ReadsAll h vs xs as → ReadsAll h' vs xs as
  | [], _, _, h, h', vs, as, k, r => by cases r; exact .nil
  | x :: xs, ih, hx, h, h', vs, as, k, r => by
    have hx : hb x = true ∧ hbAll xs = true := by simpa [hbAll] using hx
    cases r with
    | cons r1 r2 => exact .cons (ih x List.mem_cons_self hx.1 _ _ _ _ k r1) (readsAll_keep xs (fun y hy => ih y (List.mem_cons_of_mem _ hy)) hx.2 _ _ _ _ k r2)
theorem reads_keep : ∀ d, ReadsKeep d := ind
  (fun i _ h h' v as k r => by cases r; exact .int ..) (fun x _ h h' v as k r => by cases r; exact .str ..)
  (fun xs ih hx h h' v as k r => by
    have hx : hbAll xs = true := by simpa [hb] using hx
    cases r with
    | tuple h1 h2 h3 h4 => exact .tuple (k _ _ h1 h2) h2 h3 (readsAll_keep xs ih hx _ _ _ _ k h4))
  (fun h => by simp [hb] at h) (fun _ h => by simp [hb] at h) (fun _ h => by simp [hb] at h) (fun _ h => by simp [hb] at h)

/-! ### elements: tuples -/
structure El (d : PyData) : Prop where
  i : ho d = true
  t : ∃ xs, d = .tuple xs
  dp : d.depth ≤ 8
theorem El.h {d : PyData} (e : El d) : hb d = true := ho_hb d e.i
theorem El.ref {d : PyData} (e : El d) {h : Heap} {v : Value} {as : List Addr} (r : Reads h v d as) : ∃ a, v = .ref a := by
  obtain ⟨xs, rfl⟩ := e.t
  cases r; exact ⟨_, rfl⟩
structure EntOk (w : World) (h : Heap) (e : Int × Value) (d : PyData) : Prop where
  hash : e.1 = hsh w d
  el : El d
  rd : ∃ as, Reads h e.2 d as
abbrev Ents (w : World) (h : Heap) : List (Int × Value) → List PyData → Prop := Paired (EntOk w h)
theorem EntOk.keep {w : World} {h h' : Heap} {e : Int × Value} {d : PyData} (x : EntOk w h e d) (k : TupsK h h') : EntOk w h' e d :=
  ⟨x.hash, x.el, let ⟨as, r⟩ := x.rd; ⟨as, reads_keep d x.el.h _ _ _ _ k r⟩⟩
theorem Ents.keep {w : World} {h h' : Heap} (k : TupsK h h') : ∀ {es : List (Int × Value)} {ds : List PyData}, Ents w h es ds → Ents w h' es ds
  | _, _, .nil => .nil
  | _, _, .cons a b => .cons (a.keep k) (Ents.keep k b)
theorem Ents.get {w : World} {h : Heap} : ∀ {es : List (Int × Value)} {ds : List PyData} {i : Nat} {e : Int × Value}, Ents w h es ds → es[i]? = some e → ∃ d, ds[i]? = some d ∧ EntOk w h e d
  | _, _, _, _, .nil, h => by simp at h
  | _, _, 0, _, .cons a _, h => by simp at h; subst h; exact ⟨_, rfl, a⟩
  | _, _, i + 1, _, .cons _ b, h => by
    obtain ⟨d, h1, h2⟩ := Ents.get (i := i) b (by simpa using h)
    exact ⟨d, by simpa using h1, h2⟩
theorem Ents.get' {w : World} {h : Heap} : ∀ {es : List (Int × Value)} {ds : List PyData} {i : Nat} {d : PyData}, Ents w h es ds → ds[i]? = some d → ∃ e, es[i]? = some e ∧ EntOk w h e d
  | _, _, _, _, .nil, h => by simp at h
  | _, _, 0, _, .cons a _, h => by simp at h; subst h; exact ⟨_, rfl, a⟩
  | _, _, i + 1, _, .cons _ b, h => by
    obtain ⟨d, h1, h2⟩ := Ents.get' (i := i) b (by simpa using h)
    exact ⟨d, by simpa using h1, h2⟩
theorem Ents.length {w : World} {h : Heap} {es : List (Int × Value)} {ds : List PyData} (x : Ents w h es ds) : es.length = ds.length := Paired.length x

section
variable {prog : Program} {w : World} {A : Around} {E : Value → Shared → Prop} {s : Shared}
/-- y == x of two elements -/
theorem el_eq {d e : PyData} {v u : Value} {as bs : List Addr} {Q : Bool → Shared → Prop} (hd : El d) (he : El e) (r1 : Reads s.heap v d as) (r2 : Reads s.heap u e bs) (hu : A.units + 64 < cLine) (h : ∀ b : Bool, (b = true ↔ d = e) → Q b s) : wpAny (model prog w) A (eqBool v u) Q E s := by
  have := SeqAt.eqAt_reads d e A s v u as bs r1 r2 (hb_canLay d hd.h) (hb_canLay e he.h) (by have := hd.dp; omega)
  exact this prog w E Q (h _ (eqv_iff hd.h he.h))
/-- nobody sees the search -/
theorem unseen {d : PyData} {x : Value} {as : List Addr} (hd : El d) (r : Reads s.heap x d as) {Q : Bool → Shared → Prop} (h : Q false s) : ∀ (l : List Value), (∀ y ∈ l, ∃ e bs, El e ∧ Reads s.heap y e bs) → wpAny (model prog w) A (searchCouldBeSeen x l) Q E s := by
  intro l hl
  unfold searchCouldBeSeen
  refine wpAny_bind ?_
  refine wpAny_forIn_list _ (fun rest r s' => r.1 = none ∧ s' = s ∧ ∀ y ∈ rest, ∃ e bs, El e ∧ Reads s.heap y e bs) _ ?_ ?_ _ _ ⟨rfl, rfl, hl⟩
  · rintro y rest r' s' ⟨hr, rfl, hall⟩
    obtain ⟨e, bs, he, re⟩ := hall y List.mem_cons_self
    have next : ∀ (b : Option Bool × PUnit), b.1 = none → (b.1 = none ∧ s' = s' ∧ ∀ y ∈ rest, ∃ e bs, El e ∧ Reads s'.heap y e bs) := fun b hb => ⟨hb, rfl, fun z hz => hall z (List.mem_cons_of_mem _ hz)⟩
    obtain ⟨a, rfl⟩ := hd.ref r
    obtain ⟨b, rfl⟩ := he.ref re
    dsimp only
    by_cases hab : (a == b) = true
    · simp only [hab, Bool.true_or, if_true]
      exact wpAny_pure (next _ rfl)
    · have hab : (a == b) = false := by simpa using hab
      have c1 : carriedByValue (.ref a) = false := rfl
      simp only [hab, c1, Bool.false_and, Bool.or_false, Bool.false_eq_true, if_false]
      refine wpAny_bind (quiet_ok d 8 _ _ _ _ _ _ r hd.h hd.dp ?_)
      simp only [Bool.not_true, Bool.false_eq_true, if_false]
      refine wpAny_bind (quiet_ok e 8 _ _ _ _ _ _ re he.h he.dp ?_)
      simp only [Bool.not_true, Bool.false_eq_true, if_false]
      refine wpAny_bind (plain_ok d 8 _ _ _ _ _ _ r hd.h hd.dp ?_)
      simp only [Bool.false_eq_true, if_false]
      refine wpAny_bind (plain_ok e 8 _ _ _ _ _ _ re he.h he.dp ?_)
      simp only [Bool.false_eq_true, if_false]
      exact wpAny_pure (next _ rfl)
  · rintro ⟨r1, r2⟩ s' ⟨hr, rfl, _⟩
    simp only at hr
    subst hr
    exact wpAny_pure h

/-- sets are walked in an order of the text's -/
def byT (w : World) : Bool := w.params.followText "set-order"
/-- the state of a set as it stands -/
structure SetSt (w : World) (h0 h : Heap) (a : Addr) (o : Obj) (es : Array (Int × Value)) (ep : Nat) (t : SetTable) (ds : List PyData) : Prop where
  ho : h.get? a = some o
  ex : o.ExactSet
  hd : o.data = .set es ep t
  tab : TabOk t es.toList
  ent0 : Ents w h0 es.toList ds
  kp : TupsK h0 h
  plain : t.plain = true
  led : t.led = !byT w
theorem SetSt.ent {h0 h : Heap} {a : Addr} {o : Obj} {es : Array (Int × Value)} {ep : Nat} {t : SetTable} {ds : List PyData} (S : SetSt w h0 h a o es ep t ds) : Ents w h es.toList ds := S.ent0.keep S.kp
theorem SetSt.fits {h0 h : Heap} {a : Addr} {o : Obj} {es : Array (Int × Value)} {ep : Nat} {t : SetTable} {ds : List PyData} (S : SetSt w h0 h a o es ep t ds) : t.fits es.size = true := by
  unfold SetTable.fits
  have := S.tab.len
  have f : t.fill ≤ t.mask := S.tab.fill
  simp only [Array.length_toList] at this
  simp [this, f]
theorem SetSt.state {h0 : Heap} {a : Addr} {o : Obj} {es : Array (Int × Value)} {ep : Nat} {t : SetTable} {ds : List PyData} (S : SetSt w h0 s.heap a o es ep t ds) {Q : (Array (Int × Value) × Nat × SetTable) → Shared → Prop} (h : Q (es, ep, t) s) : wpAny (model prog w) A (setState a) Q E s :=
  wpAny_setState_of S.ho S.hd S.fits h
theorem SetSt.at {h0 h : Heap} {a : Addr} {o : Obj} {es : Array (Int × Value)} {ep : Nat} {t : SetTable} {ds : List PyData} (S : SetSt w h0 h a o es ep t ds) {i j : Nat} (hi : t.place.toList[i]? = some j) : ∃ e d, es[i]? = some e ∧ ds[i]? = some d ∧ EntOk w h e d := by
  have hl : i < es.toList.length := by rw [← S.tab.len]; exact (List.getElem?_eq_some_iff.mp hi).1
  have hg : es.toList[i]? = some es.toList[i] := List.getElem?_eq_getElem hl
  obtain ⟨d, h1, h2⟩ := S.ent.get hg
  exact ⟨_, d, by simpa using hg, h1, h2⟩

theorem search_from {h0 : Heap} {a : Addr} {o : Obj} {es : Array (Int × Value)} {ep : Nat} {t : SetTable} {ds : List PyData} (S : SetSt w h0 s.heap a o es ep t ds) {d : PyData} {x : Value} {as : List Addr} (hd : El d) (r : Reads s.heap x d as) (hu : A.units + 64 < cLine) {adding : Bool} {Q : SetFound → Shared → Prop}
    (there : ∀ i : Nat, ds[i]? = some d → Q (.there (if adding then none else some i)) s)
    {N : Nat} (hN : ¬ Full t (pth t.mask (stt t.mask (hsh w d)) N).j) (hF : ∀ k, k < N → Full t (pth t.mask (stt t.mask (hsh w d)) k).j)
    (hlim : N < 10 * SetTable.turns t.mask)
    (free : (∀ (k i : Nat), k < N → t.place.toList[i]? = some (pth t.mask (stt t.mask (hsh w d)) k).j → ds[i]? ≠ some d) → ∀ slot dm, slot ∉ t.place.toList → slot ≤ t.mask → Rch t (hsh w d) slot → (dm = true ↔ slot ∈ t.dummies.toList) → Q (.free slot dm) s) :
    ∀ (fuel n : Nat) (stand : Option SetTable.Probe), N - n < fuel → n ≤ N → Alike (stand.getD (t.probeStart (hsh w d))) (pth t.mask (stt t.mask (hsh w d)) n) →
      (∀ (k i : Nat), k < n → t.place.toList[i]? = some (pth t.mask (stt t.mask (hsh w d)) k).j → ds[i]? ≠ some d) →
      ((stand.getD (t.probeStart (hsh w d))).dummy = none ∨ ∃ k, k < n ∧ (stand.getD (t.probeStart (hsh w d))).dummy = some (pth t.mask (stt t.mask (hsh w d)) k).j ∧ (pth t.mask (stt t.mask (hsh w d)) k).j ∈ t.dummies.toList ∧ (pth t.mask (stt t.mask (hsh w d)) k).j ∉ t.place.toList) →
      wpAny (model prog w) A (setSearchFrom a x (hsh w d) adding fuel stand) Q E s
  | 0, n, stand, hf, _, _, _, _ => absurd hf (Nat.not_lt_zero _)
  | fuel + 1, n, stand, hf, hn, al, no, dum => by
    unfold setSearchFrom
    refine wpAny_bind (S.state ?_)
    have gw : t.gaveWay = false := by
      unfold SetTable.gaveWay
      rw [S.tab.good.odd]; rfl
    dsimp only
    rw [gw]
    simp only [Bool.false_eq_true, if_false]
    generalize hp : stand.getD (t.probeStart (hsh w d)) = p at al dum ⊢
    have pj : ∀ k, (pth t.mask p k).j = (pth t.mask (stt t.mask (hsh w d)) (n + k)).j := fun k => by
      rw [pth_add]; exact (al.pth k).j
    obtain ⟨c, dd, h1, h2, h3, h4⟩ := probe_go S.tab.rp S.tab.rd (hashAt := fun i => (es[i]?.map (·.1)).getD 0) (h := hsh w d) (10 * SetTable.turns t.mask) (N - n) p (by omega)
      (by rw [pj, show n + (N - n) = N by omega]; exact hN) (fun k hk => by rw [pj]; exact hF (n + k) (by omega))
    -- up to c nothing that equals
    have no' : ∀ (k i : Nat), k < n + c → t.place.toList[i]? = some (pth t.mask (stt t.mask (hsh w d)) k).j → ds[i]? ≠ some d := fun k i hk hi hdi => by
      by_cases q : k < n
      · exact no k i q hi hdi
      · obtain ⟨e, d', e1, e2, ok⟩ := S.at hi
        have : d' = d := by rw [hdi] at e2; exact (Option.some.inj e2).symm
        subst this
        refine h2 (k - n) (by omega) i (by rw [pj, show n + (k - n) = k by omega]; exact hi) ?_
        rw [e1]; exact ok.hash
    have dum' : dd = none ∨ ∃ k, k < n + c ∧ dd = some (pth t.mask (stt t.mask (hsh w d)) k).j ∧ (pth t.mask (stt t.mask (hsh w d)) k).j ∈ t.dummies.toList ∧ (pth t.mask (stt t.mask (hsh w d)) k).j ∉ t.place.toList := by
      rcases h3 with z | ⟨k, hk, z1, z2, z3⟩
      · rcases dum with y | ⟨k, hk, y1, y2, y3⟩
        · exact .inl (z.trans y)
        · exact .inr ⟨k, by omega, z.trans y1, y2, y3⟩
      · rw [pj] at z1 z2 z3
        exact .inr ⟨n + k, by omega, z1, z2, z3⟩
    generalize hM : SetTable.probe t _ _ _ = M
    rcases h4 with ⟨hc, hm⟩ | ⟨i, nx, hi, hh, hcN, nal, ndm, hm⟩
    · -- a hole
      have e : M = _ := hM.symm.trans hm
      subst e
      dsimp only
      have hcn : n + c = N := by omega
      have noall := no'
      rw [hcn] at noall dum'
      rcases dum' with z | ⟨k, hk, z1, z2, z3⟩
      · subst z
        dsimp only
        refine wpAny_pure ?_
        rw [pj, hcn]
        refine free noall _ false (fun q => hN (.inl q)) ?_ ⟨N, rfl, hF⟩ ⟨fun q => (Bool.false_ne_true q).elim, fun q => absurd (Or.inr q) hN⟩
        have := ((PrOk.start t.mask (hsh w d)).pth N).j
        omega
      · subst z1
        dsimp only
        have sl : t.slot (pth t.mask (stt t.mask (hsh w d)) k).j = .dummy := slot_dummy S.tab.rp S.tab.rd z3 z2
        have ff : (adding && t.slot (pth t.mask (stt t.mask (hsh w d)) k).j != SetTable.Slot.dummy) = false := by
          rw [sl]; cases adding <;> rfl
        rw [ff]
        simp only [Bool.false_eq_true, if_false]
        refine wpAny_pure (free noall _ true z3 ?_ ⟨k, rfl, fun q hq => hF q (by omega)⟩ ⟨fun _ => z2, fun _ => rfl⟩)
        exact S.tab.ld _ z2
    · -- a candidate
      have e : M = _ := hM.symm.trans hm
      subst e
      dsimp only
      rw [pj] at hi
      obtain ⟨e, d', e1, e2, ok⟩ := S.at hi
      have side : ∀ y ∈ List.map (fun x => x.snd) (Array.filter (fun x => x.fst == hsh w d) es).toList, ∃ e bs, El e ∧ Reads s.heap y e bs := by
        intro y hy
        obtain ⟨q, hq, rfl⟩ := List.mem_map.mp hy
        have hq : q ∈ es.toList := by
          rw [Array.toList_filter] at hq
          exact (List.mem_filter.mp hq).1
        obtain ⟨k, hk⟩ := List.mem_iff_getElem?.mp hq
        obtain ⟨dq, _, okq⟩ := S.ent.get hk
        obtain ⟨bs, rq⟩ := okq.rd
        exact ⟨dq, bs, okq.el, rq⟩
      rcases (show t.led = true ∨ t.led = false by cases t.led <;> simp) with hl | hl
      case' inl =>
        rw [hl]
        simp only [Bool.not_true, Bool.false_eq_true, if_false]
      case' inr =>
        rw [hl]
        simp only [Bool.not_false, if_true]
        refine wpAny_bind (unseen hd r ?_ _ side)
        simp only [Bool.false_eq_true, if_false]
      all_goals
        rw [e1]
        obtain ⟨he, y⟩ := e
        dsimp only
        obtain ⟨bs, ry⟩ := ok.rd
        have ry : Reads s.heap y d' bs := ry
        refine wpAny_bind (wpAny_holding (el_eq ok.el hd ry r hu fun b hb => ?_))
        refine wpAny_bind (S.state ?_)
        dsimp only
        by_cases hab : (adding && b) = true
        · rw [if_pos hab]
          rw [Bool.and_eq_true] at hab
          have q := hb.mp hab.2
          subst q
          have := there i e2
          rw [if_pos hab.1] at this
          exact wpAny_pure this
        · rw [if_neg hab]
          have sm : t.sameMemory t.moves t.mask = some true := by
            unfold SetTable.sameMemory
            simp
          rw [sm]
          dsimp only
          simp only [if_true]
          rw [pj, slot_live S.tab.rp S.tab.rd hi]
          dsimp only
          rw [e1]
          dsimp only
          obtain ⟨ya, rfl⟩ := ok.el.ref ry
          refine wpAny_bind (wpAny_isSame_ref_self ?_)
          simp only [if_true]
          refine wpAny_bind (wpAny_pure ?_)
          dsimp only
          by_cases hb2 : b = true
          · subst hb2
            simp only [if_true]
            have q := hb.mp rfl
            subst q
            have ha : adding = false := by simpa using hab
            have := there i e2
            rw [ha] at this
            exact wpAny_pure (by simpa using this)
          · rw [if_neg hb2]
            have ne : ¬ d' = d := fun q => hb2 (hb.mpr q)
            refine search_from S hd r hu there hN hF hlim free fuel (n + c + 1) (some nx) (by omega) (by omega) ?_ ?_ ?_
            · show Alike nx _
              rw [show n + c + 1 = n + (c + 1) by omega, pth_add]
              have := al.pth (m := t.mask) (c + 1)
              exact ⟨nal.j.trans this.j, nal.more.trans this.more, nal.i.trans this.i, nal.perturb.trans this.perturb⟩
            · intro k i' hk hi' hdi
              by_cases q : k < n + c
              · exact no' k i' q hi' hdi
              · have : k = n + c := by omega
                subst this
                have : i' = i := by
                  rcases Nat.lt_trichotomy i' i with z | z | z
                  · exact absurd (S.tab.rp.get hi' hi z) (Nat.lt_irrefl _)
                  · exact z
                  · exact absurd (S.tab.rp.get hi hi' z) (Nat.lt_irrefl _)
                subst this
                rw [e2] at hdi
                exact ne (Option.some.inj hdi)
            · show nx.dummy = none ∨ ∃ k, k < n + c + 1 ∧ nx.dummy = _ ∧ _
              rw [ndm]
              rcases dum' with z | ⟨k, hk, z⟩
              · exact .inl z
              · exact .inr ⟨k, by omega, z⟩
end
end SE

set_option linter.all false
set_option maxRecDepth 100000
namespace SE
open PySem PySem.Spec PyProof.Rows ST

theorem paired_perm {α β : Type} {R : α → β → Prop} {l1 l1' : List α} (p : l1'.Perm l1) : ∀ {l2 : List β}, Paired R l1 l2 → ∃ l2', l2'.Perm l2 ∧ Paired R l1' l2' := by
  induction p with
  | nil => intro l2 h; cases h; exact ⟨[], .nil, .nil⟩
  | cons x _ ih =>
    intro l2 h
    cases h with
    | cons a b =>
      obtain ⟨m, h1, h2⟩ := ih b
      exact ⟨_ :: m, h1.cons _, .cons a h2⟩
  | swap x y l =>
    intro l2 h
    cases h with
    | cons a b =>
      cases b with
      | cons b c => exact ⟨_, .swap _ _ _, .cons b (.cons a c)⟩
  | trans _ _ ih1 ih2 =>
    intro l2 h
    obtain ⟨m, h1, h2⟩ := ih2 h
    obtain ⟨m', h3, h4⟩ := ih1 h2
    exact ⟨m', h3.trans h1, h4⟩
theorem paired_append {α β : Type} {R : α → β → Prop} : ∀ {a c : List α} {b d : List β}, Paired R a b → Paired R c d → Paired R (a ++ c) (b ++ d)
  | _, _, _, _, .nil, h => h
  | _, _, _, _, .cons x y, h => .cons x (paired_append y h)
theorem paired_take {α β : Type} {R : α → β → Prop} : ∀ {a : List α} {b : List β} (n : Nat), Paired R a b → Paired R (a.take n) (b.take n)
  | _, _, 0, _ => by simp; exact .nil
  | _, _, n + 1, .nil => .nil
  | _, _, n + 1, .cons x y => .cons x (paired_take n y)
theorem paired_drop {α β : Type} {R : α → β → Prop} : ∀ {a : List α} {b : List β} (n : Nat), Paired R a b → Paired R (a.drop n) (b.drop n)
  | _, _, 0, h => h
  | _, _, n + 1, .nil => .nil
  | _, _, n + 1, .cons x y => paired_drop n y
theorem insert_perm {α : Type} (l : List α) (p : Nat) (x : α) : (l.take p ++ x :: l.drop p).Perm (x :: l) := by
  have : (l.take p ++ x :: l.drop p).Perm (x :: (l.take p ++ l.drop p)) := List.perm_middle
  rw [List.take_append_drop] at this
  exact this
section
variable {prog : Program} {w : World} {A : Around} {E : Value → Shared → Prop} {s : Shared}
def SetAt (w : World) (h0 h : Heap) (a : Addr) (ds : List PyData) : Prop := ∃ o es ep t, SetSt w h0 h a o es ep t ds ∧ Lo t ∧ ds.Nodup
theorem SetSt.nomem {h0 h : Heap} {a : Addr} {o : Obj} {es : Array (Int × Value)} {ep : Nat} {t : SetTable} {ds : List PyData} (S : SetSt w h0 h a o es ep t ds) {d : PyData} {N : Nat} (hN : ¬ Full t (pth t.mask (stt t.mask (hsh w d)) N).j)
    (no : ∀ (k i : Nat), k < N → t.place.toList[i]? = some (pth t.mask (stt t.mask (hsh w d)) k).j → ds[i]? ≠ some d) : d ∉ ds := by
  intro hm
  obtain ⟨i, hi⟩ := List.mem_iff_getElem?.mp hm
  obtain ⟨e, he, ok⟩ := S.ent.get' hi
  have hl : i < t.place.toList.length := by rw [S.tab.len]; exact (List.getElem?_eq_some_iff.mp he).1
  have hg : t.place.toList[i]? = some t.place.toList[i] := List.getElem?_eq_getElem hl
  generalize t.place.toList[i] = j at hg
  have hz : (j, e) ∈ t.place.toList.zip es.toList := List.mem_iff_getElem?.mpr ⟨i, by rw [List.getElem?_zip_eq_some]; exact ⟨hg, he⟩⟩
  obtain ⟨n, h1, h2⟩ := S.tab.rch _ hz
  dsimp only at h1 h2
  rw [ok.hash] at h1 h2
  by_cases q : n < N
  · exact no n i q (by rw [h1]; exact hg) hi
  · by_cases q2 : n = N
    · subst q2
      rw [h1] at hN
      exact hN (.inl (List.mem_of_getElem? hg))
    · exact hN (h2 N (by omega))
/-- the search, whole -/
theorem search_ok {h0 : Heap} {a : Addr} {o : Obj} {es : Array (Int × Value)} {ep : Nat} {t : SetTable} {ds : List PyData} (S : SetSt w h0 s.heap a o es ep t ds) {d : PyData} {x : Value} {as : List Addr} (hd : El d) (r : Reads s.heap x d as) (hu : A.units + 64 < cLine) {adding : Bool} {Q : SetFound → Shared → Prop}
    (there : ∀ i : Nat, ds[i]? = some d → Q (.there (if adding then none else some i)) s)
    (free : d ∉ ds → ∀ slot dm, slot ∉ t.place.toList → slot ≤ t.mask → Rch t (hsh w d) slot → (dm = true ↔ slot ∈ t.dummies.toList) → Q (.free slot dm) s) :
    wpAny (model prog w) A (setSearch a x (hsh w d) adding) Q E s := by
  obtain ⟨N, h1, h2, h3⟩ := S.tab.way (p := stt t.mask (hsh w d)) (PrOk.start _ _) (bits_lt _)
  refine search_from S hd r hu there h2 h3 h1 (fun no => free (S.nomem h2 no)) 100000 0 none ?_ (Nat.zero_le _) (Alike.refl _) (fun k i h => absurd h (Nat.not_lt_zero _)) (.inl rfl)
  have := S.tab.good.most
  unfold SetTable.turns at h1
  omega
theorem not_scan {x : Value} {d : PyData} {h : Heap} {as : List Addr} (hd : El d) (r : Reads h x d as) (es : Array (Int × Value)) : byScan x es = false := by
  obtain ⟨a, rfl⟩ := hd.ref r
  rfl
theorem Ents.perm {h : Heap} {es es' : List (Int × Value)} {ds : List PyData} (x : Ents w h es ds) (p : es'.Perm es) : ∃ ds', ds'.Perm ds ∧ Ents w h es' ds' := paired_perm p x
theorem cls_ne {o : Obj} (h : o.ExactSet) : o.cls ≠ .type "tuple" := by rw [h.1]; decide
/-- a set is written -/
theorem SetSt.stored {h0 h : Heap} {a : Addr} {o : Obj} {es : Array (Int × Value)} {ep : Nat} {t : SetTable} {ds : List PyData} (S : SetSt w h0 h a o es ep t ds) {es' : Array (Int × Value)} {t' : SetTable} {ds' : List PyData} (T : TabOk t' es'.toList) (x : Ents w h0 es'.toList ds') (pl : t'.plain = t.plain) (ld : t'.led = t.led) :
    Heap.SameBut a h (h.update a (Obj.putSet es' t')) ∧ SetSt w h0 (h.update a (Obj.putSet es' t')) a { o with data := .set es' (ep + 1) t' } es' (ep + 1) t' ds' := by
  have sb := Heap.SameBut.update h a (Obj.putSet es' t')
  refine ⟨sb, ?_, S.ex, rfl, T, x, S.kp.trans (TupsK.but S.ho (cls_ne S.ex) sb), pl.trans S.plain, ld.trans S.led⟩
  have := Heap.get?_update_self (Obj.putSet es' t') S.ho (by rw [putSet_of es' t' S.hd]; rfl)
  rw [putSet_of es' t' S.hd] at this; exact this
theorem SetSt.store {h0 : Heap} {a : Addr} {o : Obj} {es : Array (Int × Value)} {ep : Nat} {t : SetTable} {ds : List PyData} (S : SetSt w h0 s.heap a o es ep t ds) {es' : Array (Int × Value)} {t' : SetTable} (hz : es'.size ≤ 4096) {Q : Unit → Shared → Prop} (h : Q () { s with heap := s.heap.update a (Obj.putSet es' t') }) :
    wpAny (model prog w) A (storeSet a es' t') Q E s := wpAny_storeSet_of S.ho S.hd h (Nat.le_trans hz (by decide))
theorem relay_ok {h0 : Heap} {a : Addr} {o : Obj} {es : Array (Int × Value)} {ep : Nat} {t : SetTable} {ds : List PyData} (S : SetSt w h0 s.heap a o es ep t ds) {n : Nat} (hn : n ≤ 255) (hs : 2 * es.size ≤ n) {Q : Unit → Shared → Prop}
    (h : ∀ h' o' es' t' ds', Heap.SameBut a s.heap h' → SetSt w h0 h' a o' es' (ep + 1) t' ds' → ds'.Perm ds → Lo t' → t'.fill = es.size → t'.mask = SetTable.sizeAbove n - 1 → t'.dummies = #[] → Q () { s with heap := h' }) : wpAny (model prog w) A (setRelay a n) Q E s := by
  obtain ⟨g, hlt⟩ := sizeAbove_good hn
  have lin := sizeAbove_line hn
  have g7 := g.least
  obtain ⟨t', order, l1, l2, l3, l4, l5, l6, l7, l8, l9, l10, l11⟩ := laid_ok g t.finger (t.movedTo (SetTable.sizeAbove n - 1)) t.led t.plain es (by omega)
  unfold setRelay
  refine wpAny_bind (S.state ?_)
  dsimp only
  rw [if_neg (show ¬ SetTable.sizeAbove n > sizeLine from Nat.not_lt.mpr (Nat.le_trans lin (by decide)))]
  have l1 : t.relaid (es.map (·.1)) n = some (t', order) := l1
  refine wpAny_bind ?_
  rw [l1]
  show wpAny _ _ (if ((order.filterMap (es[·]?)).size != es.size) = true then _ else pure (order.filterMap (es[·]?), t')) _ _ s
  rw [if_neg (by rw [l10]; simp)]
  refine wpAny_pure ?_
  dsimp only
  obtain ⟨ds', p1, p2⟩ := S.ent0.perm l9
  obtain ⟨sb, S'⟩ := S.stored l11 p2 l7 l6
  refine S.store (by rw [l10]; omega) (h _ _ _ _ ds' sb S' p1 ?_ l8 l2 l3)
  unfold Lo
  rw [l8, l2]
  omega
end
end SE

set_option linter.all false
set_option maxRecDepth 100000
namespace SE
open PySem PySem.Spec PyProof.Rows ST
section
variable {prog : Program} {w : World} {A : Around} {E : Value → Shared → Prop} {s : Shared}
theorem SetSt.sizes {h0 h : Heap} {a : Addr} {o : Obj} {es : Array (Int × Value)} {ep : Nat} {t : SetTable} {ds : List PyData} (S : SetSt w h0 h a o es ep t ds) : es.size = ds.length := by
  have := S.ent.length; simpa using this
/-- an element is added -/
theorem add_ok {h0 : Heap} {a : Addr} {ds : List PyData} (S0 : SetAt w h0 s.heap a ds) {d : PyData} {x : Value} {as : List Addr} (hd : El d) (r0 : Reads h0 x d as) (hu : A.units + 64 < cLine) (hl : ds.length ≤ 62) {Q : Bool → Shared → Prop}
    (old : d ∈ ds → Q false s) (new : d ∉ ds → ∀ h' ds', Heap.SameBut a s.heap h' → SetAt w h0 h' a ds' → ds'.Perm (d :: ds) → Q true { s with heap := h' }) : wpAny (model prog w) A (setAddHashed a x (hsh w d)) Q E s := by
  obtain ⟨o, es, ep, t, S, lo, nd⟩ := S0
  have r : Reads s.heap x d as := reads_keep d hd.h _ _ _ _ S.kp r0
  have hsz := S.sizes
  unfold setAddHashed setAddHashedIn
  refine wpAny_holding (wpAny_bind (S.state ?_))
  dsimp only
  rw [not_scan hd r]
  simp only [Bool.false_eq_true, if_false]
  refine wpAny_bind (search_ok S hd r hu (fun i hi => ?_) fun hn sl dm h1 h2 h3 h4 => ?_)
  · exact wpAny_pure (old (List.mem_of_getElem? hi))
  · dsimp only
    refine wpAny_bind (S.state ?_)
    dsimp only
    have room : sl ∈ t.dummies.toList ∨ t.fill + 1 ≤ t.mask := by
      have := S.tab.good.least
      unfold Lo at lo
      right; omega
    obtain ⟨T, m1, m2, m3, m4, m5, f1, f2⟩ := S.tab.put (x := x) h1 h2 h3 room
    have ent : Ents w h0 (SetTable.insertAt es (t.put sl).2 (hsh w d, x)).toList (ds.take (t.put sl).2 ++ d :: ds.drop (t.put sl).2) := by
      rw [insertAt_list]
      exact paired_append (paired_take _ S.ent0) (.cons ⟨rfl, hd, as, r0⟩ (paired_drop _ S.ent0))
    have pm := insert_perm ds (t.put sl).2 d
    have isz : (SetTable.insertAt es (t.put sl).2 (hsh w d, x)).size = es.size + 1 := by
      have e1 := ent.length
      have e2 := pm.length_eq
      simp only [Array.length_toList] at e1
      rw [e1, e2, List.length_cons, hsz]
    have fin : wpAny (model prog w) A (do
        storeSet a (SetTable.insertAt es (t.put sl).2 (hsh w d, x)) (t.put sl).1
        if (!dm && (t.put sl).1.tooFull) = true then do
          setRelay a (SetTable.grown (es.size + 1))
          pure true
        else pure true) Q E s := by
      obtain ⟨sb, S'⟩ := S.stored T ent m5 m2
      refine wpAny_bind (S.store (by rw [isz]; omega) ?_)
      have nd' : (ds.take (t.put sl).2 ++ d :: ds.drop (t.put sl).2).Nodup := pm.nodup_iff.mpr (List.nodup_cons.mpr ⟨hn, nd⟩)
      by_cases hfull : (!dm && (t.put sl).1.tooFull) = true
      · rw [if_pos hfull]
        have hg : SetTable.grown (es.size + 1) = (es.size + 1) * 4 := by
          unfold SetTable.grown
          rw [if_neg (by omega)]
        refine wpAny_bind (relay_ok (s := { s with heap := s.heap.update a _ }) S' (n := SetTable.grown (es.size + 1)) (by rw [hg]; omega) (by rw [hg, isz]; omega) fun h' o' es' t' ds' sb' S'' p' lo' _ _ _ => ?_)
        exact wpAny_pure (new hn _ ds' (sb.trans sb') ⟨_, _, _, _, S'', lo', (p'.nodup_iff).mpr nd'⟩ (p'.trans pm))
      · rw [if_neg hfull]
        refine wpAny_pure (new hn _ _ sb ⟨_, _, _, _, S', ?_, nd'⟩ pm)
        unfold Lo at lo ⊢
        rw [m1]
        cases dm with
        | true => rw [f1 (h4.mp rfl)]; exact lo
        | false =>
          have ht : (t.put sl).1.tooFull = false := by simpa using hfull
          unfold SetTable.tooFull at ht
          rw [m1] at ht
          have := of_decide_eq_false ht
          omega
    by_cases hpl : (t.put sl).1.plain = true
    · rw [if_pos hpl]
      refine wpAny_bind (byvalI_ok d 8 _ _ _ _ _ _ r hd.i hd.dp ?_)
      exact fin
    · rw [if_neg hpl]
      refine wpAny_bind (wpAny_pure ?_)
      exact fin
end
end SE

set_option linter.all false
set_option maxRecDepth 100000
namespace SE
open PySem PySem.Spec PyProof.Rows ST
section
variable {prog : Program} {w : World} {A : Around} {E : Value → Shared → Prop} {s : Shared}
abbrev Keeps (h h' : Heap) : Prop := ∀ b o, h.get? b = some o → h'.get? b = some o
theorem SetAt.moved {h0 h h' : Heap} {a : Addr} {ds : List PyData} (S : SetAt w h0 h a ds) (k : ∀ o, h.get? a = some o → h'.get? a = some o) (tk : TupsK h0 h') : SetAt w h0 h' a ds := by
  obtain ⟨o, es, ep, t, S, lo, nd⟩ := S
  exact ⟨o, es, ep, t, ⟨k _ S.ho, S.ex, S.hd, S.tab, S.ent0, tk, S.plain, S.led⟩, lo, nd⟩
theorem SetAt.nodup {h0 h : Heap} {a : Addr} {ds : List PyData} (S : SetAt w h0 h a ds) : ds.Nodup := let ⟨_, _, _, _, _, _, nd⟩ := S; nd
section
variable {R : Result → Shared → Prop} {I : Addr} {fp wr : List Addr} {G : Array GenState → Array GenState → Prop} {n : Nat} {P : Nat → Value → Prop} {St : Nat → Shared → Prop}
theorem update_loop {h0 : Heap} (W : WalksS prog w A.in1 I fp wr G n P St) (S : Addr) (hSf : S ∉ fp) (low : ∀ b ∈ S :: wr, h0.objs.size ≤ b) (vals : List PyData) (hval : ∀ i v, P i v → ∃ d as, vals[i]? = some d ∧ El d ∧ Reads h0 v d as) (hn : vals.length = n)
    (card : ∀ l : List PyData, l.Nodup → (∀ d ∈ l, d ∈ vals) → l.length ≤ 62) (hu : A.units + 70 < cLine) :
    ∀ (k i : Nat) (s : Shared) (ds : List PyData), n - i = k → i ≤ n → St i s → Keeps h0 s.heap → SetAt w h0 s.heap S ds → (∀ d, d ∈ ds ↔ d ∈ vals.take i) →
      (∀ s' ds', Moved (S :: wr) G s s' → Keeps h0 s'.heap → SetAt w h0 s'.heap S ds' → (∀ d, d ∈ ds' ↔ d ∈ vals) → R (.ok (.ret .none)) s') →
      codeAny (model prog w) A (.builtin "set.update.loop" ⟨[.ref S, .ref I], []⟩) R s := by
  have hSw : S ∉ wr := fun h => hSf (W.sub _ h)
  have hsub : ∀ b ∈ wr, b ∈ S :: wr := fun b hb => List.mem_cons_of_mem _ hb
  have lowK : ∀ {b : Addr} {o : Obj}, h0.get? b = some o → b ∉ S :: wr := fun {b o} e hb => Nat.lt_irrefl _ (Nat.lt_of_lt_of_le (Heap.lt_size e) (low b hb))
  have keepM : ∀ {s s' : Shared}, Keeps h0 s.heap → Moved wr G s s' → Keeps h0 s'.heap := fun k hm b o e => hm.heap b o (fun hb => lowK e (hsub b hb)) (k b o e)
  have hu1 : A.in1.units + 64 < cLine := by show A.units + 1 + 64 < cLine; omega
  intro k
  induction k with
  | zero =>
    intro i s ds hk hi hst hkp hS hds hR
    have hin : i = n := by omega
    subst hin
    refine codeAny_builtin F.entry_set_update_loop ?_
    rw [Around.under_plainId F.plain_set_update_loop _]
    show wpAny _ A.in1 (pyNext (.ref I) >>= _) _ _ s
    refine wpAny_bind (W.done s _ _ hst fun s' hm => ?_)
    show wpAny _ A.in1 (ret Value.none) _ _ s'
    exact wpAny_pure (hR s' ds (hm.mono hsub) (keepM hkp hm) (hS.moved (fun o e => hm.heap S o hSw e) (TupsK.of (keepM hkp hm))) (fun d => by rw [hds, List.take_of_length_le (by omega)]))
  | succ k ih =>
    intro i s ds hk hi hst hkp hS hds hR
    have hlt : i < n := by omega
    refine codeAny_builtin F.entry_set_update_loop ?_
    rw [Around.under_plainId F.plain_set_update_loop _]
    show wpAny _ A.in1 (pyNext (.ref I) >>= _) _ _ s
    refine wpAny_bind (W.item i s _ _ hlt hst fun v s' hP hst' hm => ?_)
    obtain ⟨d, as, hdv, el, rd⟩ := hval i v hP
    have hk' := keepM hkp hm
    have hS' : SetAt w h0 s'.heap S ds := hS.moved (fun o e => hm.heap S o hSw e) (TupsK.of hk')
    show wpAny _ A.in1 (holding [v] (setAdd S v) >>= _) _ _ s'
    refine wpAny_bind (wpAny_holding ?_)
    unfold setAdd
    refine wpAny_holding ?_
    have rd' : Reads s'.heap v d as := reads_keep d el.h _ _ _ _ (TupsK.of hk') rd
    refine wpAny_bind (hash_ok d _ _ _ _ _ _ rd' el.h (by have := el.dp; omega) fun tk htk => ?_)
    have hlen : ds.length ≤ 62 := card ds hS.nodup fun d hd => List.mem_of_mem_take ((hds d).mp hd)
    have tk1 : vals.take (i + 1) = vals.take i ++ [d] := by rw [List.take_add_one, hdv]; rfl
    -- either way the next turn
    have next : ∀ (h' : Heap) (ds' : List PyData), (∀ b o, b ∉ S :: wr → s'.heap.get? b = some o → h'.get? b = some o) → (∀ b ∈ fp, ∀ o, s'.heap.get? b = some o → h'.get? b = some o) → Keeps h0 h' → SetAt w h0 h' S ds' → (∀ d', d' ∈ ds' ↔ d' ∈ vals.take (i + 1)) →
        codeAny (model prog w) A (.builtin "set.update.loop" ⟨[.ref S, .ref I], []⟩) R { s' with heap := h', toks := tk } := fun h' ds' k1 k2 k3 k4 k5 => by
      refine ih (i + 1) _ ds' (by omega) hlt (W.frame _ s' _ _ hst' htk k2) k3 k4 k5 fun s'' ds'' hm'' k6 k7 k8 => ?_
      exact hR s'' ds'' (Moved.trans W.gtrans ((hm.mono hsub).then_heap htk k1) hm'') k6 k7 k8
    have sF : ∀ b ∈ fp, b ≠ S := fun b hb e => hSf (e ▸ hb)
    refine add_ok (s := { s' with toks := tk }) hS' el rd hu1 hlen (fun hin => ?_) fun hnin h' ds' sb hS2 pm => ?_
    · refine wpAny_pure ⟨plainId_quiet F.plain_set_update_loop _, next s'.heap ds (fun b o _ e => e) (fun b _ o e => e) hk' hS' fun d' => ?_⟩
      rw [tk1, List.mem_append, ← hds d', List.mem_singleton]
      exact ⟨.inl, fun q => q.elim id fun e => e ▸ hin⟩
    · refine wpAny_pure ⟨plainId_quiet F.plain_set_update_loop _, next h' ds' (fun b o hb e => ?_) (fun b hb o e => ?_) (fun b o e => ?_) hS2 fun d' => ?_⟩
      · exact (sb.2 b fun z => hb (z ▸ List.mem_cons_self)).trans e
      · exact (sb.2 b (sF b hb)).trans e
      · exact (sb.2 b fun z => lowK e (z ▸ List.mem_cons_self)).trans (hk' b o e)
      · rw [tk1, List.mem_append, ← hds d', List.mem_singleton, pm.mem_iff, List.mem_cons]
        exact ⟨fun q => q.symm, fun q => q.symm⟩
end
end
end SE

set_option linter.all false
set_option maxRecDepth 100000
namespace SE
open PySem PySem.Spec PyProof.Rows ST
section
variable {prog : Program} {w : World} {A : Around} {E : Value → Shared → Prop} {s : Shared}
/-- what is read off a list or tuple: its items as data -/
def ItemsAs (h : Heap) (items : Array Value) (vals : List PyData) : Prop := vals.length = items.size ∧ ∀ (i : Nat) (v : Value), items[i]? = some v → ∃ d as, vals[i]? = some d ∧ El d ∧ Reads h v d as
theorem code_new1 (a : Value) {Q₁ : Value → Shared → Prop}
    (h : Q₁ (.ref s.heap.objs.size) { s with heap := s.heap.push { cls := .type "set", dict := none, data := .set #[] 0 (.fresh 0 0 (!byT w)) } }) :
    codeAny (model prog w) A (.call (.builtin "set.__new__") ⟨[.type "set", a], []⟩) (wants Q₁ E) s := by
  refine codeAny_of_tree ?_
  show wpAny _ A.in1 (do checkBuiltinCall "set.__new__" ⟨[.type "set", a], []⟩; again (.builtin "set.__new__" ⟨[.type "set", a], []⟩)) _ _ s
  refine wpAny_bind (wpAny_of_eq (F.newCall_set_1 a) (wpAny_pure ⟨plainId_quiet F.plain_set_new _, codeAny_builtin F.entry_set_new ?_⟩))
  rw [Around.under_plainId F.plain_set_new _]
  unfold Builtin.«set.__new__» Builtin.Frozenset.newClass
  have hsub := sub_set_self
  obtain ⟨hp, g, d, tk, os⟩ := s
  dsimp only
  wp_walk
  refine wpAny_askSetting (wpAny_pure ?_)
  dsimp only
  simp only [newObj]
  refine wpAny_bind (wpAny_alloc (wpAny_pure ?_))
  exact wpAny_pure h
theorem fresh_at (h0 h : Heap) (a : Addr) (led : Bool) (hl : led = !byT w) (ho : h.get? a = some { cls := .type "set", dict := none, data := .set #[] 0 (.fresh 0 0 led) }) (k : Keeps h0 h) : SetAt w h0 h a [] :=
  ⟨_, _, _, _, ⟨ho, ⟨rfl, rfl, rfl⟩, rfl, TabOk.fresh 0 0 led, .nil, TupsK.of k, rfl, hl⟩, by unfold Lo; simp [SetTable.fresh, SetTable.fill], List.nodup_nil⟩
set_option maxHeartbeats 3200000 in
theorem set_list {l : Addr} {items : Array Value} {vals : List PyData} {Q : Value → Shared → Prop} (hh : A.handled = none) (hl : s.heap.IsList l items) {h0 : Heap} (hk0 : Keeps h0 s.heap) (hz0 : h0.objs.size ≤ s.heap.objs.size) (hv : ItemsAs h0 items vals) (card : ∀ l : List PyData, l.Nodup → (∀ d ∈ l, d ∈ vals) → l.length ≤ 62) (hu : A.units + 80 < cLine)
    (h : ∀ (h' : Heap) (tk : Nat) (ds : List PyData), SetAt w h0 h' s.heap.objs.size ds → (∀ d, d ∈ ds ↔ d ∈ vals) → Keeps s.heap h' → Q (.ref s.heap.objs.size) { s with heap := h', toks := tk }) :
    wpAny (model prog w) A (call (.type "set") [.ref l]) Q E s := by
  obtain ⟨c, tl, hmro⟩ := F.called_set.mro
  have hmade := F.called_set.made
  have hsub := F.called_set.sub
  refine wpAny_call (codeAny_of_tree ?_)
  show wpAny _ _ (callAny (.type "set") _) _ _ _
  refine wpAny_pure ⟨Code.quiet_builtin _ (by decide +kernel), codeAny_builtin F.entry_type_call ?_⟩
  rw [Around.under_plain (weight_type_call_type "set" [.ref l] []) rfl]
  have h1 := F.called_set.notType
  have h2 := F.called_set.canCreate
  have hct := F.typeCall_set_1 (.ref l)
  repeat (any_goals (first | assumption | wp_step))
  refine codeAny_mono (code_new1 (.ref l) (E := E) (Q₁ := fun obj s₁ => ∃ led : Bool, led = (!byT w) ∧ obj = .ref s.heap.objs.size ∧ s₁ = { s with heap := s.heap.push { cls := .type "set", dict := none, data := .set #[] 0 (.fresh 0 0 led) } }) ⟨_, rfl, rfl, rfl⟩) fun r s₁ hr => ?_
  cases r with
  | error e => exact hr
  | ok fl =>
    cases fl with
    | ret obj =>
      obtain ⟨led, hled, rfl, rfl⟩ := hr
      have hS : (s.heap.push { cls := .type "set", dict := none, data := .set #[] 0 (.fresh 0 0 led) }).get? s.heap.objs.size = some { cls := .type "set", dict := none, data := .set #[] 0 (.fresh 0 0 led) } := Heap.get?_push_size _ rfl
      have hT : Shared.TypeIs { s with heap := s.heap.push { cls := .type "set", dict := none, data := .set #[] 0 (.fresh 0 0 led) } } (.ref s.heap.objs.size) "set" := ⟨_, hS, rfl⟩
      have hli := F.called_set.init.lookup
      have hbi := F.called_set.init.bind (.ref s.heap.objs.size)
      repeat (any_goals (first | assumption | wp_step))
      refine codeAny_mono (codeAny_call_builtin (R := wants (fun r s₂ => r = .none ∧ ∃ h' tk ds, s₂ = { s with heap := h', toks := tk } ∧ SetAt w h0 h' s.heap.objs.size ds ∧ (∀ d, d ∈ ds ↔ d ∈ vals) ∧ Keeps s.heap h') E) F.called_set.init.plain F.entry_set_init (check_set_init_1 hT ?_)) fun r₂ s₂ hr₂ => ?_
      · obtain ⟨ol, hol, hcl, nl, hdl⟩ := hl
        obtain ⟨ocls, odict, odata, oslots⟩ := ol
        simp only at hcl hdl
        subst hcl; subst hdl
        have hol' : (s.heap.push { cls := .type "set", dict := none, data := .set #[] 0 (.fresh 0 0 led) }).get? l = some { cls := .type "list", dict := odict, data := .seq items nl, slots := oslots } := Heap.get?_push_of_some _ hol
        have hsls := F.sub_list_set
        have hslf := F.sub_list_frozenset
        have hne : (Value.type "list" == Value.type "dict") = false := by decide
        have hl1 : (s.heap.push { cls := .type "set", dict := none, data := .set #[] 0 (.fresh 0 0 led) }).IsList l items := ⟨_, hol', rfl, nl, rfl⟩
        unfold Builtin.«set.__init__» noKeywords Builtin.Frozenset.updateFrom
        generalize hPI : pyIter = PI
        wp_walk
        subst hPI
        refine wpAny_pyIter_list hl1 ?_
        refine wpAny_bind (wpAny_runValue ?_)
        have hlS : l < s.heap.objs.size := Heap.lt_size hol
        have hh3 : A.in1.in1.in1.handled = none := by simp [hh]
        have hneI : l ≠ (s.heap.push { cls := .type "set", dict := none, data := .set #[] 0 (.fresh 0 0 led) }).objs.size := by
          rw [Heap.size_push]; exact Nat.ne_of_lt (Nat.lt_succ_of_lt hlS)
        have hSf : s.heap.objs.size ∉ [(s.heap.push { cls := .type "set", dict := none, data := .set #[] 0 (.fresh 0 0 led) }).objs.size, l] := by
          rw [Heap.size_push]; simp only [List.mem_cons, List.mem_singleton, List.not_mem_nil, or_false, not_or]
          exact ⟨Nat.ne_of_lt (Nat.lt_succ_self _), Nat.ne_of_gt hlS⟩
        have kp2 : Keeps s.heap ((s.heap.push { cls := .type "set", dict := none, data := .set #[] 0 (.fresh 0 0 led) }).push { cls := .type "list_iterator", data := .fields #[.ref l, .int 0 0] }) := fun b o e => Heap.get?_push_of_some _ (Heap.get?_push_of_some _ e)
        refine update_loop (h0 := h0) ((Walks.list hh3 _ l hneI items).toS) s.heap.objs.size hSf (fun b hb => ?_) vals hv.2 hv.1 card (by show A.units + 1 + 1 + 70 < cLine; omega) (items.size - 0) 0 _ [] (by omega) (Nat.zero_le _)
          ⟨⟨_, Heap.get?_push_size _ rfl, rfl, rfl⟩, (hl1.push _)⟩ (fun b o e => kp2 b o (hk0 b o e)) (fresh_at h0 _ _ led hled (Heap.get?_push_of_some _ hS) fun b o e => kp2 b o (hk0 b o e)) (fun d => by simp) ?hR
        · rcases List.mem_cons.mp hb with rfl | hb
          · exact hz0
          · have := List.mem_singleton.mp hb
            subst this
            rw [Heap.size_push]; exact Nat.le_succ_of_le hz0
        · intro s' ds hm kk hS' hds
          obtain ⟨h', g', d', tk', os'⟩ := s'
          have eg : g' = s.gens := hm.gens
          have ed : d' = s.drawn := hm.drawn
          have eo : os' = s.os := hm.os
          subst eg; subst ed; subst eo
          show wpAny _ _ _ _ _ _
          refine wpAny_pure ?_
          show wpAny _ _ (ret Value.none) _ _ _
          refine wpAny_pure ⟨rfl, h', tk', ds, rfl, hS', hds, fun b o e => ?_⟩
          have hb := Heap.lt_size e
          refine hm.heap b o (fun hmem => ?_) (kp2 b o e)
          rcases List.mem_cons.mp hmem with rfl | hmem
          · exact Nat.lt_irrefl _ hb
          · have := List.mem_singleton.mp hmem
            subst this
            rw [Heap.size_push] at hb
            exact absurd hb (Nat.not_lt.mpr (Nat.le_succ _))
      · cases r₂ with
        | error e => exact hr₂
        | ok fl₂ =>
          cases fl₂ with
          | ret r =>
            obtain ⟨rfl, h', tk, ds, rfl, hS', hds, kk⟩ := hr₂
            repeat (any_goals (first | assumption | wp_step))
            exact h _ _ _ hS' hds kk
          | _ => exact hr₂
    | _ => exact hr
end
end SE

set_option linter.all false
set_option maxRecDepth 100000
namespace SE
open PySem PySem.Spec PyProof.Rows ST
section
variable {prog : Program} {w : World} {A : Around} {E : Value → Shared → Prop} {s : Shared}
set_option maxHeartbeats 3200000 in
theorem set_tup {l : Addr} {items : Array Value} {vals : List PyData} {Q : Value → Shared → Prop} (hh : A.handled = none) (hl : s.heap.IsTuple l items) {h0 : Heap} (hk0 : Keeps h0 s.heap) (hz0 : h0.objs.size ≤ s.heap.objs.size) (hv : ItemsAs h0 items vals) (card : ∀ l : List PyData, l.Nodup → (∀ d ∈ l, d ∈ vals) → l.length ≤ 62) (hu : A.units + 80 < cLine)
    (h : ∀ (h' : Heap) (tk : Nat) (ds : List PyData), SetAt w h0 h' s.heap.objs.size ds → (∀ d, d ∈ ds ↔ d ∈ vals) → Keeps s.heap h' → Q (.ref s.heap.objs.size) { s with heap := h', toks := tk }) :
    wpAny (model prog w) A (call (.type "set") [.ref l]) Q E s := by
  obtain ⟨c, tl, hmro⟩ := F.called_set.mro
  have hmade := F.called_set.made
  have hsub := F.called_set.sub
  refine wpAny_call (codeAny_of_tree ?_)
  show wpAny _ _ (callAny (.type "set") _) _ _ _
  refine wpAny_pure ⟨Code.quiet_builtin _ (by decide +kernel), codeAny_builtin F.entry_type_call ?_⟩
  rw [Around.under_plain (weight_type_call_type "set" [.ref l] []) rfl]
  have h1 := F.called_set.notType
  have h2 := F.called_set.canCreate
  have hct := F.typeCall_set_1 (.ref l)
  repeat (any_goals (first | assumption | wp_step))
  refine codeAny_mono (code_new1 (.ref l) (E := E) (Q₁ := fun obj s₁ => ∃ led : Bool, led = (!byT w) ∧ obj = .ref s.heap.objs.size ∧ s₁ = { s with heap := s.heap.push { cls := .type "set", dict := none, data := .set #[] 0 (.fresh 0 0 led) } }) ⟨_, rfl, rfl, rfl⟩) fun r s₁ hr => ?_
  cases r with
  | error e => exact hr
  | ok fl =>
    cases fl with
    | ret obj =>
      obtain ⟨led, hled, rfl, rfl⟩ := hr
      have hS : (s.heap.push { cls := .type "set", dict := none, data := .set #[] 0 (.fresh 0 0 led) }).get? s.heap.objs.size = some { cls := .type "set", dict := none, data := .set #[] 0 (.fresh 0 0 led) } := Heap.get?_push_size _ rfl
      have hT : Shared.TypeIs { s with heap := s.heap.push { cls := .type "set", dict := none, data := .set #[] 0 (.fresh 0 0 led) } } (.ref s.heap.objs.size) "set" := ⟨_, hS, rfl⟩
      have hli := F.called_set.init.lookup
      have hbi := F.called_set.init.bind (.ref s.heap.objs.size)
      repeat (any_goals (first | assumption | wp_step))
      refine codeAny_mono (codeAny_call_builtin (R := wants (fun r s₂ => r = .none ∧ ∃ h' tk ds, s₂ = { s with heap := h', toks := tk } ∧ SetAt w h0 h' s.heap.objs.size ds ∧ (∀ d, d ∈ ds ↔ d ∈ vals) ∧ Keeps s.heap h') E) F.called_set.init.plain F.entry_set_init (check_set_init_1 hT ?_)) fun r₂ s₂ hr₂ => ?_
      · obtain ⟨ol, hol, hcl, nl, hdl⟩ := hl
        obtain ⟨ocls, odict, odata, oslots⟩ := ol
        simp only at hcl hdl
        subst hcl; subst hdl
        have hol' : (s.heap.push { cls := .type "set", dict := none, data := .set #[] 0 (.fresh 0 0 led) }).get? l = some { cls := .type "tuple", dict := odict, data := .seq items nl, slots := oslots } := Heap.get?_push_of_some _ hol
        have hsls := F.sub_tuple_set
        have hslf := F.sub_tuple_frozenset
        have hne : (Value.type "tuple" == Value.type "dict") = false := by decide
        have hl1 : (s.heap.push { cls := .type "set", dict := none, data := .set #[] 0 (.fresh 0 0 led) }).IsTuple l items := ⟨_, hol', rfl, nl, rfl⟩
        unfold Builtin.«set.__init__» noKeywords Builtin.Frozenset.updateFrom
        generalize hPI : pyIter = PI
        wp_walk
        subst hPI
        refine wpAny_pyIter_tuple hl1 ?_
        refine wpAny_bind (wpAny_runValue ?_)
        have hlS : l < s.heap.objs.size := Heap.lt_size hol
        have hh3 : A.in1.in1.in1.handled = none := by simp [hh]
        have hneI : l ≠ (s.heap.push { cls := .type "set", dict := none, data := .set #[] 0 (.fresh 0 0 led) }).objs.size := by
          rw [Heap.size_push]; exact Nat.ne_of_lt (Nat.lt_succ_of_lt hlS)
        have hSf : s.heap.objs.size ∉ [(s.heap.push { cls := .type "set", dict := none, data := .set #[] 0 (.fresh 0 0 led) }).objs.size, l] := by
          rw [Heap.size_push]; simp only [List.mem_cons, List.mem_singleton, List.not_mem_nil, or_false, not_or]
          exact ⟨Nat.ne_of_lt (Nat.lt_succ_self _), Nat.ne_of_gt hlS⟩
        have kp2 : Keeps s.heap ((s.heap.push { cls := .type "set", dict := none, data := .set #[] 0 (.fresh 0 0 led) }).push { cls := .type "tuple_iterator", data := .fields #[.ref l, .int 0 0] }) := fun b o e => Heap.get?_push_of_some _ (Heap.get?_push_of_some _ e)
        refine update_loop (h0 := h0) ((Walks.tuple hh3 _ l hneI items).toS) s.heap.objs.size hSf (fun b hb => ?_) vals hv.2 hv.1 card (by show A.units + 1 + 1 + 70 < cLine; omega) (items.size - 0) 0 _ [] (by omega) (Nat.zero_le _)
          ⟨⟨_, Heap.get?_push_size _ rfl, rfl, rfl⟩, (hl1.push _)⟩ (fun b o e => kp2 b o (hk0 b o e)) (fresh_at h0 _ _ led hled (Heap.get?_push_of_some _ hS) fun b o e => kp2 b o (hk0 b o e)) (fun d => by simp) ?hR
        · rcases List.mem_cons.mp hb with rfl | hb
          · exact hz0
          · have := List.mem_singleton.mp hb
            subst this
            rw [Heap.size_push]; exact Nat.le_succ_of_le hz0
        · intro s' ds hm kk hS' hds
          obtain ⟨h', g', d', tk', os'⟩ := s'
          have eg : g' = s.gens := hm.gens
          have ed : d' = s.drawn := hm.drawn
          have eo : os' = s.os := hm.os
          subst eg; subst ed; subst eo
          show wpAny _ _ _ _ _ _
          refine wpAny_pure ?_
          show wpAny _ _ (ret Value.none) _ _ _
          refine wpAny_pure ⟨rfl, h', tk', ds, rfl, hS', hds, fun b o e => ?_⟩
          have hb := Heap.lt_size e
          refine hm.heap b o (fun hmem => ?_) (kp2 b o e)
          rcases List.mem_cons.mp hmem with rfl | hmem
          · exact Nat.lt_irrefl _ hb
          · have := List.mem_singleton.mp hmem
            subst this
            rw [Heap.size_push] at hb
            exact absurd hb (Nat.not_lt.mpr (Nat.le_succ _))
      · cases r₂ with
        | error e => exact hr₂
        | ok fl₂ =>
          cases fl₂ with
          | ret r =>
            obtain ⟨rfl, h', tk, ds, rfl, hS', hds, kk⟩ := hr₂
            repeat (any_goals (first | assumption | wp_step))
            exact h _ _ _ hS' hds kk
          | _ => exact hr₂
    | _ => exact hr
end
end SE

set_option linter.all false
set_option maxRecDepth 100000
namespace SK
open PySem PySem.W PyProof.Rows
/-! ### the sort's questions, answered by one order -/
structure Ord (lt : Nat → Nat → Bool) : Prop where
  irr : ∀ a, lt a a = false
  tr : ∀ a b c, lt a b = true → lt b c = true → lt a c = true
  nt : ∀ a b c, lt a c = true → lt a b = true ∨ lt b c = true
section
variable {lt : Nat → Nat → Bool} (O : Ord lt)
def le (lt : Nat → Nat → Bool) (a b : Nat) : Prop := lt b a = false
include O
theorem le_refl (a : Nat) : le lt a a := O.irr a
theorem le_trans {a b c : Nat} (h1 : le lt a b) (h2 : le lt b c) : le lt a c := by
  unfold le at *
  cases q : lt c a with
  | false => rfl
  | true => rcases O.nt _ b _ q with z | z <;> simp_all
theorem lt_le {a b : Nat} (h : lt a b = true) : le lt a b := by
  unfold le
  cases q : lt b a with
  | false => rfl
  | true => have := O.tr _ _ _ h q; rw [O.irr] at this; cases this
end
def at' (p : Array Nat) (i : Nat) : Nat := p.getD i 0
def Srt (lt : Nat → Nat → Bool) (p : Array Nat) (k : Nat) : Prop := ∀ i j, i ≤ j → j < k → le lt (at' p i) (at' p j)
def Dsc (lt : Nat → Nat → Bool) (p : Array Nat) (k : Nat) : Prop := ∀ i j, i ≤ j → j < k → le lt (at' p j) (at' p i)
structure Pm (N : Nat) (p : Array Nat) : Prop where
  perm : p.toList.Perm (List.range N)
theorem Pm.size {N : Nat} {p : Array Nat} (h : Pm N p) : p.size = N := by have := h.perm.length_eq; simpa using this
theorem Pm.lt {N : Nat} {p : Array Nat} (h : Pm N p) (hN : 0 < N) (i : Nat) : at' p i < N := by
  unfold at'
  rw [Array.getD_eq_getD_getElem?]
  by_cases hi : i < p.size
  · rw [Array.getElem?_eq_getElem hi]
    exact List.mem_range.mp (h.perm.mem_iff.mp (by simp))
  · rw [Array.getElem?_eq_none (by omega)]; exact hN
theorem Pm.rev {N : Nat} {p : Array Nat} (h : Pm N p) (i j : Nat) : Pm N (kas_rev p i j) := ⟨(Array.perm_iff_toList_perm.mp (mirror_perm _ _ _ _)).trans h.perm⟩
theorem Pm.bub {N : Nat} {p : Array Nat} (h : Pm N p) (i j : Nat) : Pm N (bubble p i j) := ⟨(Array.perm_iff_toList_perm.mp (bubble_perm _ _ _)).trans h.perm⟩
theorem at_rev {p : Array Nat} {i j : Nat} (hj : j ≤ p.size) (k : Nat) : at' (kas_rev p i j) k = if i ≤ k ∧ k < j then at' p (i + j - 1 - k) else at' p k := by
  have := getElem?_mirror_all (xs := p) (i := i) hj k
  unfold at' kas_rev
  rw [Array.getD_eq_getD_getElem?, this]
  split <;> rw [Array.getD_eq_getD_getElem?]
theorem at_bub {p : Array Nat} {src d : Nat} (hs : src < p.size) (hd : d ≤ src) (k : Nat) : at' (bubble p src d) k = if k = src - d then at' p src else if src - d < k ∧ k ≤ src then at' p (k - 1) else at' p k := by
  have := getElem?_bubble hs d hd k
  unfold at'
  simp only [Array.getD_eq_getD_getElem?]
  rw [this]
  split
  · rfl
  · split <;> rfl
section
variable {lt : Nat → Nat → Bool} (O : Ord lt) {N : Nat} (hN : 0 < N) {cmp : Nat → Nat → (Bool → Shared → Prop) → Shared → Prop} {s : Shared} (hc : ∀ i j C, i < N → j < N → C (lt i j) s → cmp i j C s)
include O hN hc
theorem asc_wp {p : Array Nat} (P : Pm N p) : ∀ (f n : Nat) {Q : Nat → Shared → Prop}, 1 ≤ n → Srt lt p n → (∀ m, n ≤ m → m ≤ n + f → Srt lt p m → (m < n + f → lt (at' p m) (at' p (m - 1)) = true) → Q m s) → (kas_asc p f n).kasWp cmp Q s
  | 0, n, Q, _, hs, h => h n (Nat.le_refl _) (Nat.le_refl _) hs (fun q => by omega)
  | f + 1, n, Q, h1, hs, h => by
    refine hc _ _ _ (P.lt hN _) (P.lt hN _) ?_
    cases q : lt (p.getD n 0) (p.getD (n - 1) 0) with
    | true => exact h n (Nat.le_refl _) (by omega) hs fun _ => q
    | false =>
      refine asc_wp P f (n + 1) (by omega) (fun i j hij hj => ?_) fun m a b c d => h m (by omega) (by omega) c fun z => d (by omega)
      by_cases e : j = n
      · subst e
        by_cases e2 : i = j
        · subst e2; exact le_refl O _
        · exact le_trans O (hs i (j - 1) (by omega) (by omega)) q
      · exact hs i j hij (by omega)
theorem tail_wp {p : Array Nat} (P : Pm N p) {n : Nat} (h1 : 1 ≤ n) (hn : n ≤ N) (hd : Dsc lt p n) {Q : Nat × Array Nat → Shared → Prop} (h : ∀ m q, n ≤ m → m ≤ N → Pm N q → Srt lt q m → Q (m, q) s) : (kas_tail3 n N p).kasWp cmp Q s := by
  unfold kas_tail3
  rw [KasT.kasWp_bind]
  have hs : Srt lt (kas_rev p 0 n) n := fun i j hij hj => by
    rw [at_rev (by rw [P.size]; exact hn), at_rev (by rw [P.size]; exact hn), if_pos ⟨Nat.zero_le _, by omega⟩, if_pos ⟨Nat.zero_le _, hj⟩]
    exact hd _ _ (by omega) (by omega)
  exact asc_wp O hN hc (P.rev 0 n) _ _ h1 hs fun m a b c _ => h m _ a (by omega) (P.rev 0 n) c
/-- a stretch of like ones turned about is as it was -/
theorem dsc_rev {p : Array Nat} {n a : Nat} (hn : n ≤ p.size) (hd : Dsc lt p n) (he : ∀ k, a ≤ k → k < n → le lt (at' p k) (at' p (n - 1)) ∧ le lt (at' p (n - 1)) (at' p k)) (i : Nat) (hi : i < n) : le lt (at' (kas_rev p a n) i) (at' p i) ∧ le lt (at' p i) (at' (kas_rev p a n) i) := by
  rw [at_rev hn]
  split
  · rename_i q
    have x := he (a + n - 1 - i) (by omega) (by omega)
    have y := he i q.1 q.2
    exact ⟨le_trans O x.1 y.2, le_trans O y.1 x.2⟩
  · exact ⟨le_refl O _, le_refl O _⟩
theorem dsc_of_rev {p : Array Nat} {n a : Nat} (hn : n ≤ p.size) (hd : Dsc lt p n) (he : ∀ k, a ≤ k → k < n → le lt (at' p k) (at' p (n - 1)) ∧ le lt (at' p (n - 1)) (at' p k)) : Dsc lt (kas_rev p a n) n := fun i j hij hj => by
  have x := dsc_rev O hN hc hn hd he i (by omega)
  have y := dsc_rev O hN hc hn hd he j hj
  exact le_trans O y.1 (le_trans O (hd i j hij hj) x.2)
theorem desc_wp : ∀ (f : Nat) (p : Array Nat) (n q : Nat) {Q : Array Nat × Nat × Nat → Shared → Prop}, Pm N p → 1 ≤ n → q + 1 ≤ n → n + f ≤ N → Dsc lt p n → (∀ k, n - (q + 1) ≤ k → k < n → le lt (at' p k) (at' p (n - 1)) ∧ le lt (at' p (n - 1)) (at' p k)) →
    (∀ p' n' q', Pm N p' → 1 ≤ n' → q' + 1 ≤ n' → n' ≤ n + f → Dsc lt p' n' → (∀ k, n' - (q' + 1) ≤ k → k < n' → le lt (at' p' k) (at' p' (n' - 1)) ∧ le lt (at' p' (n' - 1)) (at' p' k)) → Q (p', n', q') s) → (kas_desc f p n q).kasWp cmp Q s
  | 0, p, n, q, Q, P, h1, hq, hn, hd, he, h => h p n q P h1 hq (by omega) hd he
  | f + 1, p, n, q, Q, P, h1, hq, hn, hd, he, h => by
    refine hc _ _ _ (P.lt hN _) (P.lt hN _) ?_
    cases c : lt (p.getD n 0) (p.getD (n - 1) 0) with
    | true =>
      have c : lt (at' p n) (at' p (n - 1)) = true := c
      have one : ∀ p' : Array Nat, Pm N p' → Dsc lt p' n → at' p' n = at' p n → le lt (at' p (n - 1)) (at' p' (n - 1)) → (kas_desc f p' (n + 1) 0).kasWp cmp Q s := fun p' P' hd' e1 e2 => by
        refine desc_wp f p' (n + 1) 0 P' (by omega) (by omega) (by omega) (fun i j hij hj => ?_) (fun k k1 k2 => ?_) fun p2 n2 q2 a b c d => h p2 n2 q2 a b c (by omega)
        · by_cases e : j = n
          · subst e
            by_cases e3 : i = j
            · subst e3; exact le_refl O _
            · rw [e1]
              exact le_trans O (lt_le O c) (le_trans O e2 (hd' i (j - 1) (by omega) (by omega)))
          · exact hd' i j hij (by omega)
        · have : k = n := by omega
          subst this
          exact ⟨le_refl O _, le_refl O _⟩
      dsimp only
      rw [if_pos rfl]
      by_cases hq0 : q > 0
      · rw [if_pos hq0]
        refine one _ (P.rev _ _) (dsc_of_rev O hN hc (by rw [P.size]; omega) hd he) ?_ (dsc_rev O hN hc (by rw [P.size]; omega) hd he (n - 1) (by omega)).2
        rw [at_rev (by rw [P.size]; omega), if_neg (by omega)]
      · rw [if_neg hq0]
        exact one p P hd rfl (le_refl O _)
    | false =>
      dsimp only
      rw [if_neg Bool.false_ne_true]
      refine hc _ _ _ (P.lt hN _) (P.lt hN _) ?_
      cases d : lt (p.getD (n - 1) 0) (p.getD n 0) with
      | true =>
        dsimp only
        rw [if_pos rfl]
        exact h p n q P h1 hq (by omega) hd he
      | false =>
        dsimp only
        rw [if_neg Bool.false_ne_true]
        have c : le lt (at' p (n - 1)) (at' p n) := c
        have d : le lt (at' p n) (at' p (n - 1)) := d
        refine desc_wp f p (n + 1) (q + 1) P (by omega) (by omega) (by omega) (fun i j hij hj => ?_) (fun k k1 k2 => ?_) fun p2 n2 q2 a b c d => h p2 n2 q2 a b c (by omega)
        · by_cases e : j = n
          · subst e
            by_cases e3 : i = j
            · subst e3; exact le_refl O _
            · exact le_trans O d (hd i (j - 1) (by omega) (by omega))
          · exact hd i j hij (by omega)
        · rw [show n + 1 - 1 = n by omega]
          by_cases e : k = n
          · subst e; exact ⟨le_refl O _, le_refl O _⟩
          · have := he k (by omega) (by omega)
            exact ⟨le_trans O this.1 c, le_trans O d this.2⟩
theorem descPart_wp {p : Array Nat} (P : Pm N p) {n : Nat} (h1 : 1 ≤ n) (hn : n + 1 ≤ N) (hd : Dsc lt p (n + 1)) {Q : Nat × Array Nat → Shared → Prop} (h : ∀ m q, 1 ≤ m → m ≤ N → Pm N q → Srt lt q m → Q (m, q) s) : (kas_descPart n N p).kasWp cmp Q s := by
  unfold kas_descPart
  rw [KasT.kasWp_bind]
  refine desc_wp O hN hc _ p (n + 1) 0 P (by omega) (by omega) (by omega) hd (fun k k1 k2 => ?_) fun p' n' q' P' h1' hq' hn' hd' he' => ?_
  · have : k = n := by omega
    subst this
    exact ⟨le_refl O _, le_refl O _⟩
  · dsimp only
    by_cases hq0 : q' > 0
    · rw [if_pos hq0]
      exact tail_wp O hN hc (P'.rev _ _) h1' (by omega) (dsc_of_rev O hN hc (by rw [P'.size]; omega) hd' he') fun m q a b c d => h m q (by omega) b c d
    · rw [if_neg hq0]
      exact tail_wp O hN hc P' h1' (by omega) hd' fun m q a b c d => h m q (by omega) b c d
theorem count_wp {p : Array Nat} (P : Pm N p) {Q : Nat × Array Nat → Shared → Prop} (h : ∀ m q, 1 ≤ m → m ≤ N → Pm N q → Srt lt q m → Q (m, q) s) : (kas_count N p).kasWp cmp Q s := by
  unfold kas_count
  rw [KasT.kasWp_bind]
  refine asc_wp O hN hc P _ _ (Nat.le_refl _) (fun i j hij hj => ?_) fun m a b c d => ?_
  · have : i = j := by omega
    subst this; exact le_refl O _
  · by_cases e : (m == N) = true
    · rw [if_pos e]
      exact h m p a (by omega) P c
    · rw [if_neg e]
      have hne : m ≠ N := by simpa using e
      have dm := d (by omega)
      by_cases e1 : m > 1
      · rw [if_pos e1]
        refine hc _ _ _ (P.lt hN _) (P.lt hN _) ?_
        cases z : lt (p.getD 0 0) (p.getD (m - 1) 0) with
        | true => dsimp only; rw [if_pos rfl]; exact h m p a (by omega) P c
        | false =>
          dsimp only
          rw [if_neg Bool.false_ne_true]
          have z : le lt (at' p (m - 1)) (at' p 0) := z
          -- all like one another
          have allq : ∀ i j, i < m → j < m → le lt (at' p i) (at' p j) := fun i j hi hj => le_trans O (le_trans O (c i (m - 1) (by omega) (by omega)) z) (c 0 j (Nat.zero_le _) hj)
          refine descPart_wp O hN hc (P.rev 0 m) (by omega) (by omega) (fun i j hij hj => ?_) h
          rw [at_rev (by rw [P.size]; omega), at_rev (by rw [P.size]; omega)]
          by_cases ej : j < m
          · rw [if_pos ⟨Nat.zero_le _, ej⟩, if_pos ⟨Nat.zero_le _, by omega⟩]
            exact allq _ _ (by omega) (by omega)
          · have : j = m := by omega
            subst this
            rw [if_neg (by omega)]
            by_cases ei : i < j
            · rw [if_pos ⟨Nat.zero_le _, ei⟩]
              exact le_trans O (lt_le O dm) (allq _ _ (by omega) (by omega))
            · rw [if_neg (by omega), show i = j by omega]; exact le_refl O _
      · rw [if_neg e1]
        have : m = 1 := by omega
        subst this
        refine descPart_wp O hN hc P (Nat.le_refl _) (by omega) (fun i j hij hj => ?_) h
        by_cases ej : i = j
        · subst ej; exact le_refl O _
        · have e1 : i = 0 := by omega
          have e2 : j = 1 := by omega
          subst e1; subst e2
          exact lt_le O dm
theorem place_wp {p : Array Nat} (P : Pm N p) {k : Nat} (hs : Srt lt p k) : ∀ (f l r : Nat) {Q : Nat → Shared → Prop}, r - l ≤ f → l ≤ r → r ≤ k → (∀ i, i < l → le lt (at' p i) (at' p k)) → (∀ i, r ≤ i → i < k → lt (at' p k) (at' p i) = true) →
    (∀ m, m ≤ k → (∀ i, i < m → le lt (at' p i) (at' p k)) → (∀ i, m ≤ i → i < k → lt (at' p k) (at' p i) = true) → Q m s) → (kas_place p k f l r).kasWp cmp Q s
  | 0, l, r, Q, hf, hlr, hr, h1, h2, h => by
    have : l = r := by omega
    subst this
    exact h l hr h1 h2
  | f + 1, l, r, Q, hf, hlr, hr, h1, h2, h => by
    unfold kas_place
    by_cases hg : l ≥ r
    · rw [if_pos hg]
      have : l = r := by omega
      subst this
      exact h l hr h1 h2
    · rw [if_neg hg]
      refine hc _ _ _ (P.lt hN _) (P.lt hN _) ?_
      cases c : lt (p.getD k 0) (p.getD ((l + r) / 2) 0) with
      | true =>
        dsimp only
        rw [if_pos rfl]
        have c : lt (at' p k) (at' p ((l + r) / 2)) = true := c
        refine place_wp P hs f l _ (by omega) (by omega) (by omega) h1 (fun i a b => ?_) h
        have := hs ((l + r) / 2) i (by omega) b
        rcases O.nt _ (at' p i) _ c with z | z
        · exact z
        · unfold le at this; rw [this] at z; cases z
      | false =>
        dsimp only
        rw [if_neg Bool.false_ne_true]
        refine place_wp P hs f _ r (by omega) (by omega) hr (fun i a => ?_) h2 h
        exact le_trans O (hs i ((l + r) / 2) (by omega) (by omega)) c
theorem bin_wp : ∀ (f : Nat) (p : Array Nat) (k : Nat) {Q : Array Nat → Shared → Prop}, Pm N p → k + f = N → Srt lt p k → (∀ q, Pm N q → Srt lt q N → Q q s) → (kas_bin f p k).kasWp cmp Q s
  | 0, p, k, Q, P, hk, hs, h => by
    have : k = N := by omega
    subst this
    exact h p P hs
  | f + 1, p, k, Q, P, hk, hs, h => by
    unfold kas_bin
    rw [KasT.kasWp_bind]
    refine place_wp O hN hc P hs k 0 k (by omega) (Nat.zero_le _) (Nat.le_refl _) (fun i q => absurd q (Nat.not_lt_zero _)) (fun i a b => by omega) fun m hm l1 l2 => ?_
    refine bin_wp f _ (k + 1) (P.bub _ _) (by omega) (fun i j hij hj => ?_) h
    have hsz : k < p.size := by rw [P.size]; omega
    rw [at_bub hsz (by omega), at_bub hsz (by omega), show k - (k - m) = m by omega]
    by_cases ei : i = m
    · rw [if_pos ei]
      by_cases ej : j = m
      · rw [if_pos ej]; exact le_refl O _
      · rw [if_neg ej, if_pos (by omega)]
        exact lt_le O (l2 (j - 1) (by omega) (by omega))
    · rw [if_neg ei]
      by_cases ej : j = m
      · rw [if_pos ej, if_neg (by omega)]
        exact l1 i (by omega)
      · rw [if_neg ej]
        by_cases ei2 : m < i ∧ i ≤ k
        · rw [if_pos ei2, if_pos (by omega)]
          exact hs _ _ (by omega) (by omega)
        · rw [if_neg ei2]
          by_cases ej2 : m < j ∧ j ≤ k
          · rw [if_pos ej2]
            exact hs _ _ (by omega) (by omega)
          · rw [if_neg ej2]
            exact hs _ _ hij (by omega)
/-- the whole sort -/
theorem sort_wp {Q : Array Nat → Shared → Prop} (h : ∀ q, Pm N q → Srt lt q N → Q q s) : (kas_sort N).kasWp cmp Q s := by
  unfold kas_sort
  rw [KasT.kasWp_bind]
  refine count_wp O hN hc ⟨by simp⟩ fun m q a b c d => ?_
  dsimp only
  by_cases e : m < N
  · rw [if_pos e, Nat.max_eq_left a]
    exact bin_wp O hN hc _ q m c (by omega) d h
  · rw [if_neg e]
    have : m = N := by omega
    subst this
    exact h q c d
end
end SK

set_option linter.all false
set_option maxRecDepth 100000
namespace SE
open PySem PySem.Spec PyProof.Rows ST
/-! ### the walk over a set -/
theorem pick_perm {α : Type} (next : Nat → Nat) : ∀ (fuel k : Nat) (left : List α) (out : Array α), left.length ≤ fuel → (pickOrder.go next fuel k left out).toList.Perm (out.toList ++ left)
  | 0, k, left, out, h => by
    have : left = [] := List.length_eq_zero_iff.mp (by omega)
    subst this
    unfold pickOrder.go
    simp
  | fuel + 1, k, left, out, h => by
    unfold pickOrder.go
    cases e : left[next k % left.length]? with
    | none =>
      dsimp only
      have : left = [] := by
        refine Classical.byContradiction fun hn => ?_
        have hp : 0 < left.length := List.length_pos_iff.mpr hn
        rw [List.getElem?_eq_getElem (Nat.mod_lt _ hp)] at e
        cases e
      subst this
      simp
    | some x =>
      dsimp only
      have hp : next k % left.length < left.length := (List.getElem?_eq_some_iff.mp e).1
      have := pick_perm next fuel (k + 1) (left.eraseIdx (next k % left.length)) (out.push x) (by rw [List.length_eraseIdx_of_lt hp]; omega)
      refine this.trans ?_
      rw [Array.toList_push, List.append_assoc]
      refine List.Perm.append_left _ ?_
      have hx := (List.getElem?_eq_some_iff.mp e).2
      show (x :: left.eraseIdx (next k % left.length)).Perm left
      rw [← hx]
      rw [List.eraseIdx_eq_take_drop_succ]
      have e2 : (left.take (next k % left.length) ++ left[next k % left.length] :: left.drop (next k % left.length + 1)).Perm (left[next k % left.length] :: (left.take (next k % left.length) ++ left.drop (next k % left.length + 1))) := List.perm_middle
      rw [← List.drop_eq_getElem_cons hp, List.take_append_drop] at e2
      exact e2.symm
theorem pickOrder_perm {α : Type} (next : Nat → Nat) (xs : Array α) : (pickOrder next xs).toList.Perm xs.toList := by
  have := pick_perm next xs.size 0 xs.toList #[] (by simp)
  unfold pickOrder
  simpa using this
section
variable {prog : Program} {w : World} {A : Around} {E : Value → Shared → Prop} {s : Shared}
/-- a set's object, whatever its elements -/
structure SetRaw (w : World) (h : Heap) (a : Addr) (o : Obj) (es : Array (Int × Value)) (ep : Nat) (t : SetTable) : Prop where
  ho : h.get? a = some o
  ex : o.ExactSet
  hd : o.data = .set es ep t
  tab : TabOk t es.toList
  plain : t.plain = true
  led : t.led = !byT w
theorem SetSt.raw {h0 h : Heap} {a : Addr} {o : Obj} {es : Array (Int × Value)} {ep : Nat} {t : SetTable} {ds : List PyData} (S : SetSt w h0 h a o es ep t ds) : SetRaw w h a o es ep t := ⟨S.ho, S.ex, S.hd, S.tab, S.plain, S.led⟩
theorem SetRaw.fits {h : Heap} {a : Addr} {o : Obj} {es : Array (Int × Value)} {ep : Nat} {t : SetTable} (S : SetRaw w h a o es ep t) : t.fits es.size = true := by
  unfold SetTable.fits
  have := S.tab.len
  have f : t.fill ≤ t.mask := S.tab.fill
  simp only [Array.length_toList] at this
  simp [this, f]
theorem SetRaw.state {a : Addr} {o : Obj} {es : Array (Int × Value)} {ep : Nat} {t : SetTable} (S : SetRaw w s.heap a o es ep t) {Q : (Array (Int × Value) × Nat × SetTable) → Shared → Prop} (h : Q (es, ep, t) s) : wpAny (model prog w) A (setState a) Q E s :=
  wpAny_setState_of S.ho S.hd S.fits h
/-- the order in which a set is walked -/
def ordOf (w : World) (a : Addr) (ep : Nat) (es : Array (Int × Value)) : Array (Int × Value) := if byT w = true then pickOrder (w.params.setOrder a ep) es else es
theorem ordOf_perm (a : Addr) (ep : Nat) (es : Array (Int × Value)) : (ordOf w a ep es).toList.Perm es.toList := by
  unfold ordOf
  split
  · exact pickOrder_perm _ _
  · exact List.Perm.refl _
theorem walk_ok {a : Addr} {o : Obj} {es : Array (Int × Value)} {ep : Nat} {t : SetTable} (S : SetRaw w s.heap a o es ep t) {Q : Array (Int × Value) → Shared → Prop} (h : Q (ordOf w a ep es) s) : wpAny (model prog w) A (setWalk a) Q E s := by
  unfold setWalk
  refine wpAny_bind (S.state ?_)
  dsimp only
  refine wpAny_bind ?_
  unfold setsByText
  refine wpAny_bind (wpAny_askSetting (wpAny_pure ?_))
  dsimp only
  have e : (model prog w).w.params.followText "set-order" = byT w := rfl
  rw [e]
  unfold ordOf at h
  by_cases hb : byT w = true
  · rw [if_pos hb] at h ⊢
    exact wpAny_bind (wpAny_askSetting (wpAny_pure h))
  · rw [if_neg hb] at h ⊢
    have hl : t.led = true := by rw [S.led]; simpa using hb
    show wpAny _ _ (if ((!t.plain && decide (es.size > 1))) = true then _ else _) _ _ s
    rw [S.plain]
    simp only [Bool.not_true, Bool.false_and, Bool.false_eq_true, if_false]
    show wpAny _ _ ((if (!t.led && decide (es.size > 1)) = true then _ else pure ()) >>= _) _ _ s
    rw [hl]
    simp only [Bool.not_true, Bool.false_and, Bool.false_eq_true, if_false]
    exact wpAny_bind (wpAny_pure (wpAny_pure h))
end
end SE

set_option linter.all false
set_option maxRecDepth 100000
namespace SE
open PySem PySem.Spec PyProof.Rows ST
section
variable {prog : Program} {w : World} {A : Around} {E : Value → Shared → Prop} {s : Shared}
end
end SE

set_option linter.all false
set_option maxRecDepth 100000
namespace SE
open PySem PySem.Spec PyProof.Rows ST
section
variable {prog : Program} {w : World} {A : Around} {E : Value → Shared → Prop} {s : Shared}
end
end SE

set_option linter.all false
set_option maxRecDepth 100000
namespace SE
open PySem PySem.Spec PyProof.Rows ST
theorem owner_si : Manifest.owners.lookup (String.ofList ['r', 'o', 't', 'a', 'r', 'e', 't', 'i', '_', 't', 'e', 's'].reverse) = some Manifest.sig_set_iterator := by kernel_rfl
theorem slot_si_next : Slot "set_iterator" "__next__" "set_iterator.__next__" :=
  .of (owner := "set_iterator") (n := "__next__") (by rw [typeLookup_type, builtinLookup_eq_fast]; kernel_rfl) (by decide +kernel) (by decide +kernel) (by decide +kernel)
    (by first | exact .inl (by decide +kernel) | exact .inr (by decide +kernel)) (by rw [isSubtype_type]; kernel_rfl)
theorem entry_si_next : entryFor table "set_iterator.__next__" = some Builtin.«set_iterator.__next__» := entryFor_of_tree (by kernel_rfl)
theorem args_si_next (a : Value) : argsOk "set_iterator.__next__" ⟨[a], []⟩ := by
  unfold argsOk; rw [signature?_of (id := "set_iterator.__next__") (n := ['_', '_', 't', 'x', 'e', 'n', '_', '_']) (o := ['r', 'o', 't', 'a', 'r', 'e', 't', 'i', '_', 't', 'e', 's']) (by kernel_rfl) owner_si]; kernel_rfl
theorem slot_si_iter : Slot "set_iterator" "__iter__" "set_iterator.__iter__" :=
  .of (owner := "set_iterator") (n := "__iter__") (by rw [typeLookup_type, builtinLookup_eq_fast]; kernel_rfl) (by decide +kernel) (by decide +kernel) (by decide +kernel)
    (by first | exact .inl (by decide +kernel) | exact .inr (by decide +kernel)) (by rw [isSubtype_type]; kernel_rfl)
theorem args_si_iter (a : Value) : argsOk "set_iterator.__iter__" ⟨[a], []⟩ := by
  unfold argsOk; rw [signature?_of (id := "set_iterator.__iter__") (n := ['_', '_', 'r', 'e', 't', 'i', '_', '_']) (o := ['r', 'o', 't', 'a', 'r', 'e', 't', 'i', '_', 't', 'e', 's']) (by kernel_rfl) owner_si]; kernel_rfl
theorem entry_si_iter : entryFor table "set_iterator.__iter__" = some Builtin.«dict_keyiterator.__iter__» :=
  entryFor_alias (id' := "dict_keyiterator.__iter__") (by kernel_rfl) (by first | rfl | decide +kernel | (unfold String.splitOn; simp +decide [String.splitOnAux])) (by decide +kernel) (by kernel_rfl)
theorem entry_set_iter : entryFor table "set.__iter__" = some Builtin.«frozenset.__iter__» :=
  entryFor_alias (id' := "frozenset.__iter__") (by kernel_rfl) (by first | rfl | decide +kernel | (unfold String.splitOn; simp +decide [String.splitOnAux])) (by decide +kernel) (by kernel_rfl)
theorem below_zero {xs : Array Nat} (hs : Ris xs.toList) : SetTable.below xs 0 = 0 := by
  obtain ⟨h1, h2, h3⟩ := below_spec (j := 0) hs
  refine Classical.byContradiction fun q => ?_
  have hp : 0 < xs.toList.length := by rw [Array.length_toList]; omega
  exact absurd (h2 0 _ (Nat.pos_of_ne_zero q) (List.getElem?_eq_getElem hp)) (Nat.not_lt_zero _)
theorem below_next {xs : Array Nat} (hs : Ris xs.toList) {i j : Nat} (hi : xs.toList[i]? = some j) : SetTable.below xs (j + 1) = i + 1 := by
  obtain ⟨h1, h2, h3⟩ := below_spec (j := j + 1) hs
  have hl := (List.getElem?_eq_some_iff.mp hi).1
  rcases Nat.lt_trichotomy (SetTable.below xs (j + 1)) (i + 1) with q | q | q
  · have := h3 i j (by omega) hi; omega
  · exact q
  · have hl2 : i + 1 < xs.toList.length := by rw [Array.length_toList]; omega
    have hg : xs.toList[i + 1]? = some xs.toList[i + 1] := List.getElem?_eq_getElem hl2
    have a := h2 (i + 1) _ q hg
    have b := hs.get hi hg (Nat.lt_succ_self _)
    omega
section
variable {prog : Program} {w : World} {A : Around} {E : Value → Shared → Prop} {s : Shared}
def itObj (slot : Nat) (i : Nat) (d : Addr) (n ep : Nat) : Obj := { cls := .type "set_iterator", dict := none, data := .fields #[.int slot 0, .int i 0, .ref d, .int n 0, .int ep 0], slots := #[] }
/-- the iterator at turn i -/
def ItAt (w : World) (I d : Addr) (o : Obj) (es : Array (Int × Value)) (ep : Nat) (t : SetTable) (i : Nat) (h : Heap) : Prop :=
  SetRaw w h d o es ep t ∧ ∃ slot : Nat, h.get? I = some (itObj slot i d es.size ep) ∧ (byT w = false → SetTable.below t.place slot = i)
theorem iter_set {d : Addr} {o : Obj} {es : Array (Int × Value)} {ep : Nat} {t : SetTable} (S : SetRaw w s.heap d o es ep t) {Q : Value → Shared → Prop}
    (h : Q (.ref s.heap.objs.size) { s with heap := s.heap.push (itObj 0 0 d es.size ep) }) : wpAny (model prog w) A (pyIter (.ref d)) Q E s := by
  have hT : s.TypeIs (.ref d) "set" := ⟨o, S.ho, S.ex.1⟩
  refine wpAny_pyIter_slot hT F.slot_set_iter (wpAny_call_entry F.slot_set_iter hT entry_set_iter ?_ (F.args_set_iter_1 _))
  unfold Builtin.«frozenset.__iter__»
  refine wpAny_bind (m := Builtin.Frozenset.slot0 _ _) (wpAny_of_eq (show _ = pure d from rfl) ?_)
  unfold Builtin.Frozenset.sizeOf
  refine wpAny_bind (wpAny_bind ?_)
  unfold setEntries
  refine wpAny_bind (S.state (wpAny_pure (wpAny_pure ?_)))
  dsimp only
  refine wpAny_bind ?_
  unfold setDrawn
  refine wpAny_bind (S.state ?_)
  dsimp only
  refine wpAny_bind ?_
  unfold setsByText
  refine wpAny_bind (wpAny_askSetting (wpAny_pure (wpAny_pure ?_)))
  have e0 : ∀ b : Bool, (!b && (!t.plain && decide (es.size > 1))) = false := fun b => by rw [S.plain]; simp
  show wpAny _ _ (if (!_ && (!t.plain && decide (es.size > 1))) = true then _ else _) _ _ s
  rw [e0]
  simp only [Bool.false_eq_true, if_false]
  refine wpAny_bind (wpAny_pure ?_)
  refine wpAny_bind (wpAny_setEpoch_of S.ho S.hd S.fits ?_)
  exact wpAny_bind (wpAny_newObj_type (wpAny_pure ⟨_, rfl, "set_iterator", _, ⟨_, Heap.get?_push_size _ rfl, rfl⟩, slot_si_next.lookup, h⟩))
theorem next_head {I d : Addr} {o : Obj} {es : Array (Int × Value)} {ep : Nat} {t : SetTable} {i slot : Nat} (S : SetRaw w s.heap d o es ep t) (hI : s.heap.get? I = some (itObj slot i d es.size ep)) (hsl : byT w = false → SetTable.below t.place slot = i) {Q : Option (Value × Nat) → Shared → Prop}
    (go : ∀ e nx, (ordOf w d ep es)[i]? = some e → (byT w = false → SetTable.below t.place nx = i + 1) → Q (some (e.2, nx)) s) (stop : (ordOf w d ep es)[i]? = none → Q none s) : wpAny (model prog w) A (setNext d slot i ep) Q E s := by
  unfold setNext
  refine wpAny_bind (S.state ?_)
  dsimp only
  refine wpAny_bind ?_
  unfold setsByText
  refine wpAny_bind (wpAny_askSetting (wpAny_pure ?_))
  have e : (model prog w).w.params.followText "set-order" = byT w := rfl
  dsimp only
  rw [e]
  by_cases hb : byT w = true
  · rw [if_pos hb]
    simp only [bne_self_eq_false, Bool.false_eq_true, if_false]
    refine wpAny_bind (walk_ok S ?_)
    refine wpAny_pure ?_
    cases q : (ordOf w d ep es)[i]? with
    | none => exact stop q
    | some e => exact go e slot q (fun z => by rw [hb] at z; cases z)
  · rw [if_neg hb]
    have hb : byT w = false := by simpa using hb
    have hl : t.led = true := by rw [S.led, hb]; rfl
    have eo : ordOf w d ep es = es := by unfold ordOf; rw [if_neg (by rw [hb]; exact Bool.false_ne_true)]
    rw [eo] at go stop
    show wpAny _ _ (if (!t.plain && decide (es.size > 1)) = true then _ else _) _ _ s
    rw [S.plain]
    simp only [Bool.not_true, Bool.false_and, Bool.false_eq_true, if_false]
    show wpAny _ _ ((if (!t.led && !es.isEmpty) = true then _ else pure ()) >>= _) _ _ s
    rw [hl]
    simp only [Bool.not_true, Bool.false_and, Bool.false_eq_true, if_false]
    refine wpAny_bind (wpAny_pure (wpAny_pure ?_))
    rw [hsl hb]
    have lens := S.tab.len
    cases q : es[i]? with
    | none => exact stop q
    | some e =>
      have hi : i < t.place.toList.length := by
        rw [lens, Array.length_toList]
        exact (Array.getElem?_eq_some_iff.mp q).1
      have hp : t.place.toList[i]? = some t.place.toList[i] := List.getElem?_eq_getElem hi
      have hp' : t.place[i]? = some t.place.toList[i] := by simpa using hp
      rw [hp']
      exact go e _ q fun _ => below_next S.tab.rp hp
end
end SE

set_option linter.all false
set_option maxRecDepth 100000
namespace SE
open PySem PySem.Spec PyProof.Rows ST
section
variable {prog : Program} {w : World} {A : Around} {E : Value → Shared → Prop} {s : Shared}
theorem SetRaw.at {h h' : Heap} {a : Addr} {o : Obj} {es : Array (Int × Value)} {ep : Nat} {t : SetTable} (S : SetRaw w h a o es ep t) (k : ∀ o, h.get? a = some o → h'.get? a = some o) : SetRaw w h' a o es ep t :=
  ⟨k _ S.ho, S.ex, S.hd, S.tab, S.plain, S.led⟩
theorem next_item {I d : Addr} {o : Obj} {es : Array (Int × Value)} {ep : Nat} {t : SetTable} {i : Nat} (hne : d ≠ I) (st : ItAt w I d o es ep t i s.heap) (hi : i < es.size) {Q : Option Value → Shared → Prop}
    (h : ∀ e h', (ordOf w d ep es)[i]? = some e → ItAt w I d o es ep t (i + 1) h' → (∀ b o, b ≠ I → s.heap.get? b = some o → h'.get? b = some o) → Q (some e.2) { s with heap := h' }) : wpAny (model prog w) A (pyNext (.ref I)) Q E s := by
  obtain ⟨S, slot, hI, hsl⟩ := st
  have hT : s.TypeIs (.ref I) "set_iterator" := ⟨_, hI, rfl⟩
  have hsz : (ordOf w d ep es).size = es.size := by
    have := (ordOf_perm (w := w) d ep es).length_eq
    simpa using this
  unfold pyNext
  refine wpAny_bind (wpAny_attempt (wpAny_callSpecial?_slot (name := Str.ofString "__next__") hT slot_si_next (wpAny_call_entry slot_si_next hT entry_si_next ?_ (args_si_next _))))
  unfold Builtin.«set_iterator.__next__»
  refine wpAny_bind (m := slotArgs _ _ _) (wpAny_of_eq (show _ = pure (.ref I, []) from rfl) ?_)
  refine wpAny_bind (wpAny_fieldsOf hI rfl ?_)
  dsimp only
  unfold setEntries
  refine wpAny_bind (wpAny_bind (S.state (wpAny_pure ?_)))
  dsimp only
  simp only [bne_self_eq_false, Bool.false_eq_true, if_false]
  refine wpAny_bind ?_
  show wpAny _ _ (setNext d slot i ep) _ _ s
  refine next_head S hI hsl (fun e nx he hnx => ?_) fun hn => ?_
  · dsimp only
    refine wpAny_bind (wpAny_setField_rec hI (by simp) fun h1 g1 sb1 => ?_)
    refine wpAny_bind (wpAny_setField_rec (s := { s with heap := h1 }) g1 (by simp) fun h2 g2 sb2 => ?_)
    refine wpAny_pure ⟨e.2, rfl, wpAny_pure ?_⟩
    have k : ∀ b o, b ≠ I → s.heap.get? b = some o → h2.get? b = some o := fun b o hb q => (sb2.2 b hb).trans ((sb1.2 b hb).trans q)
    refine h e h2 he ⟨S.at fun o q => k d o hne q, nx, ?_, hnx⟩ k
    rw [g2]
    rfl
  · rw [Array.getElem?_eq_none_iff] at hn
    omega
theorem next_end {I d : Addr} {o : Obj} {es : Array (Int × Value)} {ep : Nat} {t : SetTable} (hh : A.handled = none) (st : ItAt w I d o es ep t es.size s.heap) {Q : Option Value → Shared → Prop}
    (h : ∀ h', (∀ b o, b ≠ I → s.heap.get? b = some o → h'.get? b = some o) → Q none { s with heap := h' }) : wpAny (model prog w) A (pyNext (.ref I)) Q E s := by
  obtain ⟨S, slot, hI, hsl⟩ := st
  have hT : s.TypeIs (.ref I) "set_iterator" := ⟨_, hI, rfl⟩
  have hsz : (ordOf w d ep es).size = es.size := by
    have := (ordOf_perm (w := w) d ep es).length_eq
    simpa using this
  unfold pyNext
  refine wpAny_bind (wpAny_attempt (wpAny_callSpecial?_slot (name := Str.ofString "__next__") hT slot_si_next (wpAny_call_entry slot_si_next hT entry_si_next ?_ (args_si_next _))))
  unfold Builtin.«set_iterator.__next__»
  refine wpAny_bind (m := slotArgs _ _ _) (wpAny_of_eq (show _ = pure (.ref I, []) from rfl) ?_)
  refine wpAny_bind (wpAny_fieldsOf hI rfl ?_)
  dsimp only
  unfold setEntries
  refine wpAny_bind (wpAny_bind (S.state (wpAny_pure ?_)))
  dsimp only
  simp only [bne_self_eq_false, Bool.false_eq_true, if_false]
  refine wpAny_bind ?_
  show wpAny _ _ (setNext d slot es.size ep) _ _ s
  refine next_head S hI hsl (fun e nx he hnx => ?_) fun hn => ?_
  · have := (Array.getElem?_eq_some_iff.mp he).1
    omega
  · dsimp only
    refine wpAny_bind (wpAny_setField_rec hI (by simp) fun h1 g1 sb1 => ?_)
    show wpAny _ _ (newExc (.type "StopIteration") [] >>= _) _ _ _
    refine wpAny_bind ?_
    simp only [newExc, newTuple]
    refine wpAny_bind (wpAny_newObj_type ?_ (by size_fits))
    refine wpAny_bind (m := firstArgMember _ _) (wpAny_of_eq (a := Value.none) (by first | rfl | (simp only [firstArgMember]; rfl)) ?_)
    refine wpAny_newObj_type ?_ (by size_fits)
    simp only [raiseNew]
    refine wpAny_bind (wpAny_handled ?_)
    first | rw [show A.in1.handled = none from hh] | rw [hh]
    refine wpAny_bind (wpAny_pure (wpAny_throw ?_))
    refine wpAny_bind (wpAny_isInstance (T := "StopIteration") (b := true) ⟨_, Heap.get?_push_size _ rfl, rfl⟩ isSubtype_stop ?_)
    exact wpAny_pure (h _ fun b o hb q => Heap.get?_push_of_some _ (Heap.get?_push_of_some _ ((sb1.2 b hb).trans q)))
theorem walks_set (hh : A.handled = none) (I d : Addr) (hne : d ≠ I) (o : Obj) (es : Array (Int × Value)) (ep : Nat) (t : SetTable) :
    Walks prog w A I [I, d] [I] es.size (fun i v => ∃ e, (ordOf w d ep es)[i]? = some e ∧ v = e.2) (fun i h => ItAt w I d o es ep t i h) where
  sub := fun b hb => by simp at hb; simp [hb]
  frame := fun i h h' st k => by
    obtain ⟨S, slot, hI, hsl⟩ := st
    exact ⟨S.at fun o q => k d (by simp) o q, slot, k I (by simp) _ hI, hsl⟩
  item := fun i s Q E hi st hQ => next_item hne st hi fun e h' he st' k => hQ _ h' s.toks ⟨e, he, rfl⟩ st' fun b o hb q => k b o (fun z => hb (by simp [z])) q
  done := fun s Q E st hQ => next_end hh st fun h' k => hQ h' s.toks fun b o hb q => k b o (fun z => hb (by simp [z])) q
  self := fun i s Q E st hQ => by
    obtain ⟨S, slot, hI, hsl⟩ := st
    have hT : s.TypeIs (.ref I) "set_iterator" := ⟨_, hI, rfl⟩
    refine wpAny_pyIter_slot hT slot_si_iter (wpAny_call_entry slot_si_iter hT entry_si_iter ?_ (args_si_iter _))
    show wpAny _ _ (ret (.ref I)) _ _ s
    exact wpAny_pure ⟨_, rfl, "set_iterator", _, hT, slot_si_next.lookup, hQ⟩
theorem hint_set {r : Addr} {Q : Bool → Shared → Prop} (hT : s.TypeIs (.ref r) "set") (h : Q false s) : wpAny (model prog w) A (Builtin.List.listLengthHint (.ref r)) Q E s := by
  unfold Builtin.List.listLengthHint
  refine wpAny_bind (wpAny_specialOf hT PySem.F.slot_set_len.lookup ?_)
  generalize hid : ("set.__len__" : String) = id0
  wp_delta
  rw [show splitId id0 = some ("set", "__len__") from by subst hid; decide +kernel]
  subst hid
  refine wpAny_bind (wpAny_isInstance (T := "set") (b := true) hT (by rw [isSubtype_type]; kernel_rfl) ?_)
  refine wpAny_ite_split (fun hab => absurd hab (by decide)) (fun _ => ?_)
  refine wpAny_ite_split (fun _ => ?_) (fun hab => absurd (by decide +kernel) hab)
  refine wpAny_bind (wpAny_typeOf hT ?_)
  exact wpAny_pure h
/-- a set as a source of list, sorted .. -/
theorem src_set (d : Addr) (o : Obj) (es : Array (Int × Value)) (ep : Nat) (t : SetTable) : PySem.W.KdlSrc prog w "set" d d es.size (fun i v => ∃ e, (ordOf w d ep es)[i]? = some e ∧ v = e.2) (fun h => SetRaw w h d o es ep t) where
  type := fun s S => ⟨o, S.ho, S.ex.1⟩
  there := fun h S => ⟨Heap.lt_size S.ho, Heap.lt_size S.ho⟩
  keep := fun h h' S k => S.at fun o q => k d (.inl rfl) o q
  notList := by decide
  notTuple := by decide
  hint := fun A E s Q S h => hint_set ⟨o, S.ho, S.ex.1⟩ h
  iter := fun A s hh S => ⟨itObj 0 0 d es.size ep, _, fun E Q h => iter_set S h, walks_set hh s.heap.objs.size d (Nat.ne_of_lt (Heap.lt_size S.ho)) o es ep t, ⟨S.at fun o q => Heap.get?_push_of_some _ q, 0, Heap.get?_push_size _ rfl, fun _ => below_zero S.tab.rp⟩⟩
end
end SE

set_option linter.all false
set_option maxRecDepth 100000
namespace SE
open PySem PySem.Spec PyProof.Rows ST SK PySem.W
/-! ### flat tuples: one whole number at least, whole numbers alone -/
theorem lex_irr : ∀ a, HT.lexLt a a = false
  | [] => rfl
  | x :: xs => by rw [HT.lexLt_cons, if_pos rfl]; exact lex_irr xs
theorem lex_tr : ∀ a b c, HT.lexLt a b = true → HT.lexLt b c = true → HT.lexLt a c = true
  | _, [], [], _, h => by simp [HT.lexLt] at h
  | [], _ :: _, _ :: _, _, _ => rfl
  | [], _ :: _, [], _, h => by simp [HT.lexLt] at h
  | _ :: _, [], _ :: _, h, _ => by simp [HT.lexLt] at h
  | [], [], _ :: _, h, _ => rfl
  | _ :: _, _ :: _, [], _, h => by simp [HT.lexLt] at h
  | x :: xs, y :: ys, z :: zs, h1, h2 => by
    rw [HT.lexLt_cons] at h1 h2 ⊢
    by_cases e1 : x = y
    · subst e1
      rw [if_pos rfl] at h1
      by_cases e2 : x = z
      · subst e2
        rw [if_pos rfl] at h2 ⊢
        exact lex_tr xs ys zs h1 h2
      · rw [if_neg e2] at h2 ⊢; exact h2
    · rw [if_neg e1] at h1
      have l1 := of_decide_eq_true h1
      by_cases e2 : y = z
      · subst e2
        rw [if_neg e1]; exact h1
      · rw [if_neg e2] at h2
        have l2 := of_decide_eq_true h2
        rw [if_neg (by omega)]
        exact decide_eq_true (by omega)
theorem lex_nt : ∀ a b c, HT.lexLt a c = true → HT.lexLt a b = true ∨ HT.lexLt b c = true
  | [], _, [], h => by simp [HT.lexLt] at h
  | _ :: _, _, [], h => by simp [HT.lexLt] at h
  | [], [], _ :: _, _ => .inr rfl
  | [], _ :: _, _ :: _, _ => .inl rfl
  | _ :: _, [], _ :: _, _ => .inr rfl
  | x :: xs, y :: ys, z :: zs, h => by
    rw [HT.lexLt_cons] at h ⊢
    rw [HT.lexLt_cons]
    by_cases e1 : x = y
    · subst e1
      rw [if_pos rfl]
      by_cases e2 : x = z
      · subst e2
        rw [if_pos rfl] at h ⊢
        exact lex_nt xs ys zs h
      · rw [if_neg e2] at h ⊢; exact .inr h
    · rw [if_neg e1]
      by_cases e2 : y = z
      · subst e2
        rw [if_neg e1] at h
        exact .inl h
      · rw [if_neg e2]
        by_cases e3 : x = z
        · subst e3
          rcases Int.lt_or_gt_of_ne e1 with q | q
          · exact .inl (decide_eq_true q)
          · exact .inr (decide_eq_true q)
        · rw [if_neg e3] at h
          have := of_decide_eq_true h
          by_cases q : x < y
          · exact .inl (decide_eq_true q)
          · exact .inr (decide_eq_true (by omega))
/-- a value that is a flat tuple -/
def FlatAt (h : Heap) (v : Value) (ns : List Int) : Prop := ns ≠ [] ∧ ∃ a o items n, v = .ref a ∧ h.get? a = some o ∧ o.cls = .type "tuple" ∧ o.data = .seq items n ∧ IntsAre items.toList ns
abbrev Flats (h : Heap) : List Value → List (List Int) → Prop := Paired (FlatAt h)
theorem Flats.keep {h h' : Heap} (k : TupsK h h') : ∀ {vs : List Value} {ks : List (List Int)}, Flats h vs ks → Flats h' vs ks
  | _, _, .nil => .nil
  | _, _, .cons ⟨ne, a, o, it, n, e, ho, hc, r⟩ t => .cons ⟨ne, a, o, it, n, e, k _ _ ho hc, hc, r⟩ (Flats.keep k t)
theorem Flats.getD {h : Heap} : ∀ {vs : List Value} {ks : List (List Int)}, Flats h vs ks → ∀ i, i < vs.length → FlatAt h (vs.getD i Value.none) (ks.getD i [])
  | _, _, .nil, i, hi => absurd hi (Nat.not_lt_zero _)
  | _, _, .cons a _, 0, _ => a
  | _, _, .cons _ b, i + 1, hi => by
    have := Flats.getD b i (by simpa using hi)
    simpa using this
section
variable {prog : Program} {w : World} {A : Around} {E : Value → Shared → Prop} {s : Shared}
theorem lex_wp {Q : Bool → Shared → Prop} {fin : Bool} : ∀ (xs ys : List Value) (ns ms : List Int) (i : Nat), IntsAre xs ns → IntsAre ys ms → (ns.length < ms.length → fin = true) → (ms.length ≤ ns.length → fin = false) → Q (HT.lexLt ns ms) s → KatLex prog w A true fin Q (xs.zip ys) i s
  | [], ys, ns, ms, i, h1, h2, f1, f2, h => by
    cases h1
    cases h2 with
    | nil =>
      rw [f2 (Nat.le_refl _)]
      exact h
    | cons n t h2 =>
      rw [f1 (by simp)]
      exact h
  | x :: xs, [], ns, ms, i, h1, h2, f1, f2, h => by
    cases h2
    cases h1 with
    | cons n t h1 =>
      rw [f2 (by simp)]
      exact h
  | x :: xs, y :: ys, ns, ms, i, h1, h2, f1, f2, h => by
    cases h1 with
    | @cons n t _ ns' h1 =>
      cases h2 with
      | @cons m u _ ms' h2 =>
        refine kat_cons (wpAny_eqBool_int ?_)
        rw [HT.lexLt_cons] at h
        by_cases e : n = m
        · subst e
          rw [if_pos rfl] at h
          rw [show (n == n) = true by simp]
          refine kat_yes (lex_wp xs ys ns' ms' (i + 1) h1 h2 (fun q => f1 (by simpa using q)) (fun q => f2 (by simpa using q)) h)
        · rw [if_neg e] at h
          rw [show (n == m) = false by simpa using e]
          refine kat_no ?_
          cases hb : (true && i == 0) with
          | true => exact oneLt_int h
          | false => exact kat_one _ _ (lt_int h)
theorem flat_lt {x y : Value} {ns ms : List Int} {Q : Bool → Shared → Prop} (h1 : FlatAt s.heap x ns) (h2 : FlatAt s.heap y ms) (h : Q (HT.lexLt ns ms) s) : wpAny (model prog w) A (keyLt' (tuples' true) x y) Q E s := by
  obtain ⟨_, a, o, it, n, rfl, ho, hc, hd, hi⟩ := h1
  obtain ⟨_, b, o2, it2, n2, rfl, ho2, hc2, hd2, hi2⟩ := h2
  have l1 := hi.length
  have l2 := hi2.length
  refine kat_lt ho hd ho2 hd2 (lex_wp _ _ ns ms 0 hi hi2 (fun q => ?_) (fun q => ?_) h)
  · refine decide_eq_true ?_
    simp only [Array.length_toList] at l1 l2; omega
  · refine decide_eq_false ?_
    simp only [Array.length_toList] at l1 l2; omega
theorem flat_kind {vs : List Value} {ks : List (List Int)} (hk : Flats s.heap vs ks) (hne : 0 < vs.length) {Q : SortKind → Shared → Prop} (h : Q (tuples' true) s) : wpAny (model prog w) A (keyKind' vs.toArray) Q E s := by
  have firsts : ∀ {vs : List Value} {ks : List (List Int)}, Flats s.heap vs ks → ∃ fs : List Value, KatTups s.heap vs fs ∧ fs.length = vs.length ∧ ∀ v ∈ fs, ∃ n t, v = Value.int n t := by
    intro vs ks hk
    induction hk with
    | nil => exact ⟨[], KatTups.nil, rfl, fun v hv => nomatch hv⟩
    | cons a _ ih =>
      obtain ⟨fs, h1, h2, h3⟩ := ih
      obtain ⟨ne, ad, o, it, n, rfl, ho, hc, hd, hi⟩ := a
      obtain ⟨items⟩ := it
      cases items with
      | nil => cases hi; exact absurd rfl ne
      | cons f fr =>
        cases hi with
        | cons m t hi =>
          refine ⟨Value.int m t :: fs, KatTups.cons ho hc hd (by simp) h1, by simp [h2], fun v hv => ?_⟩
          rcases List.mem_cons.mp hv with rfl | hv
          · exact ⟨m, t, rfl⟩
          · exact h3 v hv
  obtain ⟨fs, h1, h2, h3⟩ := firsts hk
  refine kat_kind (T := .type "int") h1 (by omega) (fun v hv => ?_) (by decide) h
  obtain ⟨n, t, rfl⟩ := h3 v hv
  exact Looks.of_pure rfl
theorem ord_keys (ks : List (List Int)) : Ord fun i j => HT.lexLt (ks.getD i []) (ks.getD j []) :=
  ⟨fun a => lex_irr _, fun a b c => lex_tr _ _ _, fun a b c => lex_nt _ _ _⟩
def Rises (ks : List (List Int)) : Prop := ks.Pairwise fun a b => HT.lexLt b a = false
theorem list_sort_flat {a : Addr} {vs : List Value} {ks : List (List Int)} {n : Nat} {P : Fin → Shared → Prop} (ho : s.heap.get? a = some (seqObj "list" vs.toArray n)) (hk : Flats s.heap vs ks) (h64 : vs.length < 64)
    (h : ∀ (h' : Heap) (c : Nat) (pr : List (Value × List Int)), (∀ b o, b ≠ a → s.heap.get? b = some o → h'.get? b = some o) → h'.get? a = some (seqObj "list" (pr.map (·.1)).toArray c) → pr.Perm (vs.zip ks) → Rises (pr.map (·.2)) → P (.done (.ret .none)) { s with heap := h' }) :
    wpAny (model prog w) A (Builtin.«list.sort» ⟨[.ref a], []⟩) P E s := by
  have lk : vs.length = ks.length := Paired.length hk
  have ha : a < s.heap.objs.size := Heap.lt_size ho
  rw [list_sort_plain]
  have s1 := Heap.SameBut.update s.heap a (Obj.mapSeq fun _ => (#[] : Array Value))
  obtain ⟨e1, ho1⟩ : ∃ e1, (s.heap.update a (Obj.mapSeq fun _ => (#[] : Array Value))).get? a = some (seqObj "list" #[] e1) := ⟨_, get?_update_seq ho fun _ => #[]⟩
  have k3 : ∀ b o, b ≠ a → s.heap.get? b = some o → (((s.heap.update a (Obj.mapSeq fun _ => (#[] : Array Value))).push (seqObj "tuple" vs.toArray 0)).push (seqObj "list" #[] 0)).get? b = some o := fun b o hb e => Heap.get?_push_of_some _ (Heap.get?_push_of_some _ ((s1.2 b hb).trans e))
  have ho3 : (((s.heap.update a (Obj.mapSeq fun _ => (#[] : Array Value))).push (seqObj "tuple" vs.toArray 0)).push (seqObj "list" #[] 0)).get? a = some (seqObj "list" #[] e1) := Heap.get?_push_of_some _ (Heap.get?_push_of_some _ ho1)
  refine wpAny_bind (listItems_at ho rfl ?_)
  refine wpAny_bind (listUpdate_at ho rfl ?_ (by rw [List.size_toArray, sizeLine_eq]; omega) (Nat.zero_le _))
  refine wpAny_bind (seqEpoch_at ho1 rfl ?_)
  refine wpAny_bind (wpAny_newTuple ?_ (by show vs.length ≤ _; rw [sizeLine_eq]; omega))
  refine wpAny_bind (wpAny_newList ?_ (Nat.zero_le _))
  refine wpAny_holding ?_
  show wpAny (model prog w) A _ P E { s with heap := ((s.heap.update a (Obj.mapSeq fun _ => #[])).push (seqObj "tuple" vs.toArray 0)).push (seqObj "list" #[] 0) }
  dsimp only
  generalize ((s.heap.update a (Obj.mapSeq fun _ => (#[] : Array Value))).push (seqObj "tuple" vs.toArray 0)).push (seqObj "list" #[] 0) = h3 at k3 ho3 ⊢
  have tk3 : TupsK s.heap h3 := fun b o e hc => k3 b o (fun z => by subst z; rw [ho] at e; cases e; exact absurd hc (show ¬ (Value.type "list" = Value.type "tuple") by decide)) e
  -- the end: the list is written
  have fin : ∀ (pr : List (Value × List Int)), pr.Perm (vs.zip ks) → Rises (pr.map (·.2)) → ∀ (arr : Array Value), arr = (pr.map (·.1)).toArray →
      P (.done (.ret .none)) { s with heap := h3.update a (Obj.mapSeq fun _ => arr) } := by
    intro pr hp hr arr ea
    subst ea
    obtain ⟨c2, hc2⟩ : ∃ c2, (h3.update a (Obj.mapSeq fun _ => (pr.map (·.1)).toArray)).get? a = some (seqObj "list" (pr.map (·.1)).toArray c2) := ⟨_, get?_update_seq ho3 fun _ => (pr.map (·.1)).toArray⟩
    have s2 := Heap.SameBut.update h3 a (Obj.mapSeq fun _ => (pr.map (·.1)).toArray)
    exact h _ c2 pr (fun b o hb e => (s2.2 b hb).trans (k3 b o hb e)) hc2 hp hr
  by_cases h2 : vs.toArray.size < 2
  · rw [if_pos h2, if_pos h2]
    refine wpAny_bind (wpAny_pure ?_)
    rw [StateT.run_pure]
    refine wpAny_bind (wpAny_pure ?_)
    dsimp only
    have e0 : (arrOf (SortSt.mk' general' (vs.toArray.zip vs.toArray) #[] 7 none)).map (·.2) = vs.toArray := by
      show (vs.toArray.zip vs.toArray).map (·.2) = vs.toArray
      apply Array.ext
      · simp
      · intro i h1 h2; simp
    rw [e0]
    refine wpAny_bind (seqEpoch_at ho3 rfl ?_)
    refine wpAny_bind (listUpdate_at ho3 rfl ?_ (Nat.zero_le _) (by rw [List.size_toArray, sizeLine_eq]; omega))
    simp only [bne_self_eq_false, Bool.false_eq_true, if_false]
    have z1 : (vs.zip ks).map (·.1) = vs := by rw [List.map_fst_zip (Nat.le_of_eq lk)]
    have z2 : (vs.zip ks).map (·.2) = ks := by rw [List.map_snd_zip (Nat.le_of_eq lk.symm)]
    refine wpAny_pure (fin (vs.zip ks) (List.Perm.refl _) ?_ _ (by rw [z1]))
    rw [z2]
    simp only [List.size_toArray] at h2
    match ks, lk with
    | [], _ => exact List.Pairwise.nil
    | [k], _ => exact List.pairwise_singleton _ _
    | _ :: _ :: _, lk => simp at lk; omega
  · rw [if_neg h2, if_neg h2]
    simp only [List.size_toArray] at h2
    refine wpAny_bind (flat_kind (s := { s with heap := h3 }) (hk.keep tk3) (by omega) ?_)
    have hk3 := hk.keep tk3
    refine wpAny_bind (wpAny_mono (kat_run (Q := fun st' s' => s' = { s with heap := h3 } ∧ ∃ p : Array Nat, Pm vs.length p ∧ Srt (fun i j => HT.lexLt (ks.getD i []) (ks.getD j [])) p vs.length ∧ arrOf st' = p.map (kas_item (vs.toArray.zip vs.toArray)) ∧ failedOf st' = none)
      (G := fun p s' => s' = { s with heap := h3 } ∧ Pm vs.length p ∧ Srt (fun i j => HT.lexLt (ks.getD i []) (ks.getD j [])) p vs.length) rfl (by omega) h64 (fun p st' s' a1 a2 a3 a4 => ⟨a4.1, p, a4.2.1, a4.2.2, a2, a3⟩) ?_) ?_ fun _ _ e => e)
    · refine sort_wp (ord_keys ks) (by omega) (fun i j C hi hj hC => ?_) fun q P' S' => ⟨rfl, P', S'⟩
      exact flat_lt (s := { s with heap := h3 }) (hk3.getD i hi) (hk3.getD j hj) hC
    · rintro ⟨⟨⟩, st'⟩ s' ⟨rfl, p, hp, hs, har, hf⟩
      dsimp only
      have hout := kat_snds (vs := vs) (ks := vs) rfl har
      have hsz : (List.toArray (p.toList.map fun i => vs.getD i Value.none)).size = vs.length := by rw [List.size_toArray, List.length_map, Array.length_toList, hp.size]
      rw [hout]
      refine wpAny_bind (seqEpoch_at ho3 rfl ?_)
      refine wpAny_bind (listUpdate_at ho3 rfl ?_ (Nat.zero_le _) (Nat.le_trans (Nat.le_of_eq hsz) (by rw [sizeLine_eq]; omega)))
      rw [hf]
      simp only [bne_self_eq_false, Bool.false_eq_true, if_false]
      have pk := hp.perm
      have zz : (List.range vs.length).map (fun i => (vs.getD i Value.none, ks.getD i [])) = vs.zip ks := by
        apply List.ext_getElem (by simp [lk])
        intro i h1 h2
        have a1 : i < vs.length := by simpa using h1
        have a2 : i < ks.length := by omega
        simp [a1, a2]
      have pz := pk.map fun i => (vs.getD i Value.none, ks.getD i [])
      rw [zz] at pz
      refine wpAny_pure (fin (p.toList.map fun i => (vs.getD i Value.none, ks.getD i [])) pz ?_ _ (by rw [List.map_map]; rfl))
      rw [List.map_map]
      unfold Rises
      rw [List.pairwise_iff_getElem]
      intro i j hi hj hij
      simp only [List.getElem_map]
      have hj' : j < p.size := by simpa using hj
      have hi' : i < p.size := by simpa using hi
      have := hs i j (by omega) (by rw [← hp.size]; exact hj')
      unfold le at' at this
      simpa [hi', hj'] using this
end
end SE

set_option linter.all false
set_option maxRecDepth 100000
namespace L2
open PySem PySem.Spec PyProof.Rows ST SE
/-! ### sets of flat tuples, by the layer's heap -/
abbrev dat (ns : List Int) : PyData := .tuple (ns.map PyData.int)
theorem hoAll_ints : ∀ ns : List Int, hoAll (ns.map PyData.int) = true
  | [] => rfl
  | n :: ns => by
    show (ho (.int n) && hoAll (ns.map PyData.int)) = true
    rw [hoAll_ints ns]; rfl
theorem depth_ints : ∀ ns : List Int, PyData.depthAll (ns.map PyData.int) = 0
  | [] => by rw [List.map_nil, PyData.depthAll]
  | n :: ns => by rw [List.map_cons, PyData.depthAll, depth_ints ns, PyData.depth]; rfl
theorem el_dat (ns : List Int) : El (dat ns) := ⟨by show hoAll _ = true; exact hoAll_ints ns, ⟨_, rfl⟩, by rw [depth_tuple, depth_ints]; decide⟩
theorem dat_inj {a b : List Int} (h : dat a = dat b) : a = b := by
  injection h with h
  have e : ∀ {a b : List Int}, a.map PyData.int = b.map PyData.int → a = b := by
    intro a
    induction a with
    | nil => intro b h; cases b with
      | nil => rfl
      | cons _ _ => cases h
    | cons x xs ih => intro b h; cases b with
      | nil => cases h
      | cons y ys =>
        rw [List.map_cons, List.map_cons] at h
        injection h with h1 h2
        injection h1 with h1
        rw [h1, ih h2]
  exact e h
theorem reads_ints {h : Heap} : ∀ {vs : List Value} {ns : List Int}, IntsAre vs ns → ReadsAll h vs (ns.map PyData.int) []
  | _, _, .nil => .nil
  | _, _, .cons n t r => .cons (.int n t) (reads_ints r)
theorem ints_reads {h : Heap} : ∀ {vs : List Value} {ns : List Int} {as : List Addr}, ReadsAll h vs (ns.map PyData.int) as → IntsAre vs ns
  | _, [], _, r => by cases r; exact .nil
  | _, n :: ns, _, r => by
    rw [List.map_cons] at r
    cases r with
    | cons r1 r2 => cases r1; exact .cons _ _ (ints_reads r2)
def ent (w : World) (p : Addr × List Int) : Int × Value := (hsh w (dat p.2), .ref p.1)
/-- a set of flat tuples at a: their addresses and what they hold, in the table's order -/
def SetO (w : World) (a : Addr) (L : List (Addr × List Int)) : HO := .ext fun h => ∃ o es ep t, SetRaw w h a o es ep t ∧ Lo t ∧ es.toList = L.map (ent w) ∧ (L.map (·.2)).Nodup
def Knows (K : PySem.W.Frag) (H : Hp) (L : List (Addr × List Int)) : Prop := ∀ p ∈ L, SqT K H p.1 (p.2.map V.int)
section
variable {X : Cx} {pins : List (Addr × Obj)} {σ : St} {H : Hp} {s : Shared}
/-- the heap of the tuples that are known -/
noncomputable def tupH (K : PySem.W.Frag) (H : Hp) (h : Heap) : Heap := PySem.W.hideAll h ((List.range h.objs.size).filter fun a => @decide (¬ ∃ xs, SqT K H a xs) (Classical.propDecidable _))
theorem tupH_size (K : PySem.W.Frag) (H : Hp) (h : Heap) : (tupH K H h).objs.size = h.objs.size := PySem.W.hideAll_size _ _
theorem tupH_keeps (K : PySem.W.Frag) (H : Hp) (h : Heap) : Keeps (tupH K H h) h := fun b o e => PySem.W.of_hideAll _ e
theorem tupH_get {K : PySem.W.Frag} {h : Heap} {b : Addr} {o : Obj} (e : h.get? b = some o) {xs : List V} (q : SqT K H b xs) : (tupH K H h).get? b = some o :=
  PySem.W.hideAll_get _ e fun hm => by
    have := (List.mem_filter.mp hm).2
    exact @of_decide_eq_true _ (Classical.propDecidable _) this ⟨xs, q⟩
theorem tupH_of {K : PySem.W.Frag} {h : Heap} {b : Addr} {o : Obj} (e : (tupH K H h).get? b = some o) : ∃ xs, SqT K H b xs := by
  refine Classical.byContradiction fun hn => ?_
  have e' := PySem.W.of_hideAll _ e
  have hm : b ∈ (List.range h.objs.size).filter fun a => @decide (¬ ∃ xs, SqT K H a xs) (Classical.propDecidable _) := List.mem_filter.mpr ⟨List.mem_range.mpr (Heap.lt_size e'), @decide_eq_true _ (Classical.propDecidable _) hn⟩
  have z : (tupH K H h).get? b = none := PySem.W.hideAll_none _ hm
  rw [z] at e; cases e
theorem Vals.intsAre : ∀ {ns : List Int} {us : List Value}, Vals (ns.map V.int) us → IntsAre us ns
  | [], _, r => by cases r; exact .nil
  | n :: ns, _, r => by
    rw [List.map_cons] at r
    cases r with
    | cons r1 r2 =>
      obtain ⟨t, rfl⟩ := r1
      exact .cons _ _ (Vals.intsAre r2)
theorem Inv.readsF (I : Inv X pins σ H s) {b : Addr} {ns : List Int} (q : SqT X.K H b (ns.map V.int)) : Reads (tupH X.K H s.heap) (.ref b) (dat ns) [] := by
  obtain ⟨its, rv, ⟨o, ho, hc, n, hd⟩, _⟩ := I.tuple q
  exact .tuple (tupH_get ho q) hc hd (reads_ints (by simpa using rv.intsAre))
theorem Inv.ofReads (I : Inv X pins σ H s) {v : Value} {ns : List Int} {as : List Addr} (r : Reads (tupH X.K H s.heap) v (dat ns) as) : ∃ b, v = .ref b ∧ SqT X.K H b (ns.map V.int) := by
  cases r with
  | @tuple a o items n _ _ h1 h2 h3 h4 =>
    obtain ⟨xs, q⟩ := tupH_of h1
    refine ⟨a, rfl, ?_⟩
    obtain ⟨its, rv, ⟨o', ho', hc', n', hd'⟩, _⟩ := I.tuple q
    have h1' := tupH_keeps _ _ _ _ _ h1
    rw [h1'] at ho'
    cases ho'
    rw [h3] at hd'
    injection hd' with e1 _
    have ei : IntsAre its ns := by
      have := ints_reads h4
      rw [e1] at this
      simpa using this
    have : xs = ns.map V.int := rv.inj (by
      have : ∀ {us : List Value} {ns : List Int}, IntsAre us ns → Vals (ns.map V.int) us := by
        intro us ns h
        induction h with
        | nil => exact .nil
        | cons n t _ ih => exact .cons ⟨t, rfl⟩ ih
      exact this ei)
    rw [← this]; exact q
theorem Inv.entsL (I : Inv X pins σ H s) : ∀ {es : List (Int × Value)} {ds : List PyData}, Ents X.w (tupH X.K H s.heap) es ds → (∀ d ∈ ds, ∃ ns, d = dat ns) → ∃ L : List (Addr × List Int), es = L.map (ent X.w) ∧ ds = L.map (fun p => dat p.2) ∧ Knows X.K H L
  | _, _, .nil, _ => ⟨[], rfl, rfl, fun p h => nomatch h⟩
  | e :: _, d :: _, .cons a b, hd => by
    obtain ⟨L, h1, h2, h3⟩ := I.entsL b fun x hx => hd x (List.mem_cons_of_mem _ hx)
    obtain ⟨ns, rfl⟩ := hd d List.mem_cons_self
    obtain ⟨as, r⟩ := a.rd
    obtain ⟨ad, e2, q⟩ := I.ofReads r
    refine ⟨(ad, ns) :: L, ?_, by rw [h2]; rfl, fun p hp => ?_⟩
    · rw [h1]
      show e :: _ = ent X.w (ad, ns) :: _
      congr 1
      unfold ent
      rw [← e2, ← a.hash]
    · rcases List.mem_cons.mp hp with rfl | hp
      · exact q
      · exact h3 p hp
theorem nodup_dat {L : List (Addr × List Int)} : (L.map fun p => dat p.2).Nodup ↔ (L.map (·.2)).Nodup := by
  have : (L.map fun p => dat p.2) = (L.map (·.2)).map dat := by rw [List.map_map]; rfl
  rw [this]
  constructor
  · intro h
    have h : List.Pairwise _ _ := h
    rw [List.pairwise_map] at h
    exact h.imp fun q e => q (by rw [e])
  · intro h
    show List.Pairwise _ _
    rw [List.pairwise_map]
    have h : List.Pairwise _ _ := h
    exact h.imp fun q e => q (dat_inj e)
/-- a new set is laid -/
theorem Inv.laidSet (I : Inv X pins σ H s) {h' : Heap} {tk : Nat} {a : Addr} {ds : List PyData} (k : Keeps s.heap h') (hz : s.heap.objs.size ≤ a) (S : SetAt X.w (tupH X.K H s.heap) h' a ds) (hd : ∀ d ∈ ds, ∃ ns, d = dat ns) :
    ∃ L, ds = L.map (fun p => dat p.2) ∧ Knows X.K H L ∧ (L.map (·.2)).Nodup ∧ Inv X pins σ (upd H a (SetO X.w a L)) { s with heap := h', toks := tk } := by
  obtain ⟨o, es, ep, t, S, lo, nd⟩ := S
  obtain ⟨L, h1, h2, h3⟩ := I.entsL S.ent0 hd
  have ndL : (L.map (·.2)).Nodup := nodup_dat.mp (by rw [← h2]; exact nd)
  refine ⟨L, h2, h3, ndL, I.laid k hz ⟨⟨o, es, ep, t, S.raw, lo, h1, ndL⟩, ⟨o, S.ho⟩, ?_⟩⟩
  rintro g1 g2 ⟨o, es, ep, t, R, lo, e, nd⟩ kk
  exact ⟨o, es, ep, t, R.at kk, lo, e, nd⟩
def Card62 (nss : List (List Int)) : Prop := ∀ l : List (List Int), l.Nodup → (∀ d ∈ l, d ∈ nss) → l.length ≤ 62
theorem card_dat {nss : List (List Int)} (h : Card62 nss) : ∀ l : List PyData, l.Nodup → (∀ d ∈ l, d ∈ nss.map dat) → l.length ≤ 62 := by
  intro l nd sub
  have ex : ∀ l : List PyData, (∀ d ∈ l, d ∈ nss.map dat) → ∃ m : List (List Int), l = m.map dat ∧ ∀ x ∈ m, x ∈ nss := by
    intro l
    induction l with
    | nil => intro _; exact ⟨[], rfl, fun x h => nomatch h⟩
    | cons d l ih =>
      intro sub
      obtain ⟨m, h1, h2⟩ := ih fun x hx => sub x (List.mem_cons_of_mem _ hx)
      obtain ⟨ns, hn, rfl⟩ := List.mem_map.mp (sub d List.mem_cons_self)
      refine ⟨ns :: m, by rw [h1]; rfl, fun x hx => ?_⟩
      rcases List.mem_cons.mp hx with rfl | hx
      · exact hn
      · exact h2 x hx
  obtain ⟨m, rfl, hm⟩ := ex l sub
  have nd' : m.Nodup := by
    have nd : List.Pairwise _ _ := nd
    rw [List.pairwise_map] at nd
    exact nd.imp fun q e => q (by rw [e])
  rw [List.length_map]
  exact h m nd' hm
/-- set(xs) -/
def rSet (X : Cx) : List V → Hp → VK → Prop := fun xs H Q => ∃ (p : Addr) (L0 : List (Addr × List Int)), xs = [.ref p] ∧ (SqL X.K H p (L0.map fun q => V.ref q.1) ∨ SqT X.K H p (L0.map fun q => V.ref q.1)) ∧ Knows X.K H L0 ∧ Card62 (L0.map (·.2)) ∧
  ∀ (q : Addr) (L : List (Addr × List Int)), H q = none → Knows X.K H L → (L.map (·.2)).Nodup → (∀ ns, ns ∈ L.map (·.2) ↔ ns ∈ L0.map (·.2)) → Q (.ref q) (upd H q (SetO X.w q L))
theorem Vals.refs : ∀ {as : List Addr} {us : List Value}, Vals (as.map V.ref) us → us = as.map Value.ref
  | [], _, r => by cases r; rfl
  | a :: as, _, r => by
    rw [List.map_cons] at r
    cases r with
    | cons r1 r2 =>
      cases r1
      rw [Vals.refs r2]; rfl
theorem call_set (hu : X.A.units + 80 < cLine) (hc : X.calm = true) : CallR X (.type "set") (rSet X) := by
  intro pins s σ H vs us Q I r h
  obtain ⟨p, L0, rfl, hs, kn, card, q⟩ := h
  rw [Vals.ref1 r]
  have items : ∀ {its : List Value}, Vals (L0.map fun q => V.ref q.1) its → ItemsAs (tupH X.K H s.heap) its.toArray ((L0.map (·.2)).map dat) := fun {its} rv => by
    have e : (L0.map fun q => V.ref q.1) = (L0.map (·.1)).map V.ref := by rw [List.map_map]; rfl
    rw [e] at rv
    have ei := Vals.refs rv
    subst ei
    refine ⟨by simp, fun i v hv => ?_⟩
    have hv : ((L0.map (·.1)).map Value.ref)[i]? = some v := by simpa using hv
    rw [List.map_map, List.getElem?_map] at hv
    obtain ⟨x, hx, rfl⟩ := Option.map_eq_some_iff.mp hv
    refine ⟨dat x.2, [], ?_, el_dat _, I.readsF (kn x (List.mem_of_getElem? hx))⟩
    rw [List.map_map, List.getElem?_map, hx]; rfl
  have fin : ∀ (h' : Heap) (tk : Nat) (ds : List PyData), SetAt X.w (tupH X.K H s.heap) h' s.heap.objs.size ds → (∀ d, d ∈ ds ↔ d ∈ (L0.map (·.2)).map dat) → Keeps s.heap h' → EP X pins σ Q (.ref s.heap.objs.size) { s with heap := h', toks := tk } := fun h' tk ds S hds k => by
    obtain ⟨L, e, k2, nd, I2⟩ := I.laidSet (tk := tk) k (Nat.le_refl _) S fun d hd => by
      obtain ⟨ns, _, rfl⟩ := List.mem_map.mp ((hds d).mp hd)
      exact ⟨ns, rfl⟩
    refine ⟨.ref _, _, I2, rfl, q _ L (I.hok.fresh (Nat.le_refl _)) k2 nd fun ns => ?_⟩
    have hh := hds (dat ns)
    rw [e] at hh
    constructor
    · intro hm
      obtain ⟨x, hx, ex⟩ := List.mem_map.mp hm
      obtain ⟨y, hy, ey⟩ := List.mem_map.mp (hh.mp (List.mem_map.mpr ⟨x, hx, by rw [ex]⟩))
      rw [← dat_inj ey]; exact hy
    · intro hm
      obtain ⟨x, hx, ex⟩ := List.mem_map.mp (hh.mpr (List.mem_map.mpr ⟨ns, hm, rfl⟩))
      exact List.mem_map.mpr ⟨x, hx, dat_inj ex⟩
  rcases hs with hs | hs
  · obtain ⟨its, rv, hl, _⟩ := I.list hs
    exact SE.set_list (I.ok.hd hc) hl.isList (tupH_keeps _ _ _) (Nat.le_of_eq (tupH_size _ _ _)) (items rv) (card_dat card) hu fin
  · obtain ⟨its, rv, hl, _⟩ := I.tuple hs
    exact SE.set_tup (I.ok.hd hc) (show s.heap.IsTuple p its.toArray from hl) (tupH_keeps _ _ _) (Nat.le_of_eq (tupH_size _ _ _)) (items rv) (card_dat card) hu fin
/-- sorted(a set): fewer than 64 -/
def rSortS (X : Cx) : List V → Hp → VK → Prop := fun xs H Q => ∃ (a : Addr) (L : List (Addr × List Int)), xs = [.ref a] ∧ H a = some (SetO X.w a L) ∧ Knows X.K H L ∧ (∀ p ∈ L, p.2 ≠ []) ∧ L.length < 64 ∧
  ∀ (q : Addr) (L' : List (Addr × List Int)), H q = none → L'.Perm L → Rises (L'.map (·.2)) → Q (.ref q) (upd H q (.lst (L'.map fun p => V.ref p.1)))
theorem Inv.flatAt (I : Inv X pins σ H s) {b : Addr} {ns : List Int} (ne : ns ≠ []) (q : SqT X.K H b (ns.map V.int)) : FlatAt s.heap (.ref b) ns := by
  obtain ⟨its, rv, ⟨o, ho, hc, n, hd⟩, _⟩ := I.tuple q
  exact ⟨ne, b, o, its.toArray, n, rfl, ho, hc, hd, by simpa using rv.intsAre⟩
theorem Inv.flats (I : Inv X pins σ H s) : ∀ {L : List (Addr × List Int)}, Knows X.K H L → (∀ p ∈ L, p.2 ≠ []) → Flats s.heap (L.map fun p => Value.ref p.1) (L.map (·.2))
  | [], _, _ => .nil
  | p :: L, h, hn => .cons (I.flatAt (hn p List.mem_cons_self) (h p List.mem_cons_self)) (I.flats (fun q hq => h q (List.mem_cons_of_mem _ hq)) fun q hq => hn q (List.mem_cons_of_mem _ hq))
theorem paired_addrs {L : List (Addr × List Int)} : ∀ {vs : List Value}, vs.Perm (L.map fun p => Value.ref p.1) → ∃ L' : List (Addr × List Int), L'.Perm L ∧ vs = L'.map fun p => Value.ref p.1 := by
  intro vs hp
  have pr : Paired (fun (v : Value) (p : Addr × List Int) => v = .ref p.1) (L.map fun p => Value.ref p.1) L := by
    have : ∀ L : List (Addr × List Int), Paired (fun (v : Value) (p : Addr × List Int) => v = .ref p.1) (L.map fun p => Value.ref p.1) L := by
      intro L
      induction L with
      | nil => exact .nil
      | cons a b ih => exact .cons rfl ih
    exact this L
  obtain ⟨L', h1, h2⟩ := paired_perm hp pr
  refine ⟨L', h1, ?_⟩
  have : ∀ {vs : List Value} {L' : List (Addr × List Int)}, Paired (fun (v : Value) (p : Addr × List Int) => v = .ref p.1) vs L' → vs = L'.map fun p => Value.ref p.1 := by
    intro vs L' h
    induction h with
    | nil => rfl
    | cons a _ ih => rw [a, ih]; rfl
  exact this h2
theorem vals_refs : ∀ L : List (Addr × List Int), Vals (L.map fun p => V.ref p.1) (L.map fun p => Value.ref p.1)
  | [] => .nil
  | _ :: L => .cons rfl (vals_refs L)
theorem cr_sortS (hc : X.calm = true) : CallR X (.builtin "sorted") (rSortS X) := by
  intro pins s σ H vs us Q I r h
  obtain ⟨a, L, rfl, ha, kn, hne, h64, q⟩ := h
  rw [Vals.ref1 r]
  obtain ⟨⟨o, es, ep, t, R, lo, e, nd⟩, _⟩ := I.hok a _ ha
  have hsz : es.size = L.length := by
    have := congrArg List.length e
    simpa using this
  refine Calls.call_function_entry kind_sorted plain_sorted entry_sorted (args_sorted1 _) ?_
  unfold Builtin.«sorted»
  refine wpAny_bind (m := checkCount "sorted" 1 1 _) (wpAny_pure ?_)
  refine wpAny_bind (PySem.W.kdu_collect (A := X.A.in1) (src_set (prog := X.prog) a o es ep t) (I.ok.hd hc) R (by rw [sizeLine_eq]; omega) fun h1 tk acc hk hacc => ?_)
  have hl : acc.toList.length = es.size := by rw [Array.length_toList]; exact hacc.1
  -- what was collected: the elements in some order
  have pm : acc.toList.Perm (L.map fun p => Value.ref p.1) := by
    have e1 : acc.toList = (ordOf X.w a ep es).toList.map (·.2) := by
      have os : (ordOf X.w a ep es).size = es.size := by
        have := (ordOf_perm (w := X.w) a ep es).length_eq
        simpa using this
      apply List.ext_getElem?
      intro i
      rw [List.getElem?_map]
      by_cases hi : i < es.size
      · have h3 : i < acc.size := by rw [hacc.1]; exact hi
        obtain ⟨en, he, hv⟩ := hacc.2 i acc[i] (Array.getElem?_eq_getElem h3)
        rw [Array.getElem?_toList, Array.getElem?_eq_getElem h3, Array.getElem?_toList, he, hv]; rfl
      · rw [List.getElem?_eq_none (by omega), List.getElem?_eq_none (by rw [Array.length_toList]; omega)]; rfl
    rw [e1]
    refine ((ordOf_perm (w := X.w) a ep es).map (·.2)).trans ?_
    rw [e, List.map_map]
    exact List.Perm.refl _
  obtain ⟨L1, p1, e1⟩ := paired_addrs pm
  refine wpAny_bind (wpAny_newList ?_ (by rw [hl, sizeLine_eq]; omega))
  have hD : (h1.push { cls := .type "list", data := .seq acc.toList.toArray }).get? h1.objs.size = some (seqObj "list" acc.toList.toArray 0) := Heap.get?_push_size _ rfl
  have I1 : Inv X pins σ H { s with heap := h1, toks := tk } := I.kept hk
  have k2 : Keeps h1 (h1.push { cls := .type "list", data := .seq acc.toList.toArray }) := fun b o z => Heap.get?_push_of_some _ z
  have kn1 : Knows X.K H L1 := fun p hp => kn p (p1.mem_iff.mp hp)
  have fl : Flats (h1.push { cls := .type "list", data := .seq acc.toList.toArray }) acc.toList (L1.map (·.2)) := by
    have := (I1.flats kn1 fun p hp => hne p (p1.mem_iff.mp hp)).keep (TupsK.of k2)
    rw [← e1] at this
    exact this
  refine wpAny_bind (wpAny_holding (wpAny_call_entry slot_list_sort ⟨_, hD, rfl⟩ entry_list_sort ?_ (args_list_sort _)))
  refine list_sort_flat (s := { s with heap := h1.push { cls := .type "list", data := .seq acc.toList.toArray }, toks := tk }) hD fl (by rw [hl, hsz]; exact h64) fun h3 c pr k3 g3 pk rs => ?_
  -- the sorted list's own addresses
  have po : ∃ L2 : List (Addr × List Int), L2.Perm L1 ∧ pr = L2.map fun p => (Value.ref p.1, p.2) := by
    have zz : acc.toList.zip (L1.map (·.2)) = L1.map fun p => (Value.ref p.1, p.2) := by
      rw [e1]
      exact List.zip_map'
    rw [zz] at pk
    have pr' : Paired (fun (v : Value × List Int) (p : Addr × List Int) => v = (.ref p.1, p.2)) (L1.map fun p => (Value.ref p.1, p.2)) L1 := by
      have : ∀ L : List (Addr × List Int), Paired (fun (v : Value × List Int) (p : Addr × List Int) => v = (.ref p.1, p.2)) (L.map fun p => (Value.ref p.1, p.2)) L := by
        intro L
        induction L with
        | nil => exact .nil
        | cons a b ih => exact .cons rfl ih
      exact this L1
    obtain ⟨L2, q1, q2⟩ := paired_perm pk pr'
    refine ⟨L2, q1, ?_⟩
    have : ∀ {vs : List (Value × List Int)} {L' : List (Addr × List Int)}, Paired (fun (v : Value × List Int) (p : Addr × List Int) => v = (.ref p.1, p.2)) vs L' → vs = L'.map fun p => (Value.ref p.1, p.2) := by
      intro vs L' h
      induction h with
      | nil => rfl
      | cons a _ ih => rw [a, ih]; rfl
    exact this q2
  obtain ⟨L2, p2, e2⟩ := po
  subst e2
  rw [List.map_map] at rs g3
  refine ⟨_, rfl, wpAny_pure ⟨_, rfl, ?_⟩⟩
  refine ⟨.ref h1.objs.size, upd H h1.objs.size (.lst (L2.map fun p => V.ref p.1)), I1.laid (t' := tk) (fun b u z => k3 b u (Nat.ne_of_lt (Heap.lt_size z)) (k2 b u z)) (Nat.le_refl _) ⟨?_, _, c, ?_, g3⟩, rfl, q _ L2 (I1.hok.fresh (Nat.le_refl _)) (p2.trans p1) rs⟩
  · rw [List.length_map, p2.length_eq, p1.length_eq, sizeLine_eq]; omega
  · exact vals_refs L2
end
end L2

set_option linter.all false
set_option maxRecDepth 100000
/-! # Data: a reading of defs as functions of plain data -/
namespace DL
open PySem PySem.Spec L2
abbrev D := PyData
/-- what an expression is worth: data; a list just made that nobody else holds; a list that is kept by place -/
inductive DV where
  | dat (d : D)
  | lst (ds : List D)
  | box (k : Nat)
  /-- a dict just made that nobody else holds; a dict that is kept by place: its entries, pairs; b: its keys are webs, else whole numbers -/
  | dct (b : Bool) (ds : List D)
  | dbx (b : Bool) (k : Nat)
  /-- a dict that nobody changes -/
  | dcd (b : Bool) (ds : List D)
abbrev Bxs := List (List D)
abbrev DEnv := List (Option DV)
/-- a key that is a web: its number, its pairs -/
abbrev WK := Int × List (List Int)
def wD (k : WK) : D := .tuple [.int k.1, .tuple (k.2.map fun t => .tuple (t.map .int))]
def wkH (k : WK) : Int := reduceHash (Builtin.Tuple.tupleHashOf [hashInt k.1, reduceHash (Builtin.Tuple.tupleHashOf (k.2.map fun t => reduceHash (Builtin.Tuple.tupleHashOf (t.map hashInt))))])
/-- a dict whose keys are such tuples: what its one object holds -/
def DicO (a : Addr) (ep : Nat) (xs : List (WK × Addr × Value)) : HO := HO.ext fun h => ∃ o es, h.get? a = some o ∧ o.ExactDict ∧ o.data = .dict es ep ∧ es.toList = xs.map (fun x => (⟨wkH x.1, .ref x.2.1, x.2.2⟩ : DictEntry)) ∧ (xs.map (·.1)).Nodup
/-- what sort of object stands there -/
def kd : HO → Nat
  | .lst _ => 0
  | .dK _ => 1
  | .ext _ => 2
  | _ => 3
/-- a code object's table -/
def isTb : HO → Bool
  | .tbl _ => true
  | _ => false
theorem tb_kd {o : HO} (h : kd o ≤ 2) : isTb o = false := by
  cases o with
  | tbl ps => simp [kd] at h
  | _ => rfl
def CodeF (ob : Obj) (q : Str) : Prop := ∃ vs t, ob.data = .fields vs ∧ vs[1]? = some (.str q t)
/-- the table of a def in which lambdas stand: each code in it is known -/
def TabR (P : Addr) (q : Str) (H : Hp) : Prop := ∃ ps, H P = some (.tbl ps) ∧ TriplesOk ps.toList ∧ ∀ pos cv, codeAmong pos ps.toList = some cv → ∃ c' ob u, cv = .ref c' ∧ H c' = some (.frz ob u) ∧ CodeF ob q
theorem TabR.upd {P : Addr} {q : Str} {H : Hp} (T : TabR P q H) {a : Addr} {o : HO} (h : ∀ u, H a = some u → kd u ≤ 2) : TabR P q (upd H a o) := by
  obtain ⟨ps, h1, h2, h3⟩ := T
  refine ⟨ps, ?_, h2, fun pos cv e => ?_⟩
  · rw [upd_ne]
    · exact h1
    · intro z; subst z
      have := h _ h1
      simp [kd] at this
  · obtain ⟨c', ob, u, e1, e2, e3⟩ := h3 pos cv e
    refine ⟨c', ob, u, e1, ?_, e3⟩
    rw [upd_ne]
    · exact e2
    · intro z; subst z
      have := h _ e2
      simp [kd] at this
def tabOf : Addr × Obj → Option (Addr × Str)
  | (_, { cls := .str q _, dict := some P, .. }) => some (P, q)
  | _ => none
def tabsOf (K : PySem.W.Frag) : List (Addr × Str) := (K.reverse.takeWhile fun p => (tabOf p).isSome).filterMap tabOf
def TabAt (K : PySem.W.Frag) (P : Addr) (q : Str) : Prop := (P, q) ∈ tabsOf K
abbrev IsL (H : Hp) (a : Addr) : Prop := ∃ xs, H a = some (.lst xs)
abbrev IsDc (b : Bool) (H : Hp) (a : Addr) : Prop := ∃ o, H a = some o ∧ kd o = (if b = true then 2 else 1)
variable (K : PySem.W.Frag)
/-- a list that is none of the kept ones, or one of the module's own -/
def SqN (ρ : List Addr) (H : Hp) (a : Addr) (xs : List V) : Prop := (a ∉ ρ ∧ Rd H a (.lst xs)) ∨
  ∃ (o : Obj) (its : Array Value) (n : Nat), K.lookup a = some o ∧ o.cls = .type "list" ∧ o.dict = none ∧ o.data = .seq its n ∧ its.size ≤ sizeLine ∧ Vals xs its.toList
mutual
inductive Rp (ρ : List Addr) (H : Hp) : V → D → Prop
  | non : Rp ρ H .non .none
  | bl (b : Bool) : Rp ρ H (.bl b) (.bool b)
  | int (i : Int) : Rp ρ H (.int i) (.int i)
  | str (x : Str) : Rp ρ H (.str x) (.str x)
  | lst {a : Addr} {xs : List V} {ds : List D} : SqN K ρ H a xs → RpA ρ H xs ds → Rp ρ H (.ref a) (.list ds)
  | tup {a : Addr} {xs : List V} {ds : List D} : SqT K H a xs → RpA ρ H xs ds → Rp ρ H (.ref a) (.tuple ds)
  | dct {a : Addr} {l : List (Key × V)} : a ∉ ρ → H a = some (.dK l) → Rp ρ H (.ref a) (.dict (l.map fun _ => (.none, .none)))
inductive RpA (ρ : List Addr) (H : Hp) : List V → List D → Prop
  | nil : RpA ρ H [] []
  | cons {v : V} {vs : List V} {d : D} {ds : List D} : Rp ρ H v d → RpA ρ H vs ds → RpA ρ H (v :: vs) (d :: ds)
end
/-- a dict's entries -/
inductive RpE (ρ : List Addr) (H : Hp) : List (V × V) → List D → Prop
  | nil : RpE ρ H [] []
  | cons {v u : V} {vs : List (V × V)} {k e : D} {ds : List D} : Rp K ρ H v k → Rp K ρ H u e → RpE ρ H vs ds → RpE ρ H ((v, u) :: vs) (.tuple [k, e] :: ds)
/-- a dict's object -/
inductive DcAt (ρ : List Addr) (H : Hp) (a : Addr) : Bool → List D → Prop
  | k {l : List (Key × V)} {ds : List D} : H a = some (.dK l) → RpE K ρ H (l.map fun p => (kV p.1, p.2)) ds → DcAt ρ H a false ds
  | w {ep : Nat} {xs : List (WK × Addr × Value)} {vs : List V} {ds : List D} : H a = some (DicO a ep xs) → Vals vs (xs.map (·.2.2)) → xs.length ≤ sizeLine → (a == sysModules) = false → RpE K ρ H ((xs.map fun x => V.ref x.2.1).zip vs) ds →
      (∀ (i : Nat) (x : WK × Addr × Value) (d : D), xs[i]? = some x → ds[i]? = some d → ∃ e, d = .tuple [wD x.1, e]) → DcAt ρ H a true ds
/-- the kept lists and dicts -/
structure StOk (ρ : List Addr) (H : Hp) (S : Bxs) : Prop where
  len : ρ.length = S.length
  nd : ρ.Nodup
  at0 : ∀ (k : Nat) (a : Addr), ρ[k]? = some a → ∃ (ds : List D), S[k]? = some ds ∧ ((∃ xs, H a = some (.lst xs) ∧ RpA K ρ H xs ds) ∨ ∃ b, DcAt K ρ H a b ds)
  tb : ∀ P q, TabAt K P q → TabR P q H
/-- the heap goes on: all but the kept lists stays; what is kept more was not there -/
structure Ext (K : PySem.W.Frag) (ρ : List Addr) (H : Hp) (ρ' : List Addr) (H' : Hp) : Prop where
  pre : ∃ more, ρ' = ρ ++ more
  keep : ∀ a o, H a = some o → a ∉ ρ → isTb o = false → H' a = some o
  box : ∀ a o, H a = some o → a ∈ ρ → ∃ o', H' a = some o' ∧ kd o' = kd o
  new : ∀ a, a ∈ ρ' → a ∈ ρ ∨ H a = none
  tab : ∀ a ps, H a = some (.tbl ps) → ∃ ps', H' a = some (.tbl ps')
  tabr : ∀ P q, TabAt K P q → TabR P q H → TabR P q H'
variable {K}
theorem Ext.ever {ρ ρ' : List Addr} {H H' : Hp} (x : Ext K ρ H ρ' H') {a : Addr} {o : HO} (e : H a = some o) : ∃ o', H' a = some o' := by
  by_cases q : a ∈ ρ
  · obtain ⟨o', e', _⟩ := x.box a o e q
    exact ⟨o', e'⟩
  · cases t : isTb o with
    | false => exact ⟨o, x.keep a o e q t⟩
    | true =>
      cases o with
      | tbl ps => obtain ⟨ps', e'⟩ := x.tab a ps e; exact ⟨_, e'⟩
      | _ => cases t
theorem isL_of {H : Hp} {a : Addr} {o : HO} (e : H a = some o) (h : kd o = 0) : IsL H a := by
  cases o with
  | lst xs => exact ⟨xs, e⟩
  | _ => cases h
theorem StOk.at' {ρ : List Addr} {H : Hp} {S : Bxs} (st : StOk K ρ H S) (k : Nat) (a : Addr) (h : ρ[k]? = some a) (hl : IsL H a) : ∃ (xs : List V) (ds : List D), S[k]? = some ds ∧ H a = some (.lst xs) ∧ RpA K ρ H xs ds := by
  obtain ⟨ds, h1, h2⟩ := st.at0 k a h
  rcases h2 with ⟨xs, h2, h3⟩ | h2
  · exact ⟨xs, ds, h1, h2, h3⟩
  · obtain ⟨ys, hl⟩ := hl
    obtain ⟨b, h2⟩ := h2
    cases h2 with
    | k e _ => rw [hl] at e; cases e
    | w e _ _ _ _ _ => rw [hl] at e; cases e
theorem DcAt.isD {ρ : List Addr} {H : Hp} {a : Addr} {b : Bool} {ds : List D} (h : DcAt K ρ H a b ds) : IsDc b H a := by
  cases h with
  | k e _ => exact ⟨_, e, rfl⟩
  | w e _ _ _ _ _ => exact ⟨_, e, rfl⟩
theorem StOk.atD {ρ : List Addr} {H : Hp} {S : Bxs} (st : StOk K ρ H S) (k : Nat) (a : Addr) {b : Bool} (h : ρ[k]? = some a) (hd : IsDc b H a) : ∃ ds : List D, S[k]? = some ds ∧ DcAt K ρ H a b ds := by
  obtain ⟨ds, h1, h2⟩ := st.at0 k a h
  rcases h2 with ⟨xs, h2, h3⟩ | h2
  · obtain ⟨o, e, hk⟩ := hd
    rw [h2] at e; cases e
    cases b <;> cases hk
  · obtain ⟨c, h2⟩ := h2
    obtain ⟨o, e, hk⟩ := hd
    obtain ⟨o', e', hk'⟩ := h2.isD
    rw [e] at e'; cases e'
    rw [hk] at hk'
    have : b = c := by cases b <;> cases c <;> first | rfl | (simp at hk')
    subst this
    exact ⟨ds, h1, h2⟩
theorem SqN.sqL {ρ : List Addr} {H : Hp} {a : Addr} {xs : List V} (h : SqN K ρ H a xs) : SqL K H a xs := h.elim (fun q => .inl q.2) .inr
theorem Ext.refl (ρ : List Addr) (H : Hp) : Ext K ρ H ρ H := ⟨⟨[], by simp⟩, fun _ _ e _ _ => e, fun _ o e _ => ⟨o, e, rfl⟩, fun _ h => .inl h, fun _ ps e => ⟨ps, e⟩, fun _ _ _ t => t⟩
theorem Ext.trans {ρ ρ1 ρ2 : List Addr} {H H1 H2 : Hp} (x : Ext K ρ H ρ1 H1) (y : Ext K ρ1 H1 ρ2 H2) : Ext K ρ H ρ2 H2 where
  pre := by
    obtain ⟨m, e⟩ := x.pre
    obtain ⟨m', e'⟩ := y.pre
    exact ⟨m ++ m', by rw [e', e, List.append_assoc]⟩
  tab := fun a ps e => by
    obtain ⟨ps', e'⟩ := x.tab a ps e
    exact y.tab a ps' e'
  tabr := fun P q a t => y.tabr P q a (x.tabr P q a t)
  keep := fun a o e n t => by
    refine y.keep a o (x.keep a o e n t) (fun h => ?_) t
    rcases x.new a h with z | z
    · exact n z
    · rw [e] at z; cases z
  box := fun a o e h => by
    obtain ⟨o', e', k'⟩ := x.box a o e h
    obtain ⟨m, em⟩ := x.pre
    obtain ⟨o2, e2, k2⟩ := y.box a o' e' (by rw [em]; exact List.mem_append_left _ h)
    exact ⟨o2, e2, k2.trans k'⟩
  new := fun a h => by
    rcases y.new a h with z | z1
    · exact x.new a z
    · by_cases q : a ∈ ρ
      · exact .inl q
      · refine .inr ?_
        cases e : H a with
        | none => rfl
        | some o =>
          obtain ⟨o', e'⟩ := x.ever e
          rw [e'] at z1; cases z1
theorem Ext.free {ρ ρ' : List Addr} {H H' : Hp} (x : Ext K ρ H ρ' H') {p : Addr} (h : H' p = none) : H p = none := by
  cases e : H p with
  | none => rfl
  | some o =>
    obtain ⟨o', e'⟩ := x.ever e
    rw [e'] at h; cases h
theorem Ext.isL {ρ ρ' : List Addr} {H H' : Hp} (x : Ext K ρ H ρ' H') {a : Addr} (h : IsL H a) : IsL H' a := by
  obtain ⟨xs, e⟩ := h
  by_cases q : a ∈ ρ
  · obtain ⟨o', e', k'⟩ := x.box a _ e q
    exact isL_of e' k'
  · exact ⟨xs, x.keep a _ e q rfl⟩
theorem Ext.isD {ρ ρ' : List Addr} {H H' : Hp} (x : Ext K ρ H ρ' H') {a : Addr} {b : Bool} (h : IsDc b H a) : IsDc b H' a := by
  obtain ⟨o, e, hk⟩ := h
  by_cases q : a ∈ ρ
  · obtain ⟨o', e', k'⟩ := x.box a _ e q
    exact ⟨o', e', by rw [k']; exact hk⟩
  · exact ⟨o, x.keep a _ e q (tb_kd (by rw [hk]; cases b <;> decide)), hk⟩
theorem Ext.sqT {ρ ρ' : List Addr} {H H' : Hp} (x : Ext K ρ H ρ' H') (bx : ∀ p ∈ ρ, ∃ o, H p = some o ∧ kd o ≤ 2) {a : Addr} {xs : List V} (h : SqT K H a xs) : SqT K H' a xs := by
  rcases h with (h | ⟨o, h⟩) | h
  · refine .inl (.inl (x.keep a _ h (fun q => ?_) rfl))
    obtain ⟨ys, e, hk⟩ := bx a q
    rw [h] at e; cases e; exact absurd hk (by simp [kd])
  · refine .inl (.inr ⟨o, x.keep a _ h (fun q => ?_) rfl⟩)
    obtain ⟨ys, e, hk⟩ := bx a q
    rw [h] at e; cases e; exact absurd hk (by simp [kd])
  · exact .inr h
theorem Ext.sqN {ρ ρ' : List Addr} {H H' : Hp} (x : Ext K ρ H ρ' H') {a : Addr} {xs : List V} (h : SqN K ρ H a xs) : SqN K ρ' H' a xs := by
  rcases h with ⟨n, h⟩ | h
  · have out : a ∉ ρ' := fun q => by
      rcases x.new a q with z | z
      · exact n z
      · rcases h with h | ⟨o, h⟩
        · rw [z] at h; cases h
        · rw [z] at h; cases h
    refine .inl ⟨out, ?_⟩
    rcases h with h | ⟨o, h⟩
    · exact .inl (x.keep a _ h n rfl)
    · exact .inr ⟨o, x.keep a _ h n rfl⟩
  · exact .inr h
theorem Ext.out {ρ ρ' : List Addr} {H H' : Hp} (x : Ext K ρ H ρ' H') {a : Addr} {o : HO} (n : a ∉ ρ) (h : H a = some o) : a ∉ ρ' := fun q => by
  rcases x.new a q with z | z
  · exact n z
  · rw [z] at h; cases h
abbrev Bx (ρ : List Addr) (H : Hp) : Prop := ∀ p ∈ ρ, ∃ o, H p = some o ∧ kd o ≤ 2
mutual
theorem Rp.keep {ρ ρ' : List Addr} {H H' : Hp} (x : Ext K ρ H ρ' H') (bx : Bx ρ H) : ∀ (d : D) (v : V), Rp K ρ H v d → Rp K ρ' H' v d
  | .none, _, h => by cases h; exact .non
  | .bool b, _, h => by cases h; exact .bl b
  | .int i, _, h => by cases h; exact .int i
  | .str s, _, h => by cases h; exact .str s
  | .list ds, _, h => by
    cases h with
    | lst q r => exact .lst (x.sqN q) (RpA.keep x bx ds _ r)
  | .tuple ds, _, h => by
    cases h with
    | tup q r => exact .tup (x.sqT bx q) (RpA.keep x bx ds _ r)
  | .dict _, _, h => by
    cases h with
    | dct n e => exact .dct (x.out n e) (x.keep _ _ e n rfl)
theorem RpA.keep {ρ ρ' : List Addr} {H H' : Hp} (x : Ext K ρ H ρ' H') (bx : Bx ρ H) : ∀ (ds : List D) (vs : List V), RpA K ρ H vs ds → RpA K ρ' H' vs ds
  | [], _, h => by cases h; exact .nil
  | d :: ds, _, h => by
    cases h with
    | cons a b => exact .cons (Rp.keep x bx d _ a) (RpA.keep x bx ds _ b)
end
theorem StOk.bx {ρ : List Addr} {H : Hp} {S : Bxs} (h : StOk K ρ H S) : Bx ρ H := fun p hp => by
  obtain ⟨k, hk⟩ := List.mem_iff_getElem?.mp hp
  obtain ⟨ds, _, e⟩ := h.at0 k p hk
  rcases e with ⟨xs, e, _⟩ | e
  · exact ⟨_, e, by simp [kd]⟩
  · obtain ⟨b, e⟩ := e
    obtain ⟨o, e, hk⟩ := e.isD
    exact ⟨o, e, by cases b <;> simp at hk <;> omega⟩
theorem RpE.keep {ρ ρ' : List Addr} {H H' : Hp} (x : Ext K ρ H ρ' H') (bx : Bx ρ H) : ∀ {vs : List (V × V)} {ds : List D}, RpE K ρ H vs ds → RpE K ρ' H' vs ds
  | _, _, .nil => .nil
  | _, _, .cons a b c => .cons (Rp.keep x bx _ _ a) (Rp.keep x bx _ _ b) (RpE.keep x bx c)
/-- a dict that stands as it was -/
theorem DcAt.stay {ρ ρ' : List Addr} {H H' : Hp} (x : Ext K ρ H ρ' H') (bx : Bx ρ H) {a : Addr} (e : H' a = H a) {b : Bool} {ds : List D} (h : DcAt K ρ H a b ds) : DcAt K ρ' H' a b ds := by
  cases h with
  | k h1 h2 => exact .k (e.trans h1) (h2.keep x bx)
  | w h1 h2 h3 h4 h5 h6 => exact .w (e.trans h1) h2 h3 h4 (h5.keep x bx) h6
theorem RpA.length {ρ : List Addr} {H : Hp} : ∀ {vs : List V} {ds : List D}, RpA K ρ H vs ds → vs.length = ds.length
  | _, _, .nil => rfl
  | _, _, .cons _ b => by simp [RpA.length b]
theorem RpA.get {ρ : List Addr} {H : Hp} : ∀ {vs : List V} {ds : List D} {i : Nat} {d : D}, RpA K ρ H vs ds → ds[i]? = some d → ∃ v, vs[i]? = some v ∧ Rp K ρ H v d
  | _, _, _, _, .nil, h => by simp at h
  | _, _, 0, _, .cons a _, h => by simp at h; subst h; exact ⟨_, rfl, a⟩
  | _, _, i + 1, _, .cons _ b, h => by
    obtain ⟨v, h1, h2⟩ := RpA.get (i := i) b (by simpa using h)
    exact ⟨v, by simpa using h1, h2⟩
theorem RpA.append {ρ : List Addr} {H : Hp} : ∀ {vs : List V} {ds : List D} {ws : List V} {es : List D}, RpA K ρ H vs ds → RpA K ρ H ws es → RpA K ρ H (vs ++ ws) (ds ++ es)
  | _, _, _, _, .nil, h => h
  | _, _, _, _, .cons a b, h => .cons a (RpA.append b h)
variable (K)
/-- a value as it stands behind an expression that began in H0 -/
inductive RV (ρ : List Addr) (H0 H : Hp) : V → DV → Prop
  | dat {v : V} {d : D} : Rp K ρ H v d → RV ρ H0 H v (.dat d)
  | lst {p : Addr} {xs : List V} {ds : List D} : H0 p = none → H p = some (.lst xs) → p ∉ ρ → RpA K ρ H xs ds → RV ρ H0 H (.ref p) (.lst ds)
  | box {k : Nat} {a : Addr} : ρ[k]? = some a → IsL H a → RV ρ H0 H (.ref a) (.box k)
  | dct {p : Addr} {b : Bool} {ds : List D} : H0 p = none → p ∉ ρ → DcAt K ρ H p b ds → RV ρ H0 H (.ref p) (.dct b ds)
  | dbx {k : Nat} {a : Addr} {b : Bool} : ρ[k]? = some a → IsDc b H a → RV ρ H0 H (.ref a) (.dbx b k)
  | dcd {p : Addr} {b : Bool} {ds : List D} : p ∉ ρ → DcAt K ρ H p b ds → RV ρ H0 H (.ref p) (.dcd b ds)
  /-- a def of the top, by its name -/
  | fnc {f : Addr} {n : Str} : PySem.W.nsIn K mainGlobals n = some (some (.ref f)) → RV ρ H0 H (.ref f) (.dcd false [.str n])
structure Sim (ρ : List Addr) (ε : DEnv) (S : Bxs) (σ : St) (H : Hp) : Prop where
  st : StOk K ρ H S
  env : ∀ (i : Nat) (dv : DV), ε[i]? = some (some dv) → ∃ v, σ[i]? = some (some v) ∧ RV K ρ H H v dv
  len : ε.length = σ.length
variable {K}
theorem RV.keep {ρ ρ' : List Addr} {H0 H H0' H' : Hp} {v : V} {dv : DV} (h : RV K ρ H0 H v dv) (x : Ext K ρ H ρ' H') (bx : Bx ρ H) (h0 : ∀ p, H0 p = none → H0' p = none) : RV K ρ' H0' H' v dv := by
  cases h with
  | dat r => exact .dat (Rp.keep x bx _ _ r)
  | @lst p xs ds a b n r => exact .lst (h0 p a) (x.keep p _ b n rfl) (x.out n b) (RpA.keep x bx _ _ r)
  | box e hl =>
    obtain ⟨m, em⟩ := x.pre
    refine .box ?_ (x.isL hl)
    rw [em]
    rw [List.getElem?_append_left (List.getElem?_eq_some_iff.mp e).1]
    exact e
  | @dct p b ds a n dc =>
    obtain ⟨o, e, hk⟩ := dc.isD
    exact .dct (h0 p a) (x.out n e) (dc.stay x bx ((x.keep p o e n (tb_kd (by rw [hk]; cases b <;> decide))).trans e.symm))
  | dbx e hl =>
    obtain ⟨m, em⟩ := x.pre
    refine .dbx ?_ (x.isD hl)
    rw [em]
    rw [List.getElem?_append_left (List.getElem?_eq_some_iff.mp e).1]
    exact e
  | @dcd p b ds n dc =>
    obtain ⟨o, e, hk⟩ := dc.isD
    exact .dcd (x.out n e) (dc.stay x bx ((x.keep p o e n (tb_kd (by rw [hk]; cases b <;> decide))).trans e.symm))
  | fnc q => exact .fnc q
theorem Sim.next {ρ ρ' : List Addr} {ε : DEnv} {S S' : Bxs} {σ : St} {H H' : Hp} (M : Sim K ρ ε S σ H) (x : Ext K ρ H ρ' H') (st : StOk K ρ' H' S') : Sim K ρ' ε S' σ H' :=
  ⟨st, fun i dv e => by
    obtain ⟨v, h1, h2⟩ := M.env i dv e
    refine ⟨v, h1, ?_⟩
    cases h2 with
    | dat r => exact .dat (Rp.keep x M.st.bx _ _ r)
    | @lst p xs ds a b n r => rw [a] at b; cases b
    | box e' hl =>
      obtain ⟨m, em⟩ := x.pre
      refine .box ?_ (x.isL hl)
      rw [em, List.getElem?_append_left (List.getElem?_eq_some_iff.mp e').1]
      exact e'
    | @dct p b ds a n dc =>
      obtain ⟨o, e, _⟩ := dc.isD
      rw [a] at e; cases e
    | dbx e' hl =>
      obtain ⟨m, em⟩ := x.pre
      refine .dbx ?_ (x.isD hl)
      rw [em, List.getElem?_append_left (List.getElem?_eq_some_iff.mp e').1]
      exact e'
    | @dcd p b ds n dc =>
      obtain ⟨o, e, hk⟩ := dc.isD
      exact .dcd (x.out n e) (dc.stay x M.st.bx ((x.keep p o e n (tb_kd (by rw [hk]; cases b <;> decide))).trans e.symm))
    | fnc q => exact .fnc q, M.len⟩
/-- a value behind an expression, and the kept lists; a list just made could be kept, too -/
structure Val (K : PySem.W.Frag) (ρ : List Addr) (H0 H : Hp) (S : Bxs) (v : V) (dv : DV) : Prop where
  st : StOk K ρ H S
  rv : RV K ρ H0 H v dv
  ad : (∀ p ds, v = .ref p → dv = .lst ds → StOk K (ρ ++ [p]) H (S ++ [ds])) ∧ ∀ p b ds, v = .ref p → dv = .dct b ds → StOk K (ρ ++ [p]) H (S ++ [ds])
theorem Val.dat {ρ : List Addr} {H0 H : Hp} {S : Bxs} {v : V} {d : D} (st : StOk K ρ H S) (r : Rp K ρ H v d) : Val K ρ H0 H S v (.dat d) := ⟨st, .dat r, ⟨(fun _ _ _ e => nomatch e), (fun _ _ _ _ e => nomatch e)⟩⟩
theorem Val.env {ρ : List Addr} {H : Hp} {S : Bxs} {v : V} {dv : DV} (st : StOk K ρ H S) (r : RV K ρ H H v dv) : Val K ρ H H S v dv := ⟨st, r, ⟨fun p ds e1 e2 => by
  subst e2
  (cases r with
  | lst a b n r => rw [a] at b; cases b), fun p b ds e1 e2 => by
  subst e2
  (cases r with
  | dct a n dc => obtain ⟨o, e, _⟩ := dc.isD; rw [a] at e; cases e)⟩⟩
theorem Val.back {ρ : List Addr} {H0 H H1 : Hp} {S : Bxs} {v : V} {dv : DV} (h : Val K ρ H1 H S v dv) (x : ∀ p, H1 p = none → H0 p = none) : Val K ρ H0 H S v dv := ⟨h.st, by
  cases h.rv with
  | dat r => exact .dat r
  | lst a b n r => exact .lst (x _ a) b n r
  | box e hl => exact .box e hl
  | dct a n dc => exact .dct (x _ a) n dc
  | dbx e hl => exact .dbx e hl
  | dcd n dc => exact .dcd n dc
  | fnc q => exact .fnc q, h.ad⟩
/-! ### the judgement on expressions -/
abbrev FE := DEnv → Bxs → Option (DV × Bxs)
def tD (K : PySem.W.Frag) (f : FE) : TE := fun σ H Q => ∃ ρ ε S dv S', Sim K ρ ε S σ H ∧ f ε S = some (dv, S') ∧ ∀ v H', Val K ρ H H' S' v dv → Ext K ρ H ρ H' → Q v H'
structure DE (X : Cx) (e : Expr) (f : FE) : Prop where
  pe : PE X e (tD X.K f)
theorem PE.imp {X : Cx} {e : Expr} {t t' : TE} (h : PE X e t) (k : ∀ σ H Q, t' σ H Q → t σ H Q) : PE X e t' := by
  intro pins s σ H Q I hq
  exact h pins s σ H Q I (k σ H Q hq)
end DL

set_option linter.all false
set_option maxRecDepth 100000
namespace DL
open PySem PySem.Spec L2
variable {K : PySem.W.Frag}
/-! ### values one beside the other -/
inductive RVs (K : PySem.W.Frag) (ρ : List Addr) (H0 H : Hp) : List V → List DV → Prop
  | nil : RVs K ρ H0 H [] []
  | cons {v : V} {vs : List V} {d : DV} {ds : List DV} : RV K ρ H0 H v d → RVs K ρ H0 H vs ds → RVs K ρ H0 H (v :: vs) (d :: ds)
theorem RV.ext {ρ ρ' : List Addr} {H0 H H' : Hp} {v : V} {dv : DV} (h : RV K ρ H0 H v dv) (x : Ext K ρ H ρ' H') (bx : Bx ρ H) : RV K ρ' H0 H' v dv := h.keep x bx fun _ q => q
theorem RV.back {ρ : List Addr} {H0 H H1 : Hp} {v : V} {dv : DV} (h : RV K ρ H1 H v dv) (x : ∀ p, H1 p = none → H0 p = none) : RV K ρ H0 H v dv := by
  cases h with
  | dat r => exact .dat r
  | lst a b n r => exact .lst (x _ a) b n r
  | box e hl => exact .box e hl
  | dct a n dc => exact .dct (x _ a) n dc
  | dbx e hl => exact .dbx e hl
  | dcd n dc => exact .dcd n dc
  | fnc q => exact .fnc q
theorem RVs.back {ρ : List Addr} {H0 H H1 : Hp} (x : ∀ p, H1 p = none → H0 p = none) : ∀ {vs : List V} {ds : List DV}, RVs K ρ H1 H vs ds → RVs K ρ H0 H vs ds
  | _, _, .nil => .nil
  | _, _, .cons a b => .cons (a.back x) (RVs.back x b)
/-- what stands there now -/
def rd (S : Bxs) : DV → Option D
  | .dat d => some d
  | .lst ds => some (.list ds)
  | .box k => (S[k]?).map .list
  | .dct _ _ => none
  | .dbx _ _ => none
  | .dcd _ _ => none
/-- a sequence: its items -/
def sq (S : Bxs) (v : DV) : Option (List D) := match rd S v with
  | some (.list ds) => some ds
  | some (.tuple ds) => some ds
  | _ => none
section
variable {ρ : List Addr} {S : Bxs} {H0 H : Hp} {v : V} {dv : DV}
theorem rd_int (r : RV K ρ H0 H v dv) {i : Int} (e : rd S dv = some (.int i)) : v = .int i := by
  cases r with
  | dat r => cases e; cases r; rfl
  | lst => cases e
  | dct _ _ _ => cases e
  | dbx _ _ => cases e
  | dcd _ _ => cases e
  | fnc _ => cases e
  | @box k a h hl => obtain ⟨_, _, z⟩ := Option.map_eq_some_iff.mp (show (S[k]?).map PyData.list = some _ from e); cases z
theorem rd_bool (r : RV K ρ H0 H v dv) {b : Bool} (e : rd S dv = some (.bool b)) : v = .bl b := by
  cases r with
  | dat r => cases e; cases r; rfl
  | lst => cases e
  | dct _ _ _ => cases e
  | dbx _ _ => cases e
  | dcd _ _ => cases e
  | fnc _ => cases e
  | @box k a h hl => obtain ⟨_, _, z⟩ := Option.map_eq_some_iff.mp (show (S[k]?).map PyData.list = some _ from e); cases z
theorem rd_str (r : RV K ρ H0 H v dv) {x : Str} (e : rd S dv = some (.str x)) : v = .str x := by
  cases r with
  | dat r => cases e; cases r; rfl
  | lst => cases e
  | dct _ _ _ => cases e
  | dbx _ _ => cases e
  | dcd _ _ => cases e
  | fnc _ => cases e
  | @box k a h hl => obtain ⟨_, _, z⟩ := Option.map_eq_some_iff.mp (show (S[k]?).map PyData.list = some _ from e); cases z
theorem rd_none (r : RV K ρ H0 H v dv) (e : rd S dv = some .none) : v = .non := by
  cases r with
  | dat r => cases e; cases r; rfl
  | lst => cases e
  | dct _ _ _ => cases e
  | dbx _ _ => cases e
  | dcd _ _ => cases e
  | fnc _ => cases e
  | @box k a h hl => obtain ⟨_, _, z⟩ := Option.map_eq_some_iff.mp (show (S[k]?).map PyData.list = some _ from e); cases z
theorem rd_tup (r : RV K ρ H0 H v dv) {ds : List D} (e : rd S dv = some (.tuple ds)) : ∃ a xs, v = .ref a ∧ SqT K H a xs ∧ RpA K ρ H xs ds := by
  cases r with
  | dat r => cases e; cases r with | tup q r => exact ⟨_, _, rfl, q, r⟩
  | lst => cases e
  | dct _ _ _ => cases e
  | dbx _ _ => cases e
  | dcd _ _ => cases e
  | fnc _ => cases e
  | @box k a h hl => obtain ⟨_, _, z⟩ := Option.map_eq_some_iff.mp (show (S[k]?).map PyData.list = some _ from e); cases z
theorem rd_lst (st : StOk K ρ H S) (r : RV K ρ H0 H v dv) {ds : List D} (e : rd S dv = some (.list ds)) : ∃ a xs, v = .ref a ∧ SqL K H a xs ∧ RpA K ρ H xs ds := by
  cases r with
  | dat r => cases e; cases r with | lst q r => exact ⟨_, _, rfl, q.sqL, r⟩
  | lst a b n r => cases e; exact ⟨_, _, rfl, .inl (.inl b), r⟩
  | dct _ _ _ => cases e
  | dbx _ _ => cases e
  | dcd _ _ => cases e
  | fnc _ => cases e
  | @box k a h hl =>
    obtain ⟨xs, ds', e1, e2, e3⟩ := st.at' k a h hl
    have e : (S[k]?).map PyData.list = some _ := e
    rw [e1] at e; cases e
    exact ⟨a, xs, rfl, .inl (.inl e2), e3⟩
theorem sq_ok (st : StOk K ρ H S) (r : RV K ρ H0 H v dv) {ds : List D} (e : sq S dv = some ds) : ∃ a xs, v = .ref a ∧ (SqL K H a xs ∨ SqT K H a xs) ∧ RpA K ρ H xs ds := by
  unfold sq at e
  cases q : rd S dv with
  | none => rw [q] at e; cases e
  | some d =>
    rw [q] at e
    cases d with
    | list ds' =>
      cases e
      obtain ⟨a, xs, h1, h2, h3⟩ := rd_lst st r q
      exact ⟨a, xs, h1, .inl h2, h3⟩
    | tuple ds' =>
      cases e
      obtain ⟨a, xs, h1, h2, h3⟩ := rd_tup r q
      exact ⟨a, xs, h1, .inr h2, h3⟩
    | _ => cases e
end
mutual
theorem Rp.dp {ρ : List Addr} {H : Hp} : ∀ (d : D) (v : V), d.canLay0 = true → Rp K ρ H v d → Dp K H v d
  | .none, _, _, h => by cases h; exact .non
  | .bool b, _, _, h => by cases h; exact .bl b
  | .int i, _, _, h => by cases h; exact .int i
  | .str s, _, _, h => by cases h; exact .str s
  | .list ds, _, c, h => by cases h with | lst q r => exact .lst q.sqL (RpA.dp ds _ (by simpa [PyData.canLay0] using c) r)
  | .tuple ds, _, c, h => by cases h with | tup q r => exact .tup q (RpA.dp ds _ (by simpa [PyData.canLay0] using c) r)
  | .dict _, _, c, h => by simp [PyData.canLay0] at c
theorem RpA.dp {ρ : List Addr} {H : Hp} : ∀ (ds : List D) (vs : List V), PyData.canLayAll0 ds = true → RpA K ρ H vs ds → DpAll K H vs ds
  | [], _, _, h => by cases h; exact .nil
  | d :: ds, _, c, h => by
    have c' : d.canLay0 = true ∧ PyData.canLayAll0 ds = true := by simpa [PyData.canLayAll0] using c
    cases h with | cons a b => exact .cons (Rp.dp d _ c'.1 a) (RpA.dp ds _ c'.2 b)
end
theorem rd_dp {ρ : List Addr} {S : Bxs} {H0 H : Hp} {v : V} {dv : DV} (st : StOk K ρ H S) (r : RV K ρ H0 H v dv) {d : D} (e : rd S dv = some d) (c : d.canLay0 = true) : Dp K H v d := by
  cases r with
  | dat r => cases e; exact Rp.dp _ _ c r
  | lst a b n r => cases e; exact .lst (.inl (.inl b)) (RpA.dp _ _ (by simpa [PyData.canLay0] using c) r)
  | dct _ _ _ => cases e
  | dbx _ _ => cases e
  | dcd _ _ => cases e
  | fnc _ => cases e
  | @box k a h hl =>
    obtain ⟨xs, ds', e1, e2, e3⟩ := st.at' k a h hl
    have e : (S[k]?).map PyData.list = some _ := e
    rw [e1] at e; cases e
    exact .lst (.inl (.inl e2)) (RpA.dp _ _ (by simpa [PyData.canLay0] using c) e3)
/-! ### an operation on values, on data -/
def Op2 (K : PySem.W.Frag) (r : R2) (g : Bxs → DV → DV → Option DV) : Prop :=
  ∀ (ρ : List Addr) (S : Bxs) (H0 H : Hp) (v u : V) (x y dv : DV) (Q : VK), StOk K ρ H S → (∀ p, H p = none → H0 p = none) → RV K ρ H0 H v x → RV K ρ H0 H u y → g S x y = some dv →
    (∀ w H', Val K ρ H0 H' S w dv → Ext K ρ H ρ H' → Q w H') → r v u H Q
def Op1 (K : PySem.W.Frag) (r : V → Hp → VK → Prop) (g : Bxs → DV → Option DV) : Prop :=
  ∀ (ρ : List Addr) (S : Bxs) (H0 H : Hp) (v : V) (x dv : DV) (Q : VK), StOk K ρ H S → (∀ p, H p = none → H0 p = none) → RV K ρ H0 H v x → g S x = some dv →
    (∀ w H', Val K ρ H0 H' S w dv → Ext K ρ H ρ H' → Q w H') → r v H Q
def OpN (K : PySem.W.Frag) (r : List V → Hp → VK → Prop) (g : Bxs → List DV → Option DV) : Prop :=
  ∀ (ρ : List Addr) (S : Bxs) (H0 H : Hp) (vs : List V) (xs : List DV) (dv : DV) (Q : VK), StOk K ρ H S → (∀ p, H p = none → H0 p = none) → RVs K ρ H0 H vs xs → g S xs = some dv →
    (∀ w H', Val K ρ H0 H' S w dv → Ext K ρ H ρ H' → Q w H') → r vs H Q
/-- nothing new is made -/
theorem same_end {ρ : List Addr} {S : Bxs} {H0 H : Hp} {w : V} {d : D} {Q : VK} (st : StOk K ρ H S) (r : Rp K ρ H w d) (k : ∀ w H', Val K ρ H0 H' S w (.dat d) → Ext K ρ H ρ H' → Q w H') : Q w H := k w H (.dat st r) (Ext.refl _ _)
/-- a new object -/
theorem Ext.upd {ρ : List Addr} {H : Hp} {p : Addr} {o : HO} (h : H p = none) : Ext K ρ H ρ (upd H p o) :=
  ⟨⟨[], by simp⟩, fun a u e _ _ => by rw [upd_ne (ne_of_none e h)]; exact e, fun a u e _ => ⟨u, by rw [upd_ne (ne_of_none e h)]; exact e, rfl⟩, fun _ q => .inl q, fun a ps e => ⟨ps, by rw [upd_ne (ne_of_none e h)]; exact e⟩, fun P q _ t => t.upd fun u e => by rw [h] at e; cases e⟩
theorem StOk.keep {ρ : List Addr} {H H' : Hp} {S : Bxs} (st : StOk K ρ H S) (x : Ext K ρ H ρ H') (k : ∀ p ∈ ρ, H' p = H p) : StOk K ρ H' S :=
  ⟨st.len, st.nd, fun i a e => by
    obtain ⟨ds, e1, e2⟩ := st.at0 i a e
    have q := k a (List.mem_of_getElem? e)
    rcases e2 with ⟨xs, e2, e3⟩ | e2
    · exact ⟨ds, e1, .inl ⟨xs, q.trans e2, RpA.keep x st.bx _ _ e3⟩⟩
    · obtain ⟨b, e2⟩ := e2
      exact ⟨ds, e1, .inr ⟨b, e2.stay x st.bx q⟩⟩, fun P q t => x.tabr P q t (st.tb P q t)⟩
theorem StOk.upd {ρ : List Addr} {H : Hp} {S : Bxs} (st : StOk K ρ H S) {p : Addr} {o : HO} (h : H p = none) : StOk K ρ (upd H p o) S :=
  st.keep (Ext.upd h) fun q hq => by
    obtain ⟨xs, e, _⟩ := st.bx q hq
    exact upd_ne (ne_of_none e h)
theorem StOk.notin {ρ : List Addr} {H : Hp} {S : Bxs} (st : StOk K ρ H S) {p : Addr} (h : H p = none) : p ∉ ρ := fun q => by
  obtain ⟨xs, e, _⟩ := st.bx p q
  rw [h] at e; cases e
/-- a list just made is kept -/
theorem Ext.adopt {ρ : List Addr} {H : Hp} {p : Addr} {o : HO} (h : H p = none) : Ext K ρ H (ρ ++ [p]) (L2.upd H p o) :=
  ⟨⟨[p], rfl⟩, fun a u e _ _ => by rw [upd_ne (ne_of_none e h)]; exact e, fun a u e _ => ⟨u, by rw [upd_ne (ne_of_none e h)]; exact e, rfl⟩, fun a q => (List.mem_append.mp q).elim .inl fun z => .inr (by rw [List.mem_singleton.mp z]; exact h), fun a ps e => ⟨ps, by rw [upd_ne (ne_of_none e h)]; exact e⟩, fun P q _ t => t.upd fun u e => by rw [h] at e; cases e⟩
theorem StOk.adopt {ρ : List Addr} {H : Hp} {S : Bxs} (st : StOk K ρ H S) {p : Addr} {xs : List V} {ds : List D} (h : H p = none) (r : RpA K (ρ ++ [p]) (L2.upd H p (.lst xs)) xs ds) : StOk K (ρ ++ [p]) (L2.upd H p (.lst xs)) (S ++ [ds]) := by
  refine ⟨by simp [st.len], ?_, fun k a e => ?_, fun P q t => (Ext.adopt (K := K) (ρ := ρ) h).tabr P q t (st.tb P q t)⟩
  · rw [List.nodup_append]
    exact ⟨st.nd, by simp, fun a ha b hb => by rw [List.mem_singleton.mp hb]; exact fun z => st.notin h (z ▸ ha)⟩
  · by_cases hk : k < ρ.length
    · rw [List.getElem?_append_left hk] at e
      obtain ⟨es, e1, e2⟩ := st.at0 k a e
      refine ⟨es, by rw [List.getElem?_append_left (by rw [← st.len]; exact hk)]; exact e1, ?_⟩
      rcases e2 with ⟨ys, e2, e3⟩ | e2
      · exact .inl ⟨ys, by rw [upd_ne (ne_of_none e2 h)]; exact e2, RpA.keep (Ext.adopt h) st.bx _ _ e3⟩
      · obtain ⟨b, e2⟩ := e2
        obtain ⟨o, eo, _⟩ := e2.isD
        exact .inr ⟨b, e2.stay (Ext.adopt h) st.bx (upd_ne (ne_of_none eo h))⟩
    · have hk2 : k = ρ.length := by
        have := (List.getElem?_eq_some_iff.mp e).1
        rw [List.length_append] at this
        simp at this; omega
      subst hk2
      rw [List.getElem?_append_right (Nat.le_refl _)] at e
      simp at e
      subst e
      exact ⟨ds, by rw [st.len, List.getElem?_append_right (Nat.le_refl _)]; simp, .inl ⟨xs, upd_same, r⟩⟩
/-! ### the rules -/
section
variable {X : Cx} {e a b c : Expr} {fa fb fc : FE} {pos : Pos}
theorem bin_tD {ρ : List Addr} {ε : DEnv} {S S1 S2 : Bxs} {σ : L2.St} {H : Hp} {x y : DV} {R : V → V → Hp → Prop} (M : Sim K ρ ε S σ H) (h1 : fa ε S = some (x, S1)) (h2 : fb ε S1 = some (y, S2))
    (k : ∀ v u H2, StOk K ρ H2 S2 → RV K ρ H H2 v x → RV K ρ H H2 u y → Ext K ρ H ρ H2 → R v u H2) : tD K fa σ H fun v H1 => tD K fb σ H1 fun u H2 => R v u H2 := by
  refine ⟨ρ, ε, S, x, S1, M, h1, fun v H1 ⟨st1, r1, _⟩ x1 => ?_⟩
  refine ⟨ρ, ε, S1, y, S2, M.next x1 st1, h2, fun u H2 ⟨st2, r2, _⟩ x2 => ?_⟩
  exact k v u H2 st2 (r1.ext x2 st1.bx) (r2.back fun p q => x1.free q) (x1.trans x2)
def fVar (i : Nat) : FE := fun ε S => match ε[i]? with
  | some (some dv) => some (dv, S)
  | _ => none
def fC (d : D) : FE := fun _ S => some (.dat d, S)
def fOp2 (g : Bxs → DV → DV → Option DV) (fa fb : FE) : FE := fun ε S => match fa ε S with
  | some (x, S1) => (match fb ε S1 with
    | some (y, S2) => (match g S2 x y with
      | some dv => some (dv, S2)
      | none => none)
    | none => none)
  | none => none
def fOp1 (g : Bxs → DV → Option DV) (fa : FE) : FE := fun ε S => match fa ε S with
  | some (x, S1) => (match g S1 x with
    | some dv => some (dv, S1)
    | none => none)
  | none => none
theorem fOp2_some {g : Bxs → DV → DV → Option DV} {ε : DEnv} {S S' : Bxs} {dv : DV} (h : fOp2 g fa fb ε S = some (dv, S')) : ∃ x S1 y, fa ε S = some (x, S1) ∧ fb ε S1 = some (y, S') ∧ g S' x y = some dv := by
  unfold fOp2 at h
  split at h
  · rename_i x S1 h1
    split at h
    · rename_i y S2 h2
      split at h
      · rename_i d h3
        cases h
        exact ⟨x, S1, y, h1, h2, h3⟩
      · cases h
    · cases h
  · cases h
theorem fOp1_some {g : Bxs → DV → Option DV} {ε : DEnv} {S S' : Bxs} {dv : DV} (h : fOp1 g fa ε S = some (dv, S')) : ∃ x, fa ε S = some (x, S') ∧ g S' x = some dv := by
  unfold fOp1 at h
  split at h
  · rename_i x S1 h1
    split at h
    · rename_i d h3
      cases h
      exact ⟨x, h1, h3⟩
    · cases h
  · cases h
theorem de_var (i : Nat) {x : Str} (hN : X.N[i]? = some x := by rfl) (hv : Vis X.env.scope x := by first | exact Or.inl rfl | exact Or.inr (Or.inl rfl) | exact Or.inr (Or.inr rfl)) (hd : (x == ("__debug__" : Str)) = false := by decide)
    (hcd : (x == ("__classdict__" : Str)) = false := by decide) : DE X (.Name x pos) (fVar i) := ⟨PE.imp (pe_var hN hv hd hcd) fun σ H Q ⟨ρ, ε, S, dv, S', M, h, k⟩ => by
  unfold fVar at h
  split at h
  · rename_i dv' he
    cases h
    obtain ⟨v, h1, h2⟩ := M.env i _ he
    exact ⟨v, h1, k v H (.env M.st h2) (Ext.refl _ _)⟩
  · cases h⟩
theorem de_const {v : V} {d : D} (h : PE X e (tC v)) (r : ∀ ρ H, Rp X.K ρ H v d) : DE X e (fC d) := ⟨PE.imp h fun σ H Q ⟨ρ, ε, S, dv, S', M, h, k⟩ => by
  unfold fC at h
  cases h
  exact k v H (.dat M.st (r _ _)) (Ext.refl _ _)⟩
theorem de_int {i : Int} {j : Nat} : DE X (.Constant (.int i) j pos) (fC (.int i)) := de_const pe_int fun _ _ => .int i
theorem de_bl {i : Bool} {j : Nat} : DE X (.Constant (.bool i) j pos) (fC (.bool i)) := de_const pe_bl fun _ _ => .bl i
theorem de_str {x : Str} {j : Nat} : DE X (.Constant (.str x) j pos) (fC (.str x)) := de_const pe_str fun _ _ => .str x
theorem de_glob {x : Str} {v : V} {u : Value} {d : D} (hg : Gl X x) (hm : X.mg x = some u) (r : RelV v u) (q : ∀ ρ H, Rp X.K ρ H v d) (hd : (x == ("__debug__" : Str)) = false := by decide) : DE X (.Name x pos) (fC d) := de_const (pe_glob hg hm r hd) q
theorem op2_tD {r : R2} {g : Bxs → DV → DV → Option DV} (O : Op2 X.K r g) (h : PE X e (tOp r (tD X.K fa) (tD X.K fb))) : DE X e (fOp2 g fa fb) := ⟨PE.imp h fun σ H Q ⟨ρ, ε, S, dv, S', M, h, k⟩ => by
  obtain ⟨x, S1, y, h1, h2, h3⟩ := fOp2_some h
  refine bin_tD M h1 h2 fun v u H2 st r1 r2 x2 => ?_
  exact O ρ S' H H2 v u x y dv Q st (fun p q => x2.free q) r1 r2 h3 fun w H3 v3 x3 => k w H3 v3 (x2.trans x3)⟩
theorem op1_tD {r : V → Hp → VK → Prop} {g : Bxs → DV → Option DV} (O : Op1 X.K r g) (h : PE X e (tUn r (tD X.K fa))) : DE X e (fOp1 g fa) := ⟨PE.imp h fun σ H Q ⟨ρ, ε, S, dv, S', M, h, k⟩ => by
  obtain ⟨x, h1, h3⟩ := fOp1_some h
  refine ⟨ρ, ε, S, x, S', M, h1, fun v H2 ⟨st, r1, _⟩ x2 => ?_⟩
  exact O ρ S' H H2 v x dv Q st (fun p q => x2.free q) r1 h3 fun w H3 v3 x3 => k w H3 v3 (x2.trans x3)⟩
theorem de_bin {op : Operator} {r : R2} {g : Bxs → DV → DV → Option DV} (ho : OpR X (binaryOp op) r) (O : Op2 X.K r g) (ha : DE X a fa) (hb : DE X b fb) : DE X (.BinOp a op b pos) (fOp2 g fa fb) := op2_tD O (pe_op ho ha.pe hb.pe)
theorem de_cmp {op : CmpOp} {r : R2} {g : Bxs → DV → DV → Option DV} (ho : OpR X (compareOp op) r) (O : Op2 X.K r g) (ha : DE X a fa) (hb : DE X b fb) (hm : behindInMarks op b = false) : DE X (.Compare a [op] [b] pos) (fOp2 g fa fb) := op2_tD O (pe_cmpR ho ha.pe hb.pe hm)
theorem de_un {op : UnaryOp} {r : V → Hp → VK → Prop} {g : Bxs → DV → Option DV} (ho : UnR X (unaryOp op) r) (O : Op1 X.K r g) (ha : DE X a fa) : DE X (.UnaryOp op a pos) (fOp1 g fa) := op1_tD O (pe_un ho ha.pe)
end
/-! ### operations -/
def gI (C : Int → Int → Bool) (f : Int → Int → D) : Bxs → DV → DV → Option DV := fun S x y => match rd S x, rd S y with
  | some (.int i), some (.int j) => if C i j = true then some (.dat (f i j)) else none
  | _, _ => none
theorem op2_int {C : Int → Int → Prop} {C' : Int → Int → Bool} {f : Int → Int → V} {f' : Int → Int → D} (hC : ∀ i j, C' i j = true → C i j) (hf : ∀ i j ρ H, Rp K ρ H (f i j) (f' i j)) : Op2 K (rI C f) (gI C' f') := by
  intro ρ S H0 H v u x y dv Q st fr r1 r2 h k
  unfold gI at h
  split at h
  · rename_i i j e1 e2
    split at h
    · rename_i hc
      cases h
      exact ⟨i, j, rd_int r1 e1, rd_int r2 e2, hC i j hc, same_end st (hf i j _ _) k⟩
    · cases h
  · cases h
theorem op2_int0 {f : Int → Int → V} {f' : Int → Int → D} (hf : ∀ i j ρ H, Rp K ρ H (f i j) (f' i j)) : Op2 K (rI0 f) (gI (fun _ _ => true) f') := by
  intro ρ S H0 H v u x y dv Q st fr r1 r2 h k
  unfold gI at h
  split at h
  · rename_i i j e1 e2
    rw [if_pos rfl] at h
    cases h
    exact ⟨i, j, rd_int r1 e1, rd_int r2 e2, same_end st (hf i j _ _) k⟩
  · cases h
def gIx : Bxs → DV → DV → Option DV := fun S x y => match sq S x, rd S y with
  | some ds, some (.int i) => (atI ds i).map .dat
  | _, _ => none
theorem atI_get {ρ : List Addr} {H : Hp} {xs : List V} {ds : List D} {i : Int} {d : D} (r : RpA K ρ H xs ds) (h : atI ds i = some d) : ∃ v, atI xs i = some v ∧ Rp K ρ H v d := by
  unfold atI at h ⊢
  rw [r.length]
  cases q : ixN ds.length i with
  | none => rw [q] at h; cases h
  | some j =>
    rw [q] at h
    obtain ⟨v, h1, h2⟩ := r.get (show ds[j]? = some d from h)
    exact ⟨v, h1, h2⟩
theorem op2_ix : Op2 K (rIx K) gIx := by
  intro ρ S H0 H v u x y dv Q st fr r1 r2 h k
  unfold gIx at h
  split at h
  · rename_i ds i e1 e2
    obtain ⟨d, e3, rfl⟩ := Option.map_eq_some_iff.mp h
    obtain ⟨a, xs, rfl, hq, rr⟩ := sq_ok st r1 e1
    obtain ⟨w, h1, h2⟩ := atI_get rr e3
    have e := rd_int r2 e2
    rcases hq with hq | hq
    · exact .inl ⟨a, xs, i, w, rfl, e, hq, h1, same_end st h2 k⟩
    · exact .inr (.inl ⟨a, xs, i, w, rfl, e, hq, h1, same_end st h2 k⟩)
  · cases h
end DL

set_option linter.all false
set_option maxRecDepth 100000
namespace DL
open PySem PySem.Spec L2
variable {K : PySem.W.Frag}
/-! ### arguments and displays -/
abbrev FA := DEnv → Bxs → Option (List DV × Bxs)
def tDA (K : PySem.W.Frag) (f : FA) : TA := fun σ H Q => ∃ ρ ε S dvs S', Sim K ρ ε S σ H ∧ f ε S = some (dvs, S') ∧ ∀ vs H', StOk K ρ H' S' → RVs K ρ H H' vs dvs → Ext K ρ H ρ H' → Q vs H'
structure DA (X : Cx) (es : List Expr) (f : FA) : Prop where
  pa : PA X es (tDA X.K f)
theorem PA.imp {X : Cx} {es : List Expr} {t t' : TA} (h : PA X es t) (k : ∀ σ H Q, t' σ H Q → t σ H Q) : PA X es t' := by
  intro pos pins s σ H Q I hq
  exact h pos pins s σ H Q I (k σ H Q hq)
def fNil : FA := fun _ S => some ([], S)
def fCons (fa : FE) (fr : FA) : FA := fun ε S => match fa ε S with
  | some (x, S1) => (match fr ε S1 with
    | some (xs, S2) => some (x :: xs, S2)
    | none => none)
  | none => none
section
variable {X : Cx} {e a b c : Expr} {es : List Expr} {fa fb fc fe : FE} {fr : FA} {pos : Pos}
theorem da_nil : DA X [] fNil := ⟨PA.imp pa_nil fun σ H Q ⟨ρ, ε, S, dv, S', M, h, k⟩ => by
  unfold fNil at h; cases h
  exact k [] H M.st .nil (Ext.refl _ _)⟩
theorem da_cons (ha : DE X e fe) (hr : DA X es fr) (hs : starEach (e :: es) X.env = (false, eval e X.env) :: starEach es X.env := by rfl) : DA X (e :: es) (fCons fe fr) := ⟨PA.imp (pa_cons ha.pe hr.pa hs) fun σ H Q ⟨ρ, ε, S, dv, S', M, h, k⟩ => by
  unfold fCons at h
  split at h
  · rename_i x S1 h1
    split at h
    · rename_i xs S2 h2
      cases h
      refine ⟨ρ, ε, S, x, S1, M, h1, fun v H1 ⟨st1, r1, _⟩ x1 => ?_⟩
      refine ⟨ρ, ε, S1, xs, _, M.next x1 st1, h2, fun vs H2 st2 r2 x2 => ?_⟩
      exact k (v :: vs) H2 st2 (.cons (r1.ext x2 st1.bx) (RVs.back (fun p q => x1.free q) r2)) (x1.trans x2)
    · cases h
  · cases h⟩
/-- as a part of other data -/
def toD : DV → Option D
  | .dat d => some d
  | .lst ds => some (.list ds)
  | .box _ => none
  | .dct _ _ => none
  | .dbx _ _ => none
  | .dcd _ _ => none
def toDs : List DV → Option (List D)
  | [] => some []
  | x :: xs => match toD x, toDs xs with
    | some d, some ds => some (d :: ds)
    | _, _ => none
theorem toD_ok {ρ : List Addr} {H0 H : Hp} {v : V} {dv : DV} {d : D} (r : RV K ρ H0 H v dv) (h : toD dv = some d) : Rp K ρ H v d := by
  cases r with
  | dat r => cases h; exact r
  | lst a b n r => cases h; exact .lst (.inl ⟨n, .inl b⟩) r
  | box e hl => cases h
  | dct _ _ _ => cases h
  | dbx _ _ => cases h
  | dcd _ _ => cases h
  | fnc _ => cases h
theorem toDs_ok {ρ : List Addr} {H0 H : Hp} : ∀ {vs : List V} {dvs : List DV} {ds : List D}, RVs K ρ H0 H vs dvs → toDs dvs = some ds → RpA K ρ H vs ds
  | _, _, _, .nil, h => by cases h; exact .nil
  | _, _, ds, .cons a b, h => by
    unfold toDs at h
    split at h
    · rename_i d ds' e1 e2
      cases h
      exact .cons (toD_ok a e1) (toDs_ok b e2)
    · cases h
def small (n : Nat) : Bool := decide (n ≤ 100000)
theorem small_line {n : Nat} (h : small n = true) : n ≤ sizeLine := Nat.le_trans (of_decide_eq_true h) (by decide)
def fTup (fr : FA) : FE := fun ε S => match fr ε S with
  | some (xs, S1) => (match toDs xs with
    | some ds => if small ds.length = true then some (.dat (.tuple ds), S1) else none
    | none => none)
  | none => none
def fLst (fr : FA) : FE := fun ε S => match fr ε S with
  | some (xs, S1) => (match toDs xs with
    | some ds => if small ds.length = true then some (.lst ds, S1) else none
    | none => none)
  | none => none
/-- a list, a tuple that was just made -/
theorem new_lst {ρ : List Addr} {S : Bxs} {H0 H : Hp} {xs : List V} {ds : List D} {p : Addr} (st : StOk K ρ H S) (h0 : ∀ p, H p = none → H0 p = none) (hp : H p = none) (r : RpA K ρ H xs ds) : Val K ρ H0 (upd H p (.lst xs)) S (.ref p) (.lst ds) ∧ Ext K ρ H ρ (upd H p (.lst xs)) :=
  ⟨⟨st.upd hp, .lst (h0 p hp) upd_same (st.notin hp) (RpA.keep (Ext.upd hp) st.bx _ _ r), ⟨fun q es e1 e2 => by
    cases e1; cases e2
    exact st.adopt hp (RpA.keep (Ext.adopt hp) st.bx _ _ r), (fun _ _ _ _ e => nomatch e)⟩⟩, Ext.upd hp⟩
theorem new_tup {ρ : List Addr} {S : Bxs} {H0 H : Hp} {xs : List V} {ds : List D} {p : Addr} (st : StOk K ρ H S) (hp : H p = none) (r : RpA K ρ H xs ds) : Val K ρ H0 (upd H p (.tup xs)) S (.ref p) (.dat (.tuple ds)) ∧ Ext K ρ H ρ (upd H p (.tup xs)) :=
  ⟨.dat (st.upd hp) (.tup (.inl (.inl upd_same)) (RpA.keep (Ext.upd hp) st.bx _ _ r)), Ext.upd hp⟩
theorem de_tup {x1 : Nat} (h : DA X es fr) : DE X (.Tuple es x1 pos) (fTup fr) := ⟨PE.imp (pe_tup h.pa) fun σ H Q ⟨ρ, ε, S, dv, S', M, h, k⟩ => by
  unfold fTup at h
  split at h
  · rename_i xs S1 h1
    split at h
    · rename_i ds h2
      split at h
      · rename_i hc
        cases h
        refine ⟨ρ, ε, S, xs, S', M, h1, fun vs H1 st1 r1 x1 => ?_⟩
        have rr := toDs_ok r1 h2
        refine ⟨by rw [rr.length]; exact small_line hc, fun p hp => ?_⟩
        obtain ⟨a1, a3⟩ := new_tup st1 hp rr
        exact k _ _ a1 (x1.trans a3)
      · cases h
    · cases h
  · cases h⟩
theorem de_lst (h : DA X es fr) : DE X (.List es pos) (fLst fr) := ⟨PE.imp (pe_lst h.pa) fun σ H Q ⟨ρ, ε, S, dv, S', M, h, k⟩ => by
  unfold fLst at h
  split at h
  · rename_i xs S1 h1
    split at h
    · rename_i ds h2
      split at h
      · rename_i hc
        cases h
        refine ⟨ρ, ε, S, xs, S', M, h1, fun vs H1 st1 r1 x1 => ?_⟩
        have rr := toDs_ok r1 h2
        refine ⟨by rw [rr.length]; exact small_line hc, fun p hp => ?_⟩
        obtain ⟨a1, a3⟩ := new_lst st1 (fun p q => x1.free q) hp rr
        exact k _ _ a1 (x1.trans a3)
      · cases h
    · cases h
  · cases h⟩
/-! ### calls -/
def fOpN (g : Bxs → List DV → Option DV) (fr : FA) : FE := fun ε S => match fr ε S with
  | some (xs, S1) => (match g S1 xs with
    | some dv => some (dv, S1)
    | none => none)
  | none => none
theorem opN_tD {r : List V → Hp → VK → Prop} {g : Bxs → List DV → Option DV} (O : OpN X.K r g) (h : PE X e (tCB r (tDA X.K fr))) : DE X e (fOpN g fr) := ⟨PE.imp h fun σ H Q ⟨ρ, ε, S, dv, S', M, h, k⟩ => by
  unfold fOpN at h
  split at h
  · rename_i xs S1 h1
    split at h
    · rename_i d h2
      cases h
      refine ⟨ρ, ε, S, xs, S', M, h1, fun vs H2 st r1 x2 => ?_⟩
      exact O ρ S' H H2 vs xs dv Q st (fun p q => x2.free q) r1 h2 fun w H3 v3 x3 => k w H3 v3 (x2.trans x3)
    · cases h
  · cases h⟩
variable {id T : String} {x : Str} {p : Pos}
theorem de_callB {r : List V → Hp → VK → Prop} {g : Bxs → List DV → Option DV} (hc : CallR X (.builtin id) r) (O : OpN X.K r g) (hg : Gl X x) (hm : X.mg x = none) (hv : bootBuiltins x = some (.builtin id)) (ha : DA X (e :: es) fr) (hn : x ≠ "__name__" := by decide) (hdb : (x == ("__debug__" : Str)) = false := by decide)
    (he : starEach (e :: es) X.env = (false, eval e X.env) :: starEach es X.env := by rfl) (hpl : (backTo pos (starEach es X.env)).any (·.1) = false := by rfl) : DE X (.Call (.Name x p) (e :: es) [] pos) (fOpN g fr) := opN_tD O (pe_callB hc hg hm hv ha.pa hn hdb he hpl)
theorem de_callTy {r : List V → Hp → VK → Prop} {g : Bxs → List DV → Option DV} (hc : CallR X (.type T) r) (O : OpN X.K r g) (hg : Gl X x) (hm : X.mg x = none) (hv : bootBuiltins x = some (.type T)) (ha : DA X (e :: es) fr) (hn : x ≠ "__name__" := by decide) (hdb : (x == ("__debug__" : Str)) = false := by decide)
    (he : starEach (e :: es) X.env = (false, eval e X.env) :: starEach es X.env := by rfl) (hpl : (backTo pos (starEach es X.env)).any (·.1) = false := by rfl) : DE X (.Call (.Name x p) (e :: es) [] pos) (fOpN g fr) := opN_tD O (pe_callTy hc hg hm hv ha.pa hn hdb he hpl)
/-- a def by its meaning -/
abbrev Sem0 := List DV → Bxs → Option (DV × Bxs)
def norm : DV → DV
  | .lst ds => .dat (.list ds)
  | .dct b ds => .dcd b ds
  | v => v
theorem RV.norm {ρ : List Addr} {H0 H : Hp} {v : V} {dv : DV} (r : RV K ρ H0 H v dv) : RV K ρ H H v (norm dv) := by
  cases r with
  | dat r => exact .dat r
  | lst a b n r => exact .dat (.lst (.inl ⟨n, .inl b⟩) r)
  | box e hl => exact .box e hl
  | dct a n dc => exact .dcd n dc
  | dbx e hl => exact .dbx e hl
  | dcd n dc => exact .dcd n dc
  | fnc q => exact .fnc q
theorem RVs.norm {ρ : List Addr} {H0 H : Hp} : ∀ {vs : List V} {dvs : List DV}, RVs K ρ H0 H vs dvs → RVs K ρ H H vs (dvs.map DL.norm)
  | _, _, .nil => .nil
  | _, _, .cons a b => .cons a.norm (RVs.norm b)
def spD (K : PySem.W.Frag) (n : Nat) (sem : Sem0) : Sp := fun vs H Q _ => vs.length = n ∧ ∃ ρ S dvs dv S', StOk K ρ H S ∧ RVs K ρ H H vs dvs ∧ sem dvs S = some (dv, S') ∧ ∀ v H', Val K ρ H H' S' v dv → Ext K ρ H ρ H' → Q v H'
def fCall (n : Nat) (sem : Sem0) (fr : FA) : FE := fun ε S => match fr ε S with
  | some (xs, S1) => if xs.length = n then sem (xs.map norm) S1 else none
  | none => none
theorem RVs.length {ρ : List Addr} {H0 H : Hp} : ∀ {vs : List V} {dvs : List DV}, RVs K ρ H0 H vs dvs → vs.length = dvs.length
  | _, _, .nil => rfl
  | _, _, .cons _ b => by simp [RVs.length b]
theorem de_call {CX : CXT} {k n : Nat} {f : Addr} {fd : FuncData} {ps : List Str} {sem : Sem0} {E : XK} (F : FnOk X.prog X.w X.K X.mg X.base CX k f fd ps (spD X.K n sem)) (hr : Room k X.A) (hg : Gl X x) (hm : X.mg x = some (.ref f)) (hk : PySem.W.keepIn X.K (.ref f) = true) (hb : Binds X.K fd ps []) (hx : Passes CX X E)
    (ha : DA X (e :: es) fr) (hdb : (x == ("__debug__" : Str)) = false := by decide) (he : starEach (e :: es) X.env = (false, eval e X.env) :: starEach es X.env := by rfl) (hpl : (backTo pos (starEach es X.env)).any (·.1) = false := by rfl) :
    DE X (.Call (.Name x p) (e :: es) [] pos) (fCall n sem fr) := ⟨PE.imp (pe_call (dvs := []) F hr hg hm hk hb .nil hx ha.pa hdb he hpl) fun σ H Q ⟨ρ, ε, S, dv, S', M, h, k⟩ => by
  unfold fCall at h
  split at h
  · rename_i xs S1 h1
    split at h
    · rename_i hn
      refine ⟨ρ, ε, S, xs, S1, M, h1, fun vs H1 st1 r1 x1 => ?_⟩
      show spD X.K n sem (vs ++ []) H1 _ E
      rw [List.append_nil]
      refine ⟨by rw [r1.length]; exact hn, ρ, S1, _, dv, S', st1, r1.norm, h, fun v H2 v2 x2 => ?_⟩
      exact k v H2 (v2.back fun p q => x1.free q) (x1.trans x2)
    · cases h
  · cases h⟩
/-! ### and, or, not, if else, chains -/
def fAnd (fa fb : FE) : FE := fun ε S => match fa ε S with
  | some (.dat (.bool true), S1) => fb ε S1
  | some (.dat (.bool false), S1) => some (.dat (.bool false), S1)
  | _ => none
def fNot (fa : FE) : FE := fun ε S => match fa ε S with
  | some (.dat (.bool b), S1) => some (.dat (.bool (!b)), S1)
  | _ => none
variable {rest : List Expr}
theorem de_one {op : BoolOp} {f : FE} (h : DE X a f) : DE X (.BoolOp op [a] pos) f := ⟨pe_one h.pe⟩
theorem de_and (ha : DE X a fa) (hb : DE X (.BoolOp .And (b :: rest) pos) fb) : DE X (.BoolOp .And (a :: b :: rest) pos) (fAnd fa fb) := ⟨PE.imp (pe_and ha.pe hb.pe) fun σ H Q ⟨ρ, ε, S, dv, S', M, h, k⟩ => by
  unfold fAnd at h
  split at h
  · rename_i S1 h1
    refine ⟨ρ, ε, S, _, S1, M, h1, fun v H1 ⟨st1, r1, _⟩ x1 => ⟨true, rd_bool (S := S1) r1 rfl, ?_⟩⟩
    rw [if_pos rfl]
    exact ⟨ρ, ε, S1, dv, S', M.next x1 st1, h, fun w H2 v2 x2 => k w H2 (v2.back fun p q => x1.free q) (x1.trans x2)⟩
  · rename_i S1 h1
    cases h
    refine ⟨ρ, ε, S, _, S', M, h1, fun v H1 ⟨st1, r1, _⟩ x1 => ⟨false, rd_bool (S := S') r1 rfl, ?_⟩⟩
    rw [if_neg Bool.false_ne_true]
    exact k _ H1 (.dat st1 (.bl false)) x1
  · cases h⟩
theorem de_not (ha : DE X a fa) : DE X (.UnaryOp .Not a pos) (fNot fa) := ⟨PE.imp (pe_not ha.pe) fun σ H Q ⟨ρ, ε, S, dv, S', M, h, k⟩ => by
  unfold fNot at h
  split at h
  · rename_i b' S1 h1
    cases h
    exact ⟨ρ, ε, S, _, S', M, h1, fun v H1 ⟨st1, r1, _⟩ x1 => ⟨b', rd_bool (S := S') r1 rfl, k _ H1 (.dat st1 (.bl _)) x1⟩⟩
  · cases h⟩
/-- a < b < c, whole numbers -/
def fChain (g g' : Int → Int → Bool) (fa fb fc : FE) : FE := fun ε S => match fa ε S with
  | some (x, S1) => (match fb ε S1 with
    | some (y, S2) => (match rd S2 x, rd S2 y with
      | some (.int i), some (.int j) => if g i j = true then (match fc ε S2 with
          | some (z, S3) => (match rd S3 z with
            | some (.int l) => some (.dat (.bool (g' j l)), S3)
            | _ => none)
          | none => none) else some (.dat (.bool false), S2)
      | _, _ => none)
    | none => none)
  | none => none
theorem de_chain {op op' : CmpOp} {g g' : Int → Int → Bool} (ho : OpR X (compareOp op) (rI0 fun i j => .bl (g i j))) (ho' : OpR X (compareOp op') (rI0 fun i j => .bl (g' i j))) (ha : DE X a fa) (hb : DE X b fb) (hc : DE X c fc)
    (hm : lastMarks [op, op'] [b, c] = false := by with_unfolding_all rfl) : DE X (.Compare a [op, op'] [b, c] pos) (fChain g g' fa fb fc) := ⟨PE.imp (pe_chain ho ho' ha.pe hb.pe hc.pe hm) fun σ H Q ⟨ρ, ε, S, dv, S', M, h, k⟩ => by
  unfold fChain at h
  split at h
  · rename_i x S1 h1
    split at h
    · rename_i y S2 h2
      refine bin_tD M h1 h2 fun v u H2 st r1 r2 x2 => ?_
      split at h
      · rename_i i j e1 e2
        refine ⟨i, j, rd_int r1 e1, rd_int r2 e2, g i j, rfl, ?_⟩
        by_cases hg : g i j = true
        · rw [if_pos hg] at h ⊢
          split at h
          · rename_i z S3 h3
            split at h
            · rename_i l e3
              cases h
              refine ⟨ρ, ε, S2, z, _, M.next x2 st, h3, fun w H3 ⟨st3, r3, _⟩ x3 => ?_⟩
              refine ⟨j, l, rd_int r2 e2, rd_int r3 e3, ?_⟩
              exact k _ H3 (.dat st3 (.bl _)) (x2.trans x3)
            · cases h
          · cases h
        · rw [if_neg hg] at h ⊢
          cases h
          exact k _ H2 (.dat st (.bl false)) x2
      · cases h
    · cases h
  · cases h⟩
/-! ### tests -/
abbrev FT := DEnv → Bxs → Option (Bool × Bxs)
def tDT (K : PySem.W.Frag) (f : FT) : TT := fun σ H Q => ∃ ρ ε S b S', Sim K ρ ε S σ H ∧ f ε S = some (b, S') ∧ ∀ H', StOk K ρ H' S' → Ext K ρ H ρ H' → Q b H'
structure DT (X : Cx) (e : Expr) (f : FT) : Prop where
  pt : PT X e (tDT X.K f)
structure DW (X : Cx) (e : Expr) (f : FT) : Prop where
  pw : PW X e (tDT X.K f)
theorem PT.imp {X : Cx} {e : Expr} {t t' : TT} (h : PT X e t) (k : ∀ σ H Q, t' σ H Q → t σ H Q) : PT X e t' := by
  intro pins s σ H Q I hq
  exact h pins s σ H Q I (k σ H Q hq)
theorem PW.imp {X : Cx} {e : Expr} {t t' : TT} (h : PW X e t) (k : ∀ σ H Q, t' σ H Q → t σ H Q) : PW X e t' := by
  intro wh pins s σ H Q I hq
  exact h wh pins s σ H Q I (k σ H Q hq)
/-- a value's truth -/
def tru : D → Option Bool
  | .none => some false
  | .bool b => some b
  | .int i => some (i != 0)
  | .list ds => some (!ds.isEmpty)
  | .tuple ds => some (!ds.isEmpty)
  | .str _ | .dict _ => none
def fTru (fa : FE) : FT := fun ε S => match fa ε S with
  | some (x, S1) => (match rd S1 x with
    | some d => (match tru d with
      | some b => some (b, S1)
      | none => none)
    | none => none)
  | none => none
theorem empty_len {α β : Type} {xs : List α} {ys : List β} (h : xs.length = ys.length) : xs.isEmpty = ys.isEmpty := by
  cases xs <;> cases ys <;> simp_all
theorem dt_truth (ha : DE X a fa) (he : ∀ whole, isTrue a X.env whole = (do let v ← whole; standAt a.pos; holding [v] (truthy v)) := by intro _; rfl) : DT X a (fTru fa) := ⟨PT.imp (pt_truth ha.pe he) fun σ H Q ⟨ρ, ε, S, b, S', M, h, k⟩ => by
  unfold fTru at h
  split at h
  · rename_i x S1 h1
    split at h
    · rename_i d e1
      split at h
      · rename_i b' e2
        cases h
        refine ⟨ρ, ε, S, x, S', M, h1, fun v H1 ⟨st1, r1, _⟩ x1 => ⟨b, ?_, k H1 st1 x1⟩⟩
        cases d with
        | none => cases e2; rw [rd_none r1 e1]; rfl
        | bool c => cases e2; rw [rd_bool r1 e1]; rfl
        | int i => cases e2; rw [rd_int r1 e1]; rfl
        | list ds =>
          cases e2
          obtain ⟨p, xs, rfl, hq, rr⟩ := rd_lst st1 r1 e1
          exact .inl ⟨xs, hq, by rw [empty_len rr.length]⟩
        | tuple ds =>
          cases e2
          obtain ⟨p, xs, rfl, hq, rr⟩ := rd_tup r1 e1
          exact .inr (.inl ⟨xs, hq, by rw [empty_len rr.length]⟩)
        | str _ => cases e2
        | dict _ => cases e2
      · cases h
    · cases h
  · cases h⟩
/-- a comparison: True or False, nothing is made -/
def OpB (K : PySem.W.Frag) (r : R2) (g : Bxs → DV → DV → Option Bool) : Prop :=
  ∀ (ρ : List Addr) (S : Bxs) (H0 H : Hp) (v u : V) (x y : DV) (b : Bool) (Q : VK), StOk K ρ H S → RV K ρ H0 H v x → RV K ρ H0 H u y → g S x y = some b → Q (.bl b) H → r v u H Q
def gB (g : Bxs → DV → DV → Option Bool) : Bxs → DV → DV → Option DV := fun S x y => match g S x y with
  | some b => some (.dat (.bool b))
  | none => none
theorem OpB.op2 {r : R2} {g : Bxs → DV → DV → Option Bool} (O : OpB K r g) : Op2 K r (gB g) := by
  intro ρ S H0 H v u x y dv Q st fr r1 r2 h k
  unfold gB at h
  split at h
  · rename_i b e
    cases h
    exact O ρ S H0 H v u x y b _ st r1 r2 e (same_end st (.bl b) k)
  · cases h
theorem de_cmpB {op : CmpOp} {r : R2} {g : Bxs → DV → DV → Option Bool} (ho : OpR X (compareOp op) r) (O : OpB X.K r g) (ha : DE X a fa) (hb : DE X b fb) (hm : behindInMarks op b = false) : DE X (.Compare a [op] [b] pos) (fOp2 (gB g) fa fb) := de_cmp ho O.op2 ha hb hm
def fCmpT (g : Bxs → DV → DV → Option Bool) (fa fb : FE) : FT := fun ε S => match fa ε S with
  | some (x, S1) => (match fb ε S1 with
    | some (y, S2) => (match g S2 x y with
      | some b => some (b, S2)
      | none => none)
    | none => none)
  | none => none
theorem dt_cmp {op : CmpOp} {r : R2} {g : Bxs → DV → DV → Option Bool} (ho : OpR X (compareOp op) r) (O : OpB X.K r g) (ha : DE X a fa) (hb : DE X b fb) (hm : behindInMarks op b = false) : DT X (.Compare a [op] [b] pos) (fCmpT g fa fb) := ⟨PT.imp (pt_cmpR ho ha.pe hb.pe hm) fun σ H Q ⟨ρ, ε, S, b, S', M, h, k⟩ => by
  unfold fCmpT at h
  split at h
  · rename_i x S1 h1
    split at h
    · rename_i y S2 h2
      split at h
      · rename_i b' e
        cases h
        refine bin_tD M h1 h2 fun v u H2 st r1 r2 x2 => ?_
        exact O ρ _ H H2 v u x y b _ st r1 r2 e ⟨b, rfl, k H2 st x2⟩
      · cases h
    · cases h
  · cases h⟩
def fNotT (ft : FT) : FT := fun ε S => match ft ε S with
  | some (b, S1) => some (!b, S1)
  | none => none
def fAndT (ft fu : FT) : FT := fun ε S => match ft ε S with
  | some (true, S1) => fu ε S1
  | some (false, S1) => some (false, S1)
  | none => none
def fOrT (ft fu : FT) : FT := fun ε S => match ft ε S with
  | some (false, S1) => fu ε S1
  | some (true, S1) => some (true, S1)
  | none => none
variable {ft fu : FT}
theorem dt_not (ha : DT X a ft) : DT X (.UnaryOp .Not a pos) (fNotT ft) := ⟨PT.imp (pt_not ha.pt) fun σ H Q ⟨ρ, ε, S, b, S', M, h, k⟩ => by
  unfold fNotT at h
  split at h
  · rename_i b' S1 h1
    cases h
    exact ⟨ρ, ε, S, b', _, M, h1, fun H1 st1 x1 => k H1 st1 x1⟩
  · cases h⟩
theorem dw_and1 (ha : DT X a ft) : DW X (.BoolOp .And [a] pos) ft := ⟨pw_and1 ha.pt⟩
theorem dw_or1 (ha : DT X a ft) : DW X (.BoolOp .Or [a] pos) ft := ⟨pw_or1 ha.pt⟩
theorem dw_and (ha : DT X a ft) (hb : DW X (.BoolOp .And (b :: rest) pos) fu) : DW X (.BoolOp .And (a :: b :: rest) pos) (fAndT ft fu) := ⟨PW.imp (pw_and ha.pt hb.pw) fun σ H Q ⟨ρ, ε, S, b, S', M, h, k⟩ => by
  unfold fAndT at h
  split at h
  · rename_i S1 h1
    refine ⟨ρ, ε, S, _, S1, M, h1, fun H1 st1 x1 => ?_⟩
    dsimp only
    rw [if_pos rfl]
    exact ⟨ρ, ε, S1, b, S', M.next x1 st1, h, fun H2 st2 x2 => k H2 st2 (x1.trans x2)⟩
  · rename_i S1 h1
    cases h
    refine ⟨ρ, ε, S, _, S', M, h1, fun H1 st1 x1 => ?_⟩
    dsimp only
    rw [if_neg Bool.false_ne_true]
    exact k H1 st1 x1
  · cases h⟩
theorem dw_or (ha : DT X a ft) (hb : DW X (.BoolOp .Or (b :: rest) pos) fu) : DW X (.BoolOp .Or (a :: b :: rest) pos) (fOrT ft fu) := ⟨PW.imp (pw_or ha.pt hb.pw) fun σ H Q ⟨ρ, ε, S, b, S', M, h, k⟩ => by
  unfold fOrT at h
  split at h
  · rename_i S1 h1
    refine ⟨ρ, ε, S, _, S1, M, h1, fun H1 st1 x1 => ?_⟩
    dsimp only
    rw [if_neg Bool.false_ne_true]
    exact ⟨ρ, ε, S1, b, S', M.next x1 st1, h, fun H2 st2 x2 => k H2 st2 (x1.trans x2)⟩
  · rename_i S1 h1
    cases h
    refine ⟨ρ, ε, S, _, S', M, h1, fun H1 st1 x1 => ?_⟩
    dsimp only
    rw [if_pos rfl]
    exact k H1 st1 x1
  · cases h⟩
theorem DW.dt {e : Expr} (h : DW X e ft) : DT X e ft := ⟨h.pw.pt⟩
def fIf (ft : FT) (fa fb : FE) : FE := fun ε S => match ft ε S with
  | some (true, S1) => fa ε S1
  | some (false, S1) => fb ε S1
  | none => none
theorem de_if (hc : DT X c ft) (ha : DE X a fa) (hb : DE X b fb) : DE X (.IfExp c a b pos) (fIf ft fa fb) := ⟨PE.imp (pe_ifExp hc.pt ha.pe hb.pe) fun σ H Q ⟨ρ, ε, S, dv, S', M, h, k⟩ => by
  unfold fIf at h
  split at h
  · rename_i S1 h1
    refine ⟨ρ, ε, S, _, S1, M, h1, fun H1 st1 x1 => ?_⟩
    dsimp only
    rw [if_pos rfl]
    exact ⟨ρ, ε, S1, dv, S', M.next x1 st1, h, fun w H2 v2 x2 => k w H2 (v2.back fun p q => x1.free q) (x1.trans x2)⟩
  · rename_i S1 h1
    refine ⟨ρ, ε, S, _, S1, M, h1, fun H1 st1 x1 => ?_⟩
    dsimp only
    rw [if_neg Bool.false_ne_true]
    exact ⟨ρ, ε, S1, dv, S', M.next x1 st1, h, fun w H2 v2 x2 => k w H2 (v2.back fun p q => x1.free q) (x1.trans x2)⟩
  · cases h⟩
end
/-! ### comparisons -/
def bI (f : Int → Int → Bool) : Bxs → DV → DV → Option Bool := fun S x y => match rd S x, rd S y with
  | some (.int i), some (.int j) => some (f i j)
  | _, _ => none
theorem opb_int {f : Int → Int → Bool} : OpB K (rI0 fun i j => .bl (f i j)) (bI f) := by
  intro ρ S H0 H v u x y b Q st r1 r2 h k
  unfold bI at h
  split at h
  · rename_i i j e1 e2
    cases h
    exact ⟨i, j, rd_int r1 e1, rd_int r2 e2, k⟩
  · cases h
def bEq : Bxs → DV → DV → Option Bool := fun S x y => match rd S x, rd S y with
  | some d, some e => if (SeqAt.shaped d && SeqAt.shaped e) = true then some (PyData.eqv d e) else none
  | _, _ => none
def bNe : Bxs → DV → DV → Option Bool := fun S x y => match rd S x, rd S y with
  | some d, some e => if (SeqAt.shaped d && SeqAt.shaped e) = true then some (!PyData.eqv d e) else none
  | _, _ => none
theorem opb_eq : OpB K (rEqD K) bEq := by
  intro ρ S H0 H v u x y b Q st r1 r2 h k
  unfold bEq at h
  split at h
  · rename_i d e e1 e2
    split at h
    · rename_i hc
      cases h
      rw [Bool.and_eq_true] at hc
      exact ⟨d, e, rd_dp st r1 e1 (SeqAt.canLay_of_shaped hc.1), rd_dp st r2 e2 (SeqAt.canLay_of_shaped hc.2), hc.1, hc.2, k⟩
    · cases h
  · cases h
theorem opb_ne : OpB K (rNeD K) bNe := by
  intro ρ S H0 H v u x y b Q st r1 r2 h k
  unfold bNe at h
  split at h
  · rename_i d e e1 e2
    split at h
    · rename_i hc
      cases h
      rw [Bool.and_eq_true] at hc
      exact ⟨d, e, rd_dp st r1 e1 (SeqAt.canLay_of_shaped hc.1), rd_dp st r2 e2 (SeqAt.canLay_of_shaped hc.2), hc.1, hc.2, k⟩
    · cases h
  · cases h
end DL

set_option linter.all false
set_option maxRecDepth 100000
namespace DL
open PySem PySem.Spec L2
variable {K : PySem.W.Frag}
/-! ### targets -/
theorem wipe_set (σ : L2.St) (i : Nat) (v : Option V) : ∀ us : List Nat, i ∈ us → wipe (σ.set i v) us = wipe σ us
  | u :: us, h => by
    unfold wipe
    by_cases e : i ∈ us
    · rw [wipe_set σ i v us e]
    · have : i = u := (List.mem_cons.mp h).resolve_right e
      subst this
      have comm : ∀ (us : List Nat) (σ : L2.St), i ∉ us → wipe (σ.set i v) us = (wipe σ us).set i v := by
        intro us
        induction us with
        | nil => intro σ _; rfl
        | cons u us ih =>
          intro σ hn
          unfold wipe
          rw [ih σ (fun z => hn (List.mem_cons_of_mem _ z))]
          exact List.set_comm _ _ (fun z => hn (by rw [← z]; exact List.mem_cons_self))
      rw [comm us σ e, List.set_set]
theorem Sim.set {ρ : List Addr} {ε : DEnv} {S : Bxs} {σ : L2.St} {H : Hp} (M : Sim K ρ ε S σ H) {i : Nat} {v : V} {dv : DV} (r : RV K ρ H H v dv) : Sim K ρ (ε.set i (some dv)) S (σ.set i (some v)) H :=
  ⟨M.st, fun j d e => by
    by_cases q : j = i
    · subst q
      have hl : j < ε.length := by
        refine Classical.byContradiction fun z => ?_
        rw [List.getElem?_eq_none (by simpa using z)] at e; cases e
      rw [List.getElem?_set_self hl] at e
      cases e
      exact ⟨v, List.getElem?_set_self (by rw [← M.len]; exact hl), r⟩
    · rw [List.getElem?_set_ne (fun z => q z.symm)] at e
      obtain ⟨w, h1, h2⟩ := M.env j d e
      exact ⟨w, by rw [List.getElem?_set_ne (fun z => q z.symm)]; exact h1, h2⟩, by simp [M.len]⟩
abbrev FG := D → DEnv → Option DEnv
def tG (K : PySem.W.Frag) (h : FG) (is : List Nat) : TG := fun v σ H Q => ∃ ρ ε S d ε', Sim K ρ ε S σ H ∧ Rp K ρ H v d ∧ h d ε = some ε' ∧ ∀ σ', Sim K ρ ε' S σ' H → (∀ us : List Nat, (∀ i ∈ is, i ∈ us) → wipe σ' us = wipe σ us) → Q σ' H
structure DG (X : Cx) (tg : Expr) (h : FG) (is : List Nat) : Prop where
  pg : PG X tg (tG X.K h is)
abbrev FGs := List D → DEnv → Option DEnv
def tGs (K : PySem.W.Frag) (h : FGs) (is : List Nat) : TGs := fun vs σ H Q => ∃ ρ ε S ds ε', Sim K ρ ε S σ H ∧ RpA K ρ H vs ds ∧ h ds ε = some ε' ∧ ∀ σ', Sim K ρ ε' S σ' H → (∀ us : List Nat, (∀ i ∈ is, i ∈ us) → wipe σ' us = wipe σ us) → Q σ' H
structure DGs (X : Cx) (tgs : List Expr) (h : FGs) (is : List Nat) : Prop where
  pgs : PGs X tgs (tGs X.K h is)
def hName (i : Nat) : FG := fun d ε => some (ε.set i (some (.dat d)))
def hNil : FGs := fun ds ε => match ds with
  | [] => some ε
  | _ => none
def hCons (h : FG) (hs : FGs) : FGs := fun ds ε => match ds with
  | d :: ds => (match h d ε with
    | some ε1 => hs ds ε1
    | none => none)
  | [] => none
def hTup (n : Nat) (hs : FGs) : FG := fun d ε => match d with
  | .tuple ds => if ds.length = n then hs ds ε else none
  | _ => none
section
variable {X : Cx} {pos : Pos}
theorem dg_name {i : Nat} {x : Str} (hN : X.N.Nodup) (hi : X.N[i]? = some x) (hx : Loc X.env.scope x) (hf : X.fn x = true ∨ X.env.scope.names.lookup x = some .local := by first | exact .inl rfl | exact .inr rfl | assumption) : DG X (.Name x pos) (hName i) [i] :=
  ⟨fun pins s σ H v u Q I r ⟨ρ, ε, S, d, ε', M, rp, h, k⟩ => pg_name hN hi hx hf pins s σ H v u Q I r (by
    unfold hName at h; cases h
    exact k _ (M.set (.dat rp)) fun us hu => wipe_set _ _ _ us (hu i (by simp)))⟩
theorem dgs_nil : DGs X [] hNil [] := ⟨fun pins s σ H vs us Q I r ⟨ρ, ε, S, ds, ε', M, rp, h, k⟩ => pgs_nil pins s σ H vs us Q I r (by
    cases rp with
    | nil => cases h; exact ⟨rfl, k σ M fun _ _ => rfl⟩
    | cons _ _ => cases h)⟩
theorem dgs_cons {e : Expr} {es : List Expr} {h : FG} {hs : FGs} {is js : List Nat} (h1 : DG X e h is) (h2 : DGs X es hs js)
    (hq : (assignEach (e :: es) X.env).map (·.2) = assign e X.env :: (assignEach es X.env).map (·.2) := by rfl) : DGs X (e :: es) (hCons h hs) (is ++ js) :=
  ⟨fun pins s σ H vs us Q I r ⟨ρ, ε, S, ds, ε', M, rp, hh, k⟩ => pgs_cons h1.pg h2.pgs hq pins s σ H vs us Q I r (by
    cases rp with
    | nil => cases hh
    | @cons v vs d ds a b =>
      unfold hCons at hh
      dsimp only at hh
      split at hh
      · rename_i ε1 e1
        refine ⟨v, vs, rfl, ρ, ε, S, d, ε1, M, a, e1, fun σ1 M1 w1 => ?_⟩
        refine ⟨ρ, ε1, S, ds, ε', M1, b, hh, fun σ2 M2 w2 => ?_⟩
        exact k σ2 M2 fun us hu => (w2 us fun i hi => hu i (List.mem_append_right _ hi)).trans (w1 us fun i hi => hu i (List.mem_append_left _ hi))
      · cases hh)⟩
theorem dg_tup {es : List Expr} {k : Nat} {hs : FGs} {is : List Nat} {n : Nat} (hc : X.calm = true) (h : DGs X es hs is)
    (hn : (assignEach es X.env).length = n := by rfl) (hst : (assignEach es X.env).findIdx? (·.1) = none := by rfl) : DG X (.Tuple es k pos) (hTup n hs) is :=
  ⟨fun pins s σ H v u Q I r ⟨ρ, ε, S, d, ε', M, rp, hh, kk⟩ => pg_tup hc h.pgs hn hst pins s σ H v u Q I r (by
    unfold hTup at hh
    split at hh
    · rename_i ds
      split at hh
      · rename_i hl
        cases rp with
        | @tup a xs _ q rr => exact ⟨a, xs, rfl, q, by rw [rr.length]; exact hl, ρ, ε, S, ds, ε', M, rr, hh, kk⟩
      · cases hh
    · cases hh)⟩
end
/-! ### what a loop walks -/
abbrev FI := DEnv → Bxs → Option (List D × Bxs)
/-- J yields ds, one behind the other, as long as the heap goes on -/
def ItOk (K : PySem.W.Frag) (ρ : List Addr) (H : Hp) (J : It) (ds : List D) : Prop := ∀ (i : Nat) (ρ' : List Addr) (H' : Hp), Ext K ρ H ρ' H' →
  (ds.length ≤ i → J.stop i H') ∧ (i < ds.length → J.go i H' ∧ ∀ x H'', J.yld i H' x H'' → H'' = H' ∧ ∃ d, ds[i]? = some d ∧ Rp K ρ' H' x d)
def tDI (K : PySem.W.Frag) (f : FI) : TI := fun σ H R => ∃ ρ ε S ds S', Sim K ρ ε S σ H ∧ f ε S = some (ds, S') ∧ ∀ J H', StOk K ρ H' S' → Ext K ρ H ρ H' → ItOk K ρ H' J ds → R J H'
structure DI (X : Cx) (tg iter : Expr) (f : FI) : Prop where
  pi : PI X tg iter (tDI X.K f)
theorem PI.imp {X : Cx} {tg e : Expr} {t t' : TI} (h : PI X tg e t) (k : ∀ σ H Q, t' σ H Q → t σ H Q) : PI X tg e t' := fun pins s σ H Q I hq => h pins s σ H Q I (k σ H Q hq)
/-- a list or a tuple -/
def iSeq (K : PySem.W.Frag) (tl : TE) : TI := fun σ H R => tl σ H fun x H1 => ∃ a, x = .ref a ∧ (((∃ xs, SqL K H1 a xs) ∧ R (Itl K a) H1) ∨ ((∃ xs, SqT K H1 a xs) ∧ R (Itt K a) H1))
theorem pi_seq {X : Cx} {tg l : Expr} {tl : TE} (hl : PE X l tl) : PI X tg l (iSeq X.K tl) := by
  intro pins s σ H R I h
  refine thn (hl pins s σ H _ I h) fun v s1 ⟨x, H1, I1, r1, q1⟩ => ?_
  obtain ⟨a, e, q1⟩ := q1
  subst e
  cases r1
  rcases q1 with ⟨⟨xs, hq⟩, q⟩ | ⟨⟨xs, hq⟩, q⟩
  · obtain ⟨its, rv, p, hz⟩ := I1.list hq
    refine wpAny_pyIter_list p.isList ?_
    refine ⟨s1.heap.objs.size, [s1.heap.objs.size], _, _, H1, rfl, I1.kept (t' := s1.toks) fun b o e => Heap.get?_push_of_some _ e, turn_list a _, ⟨_, Heap.get?_push_size _ rfl, rfl, rfl⟩, fun b hb => ?_, q⟩
    have e : b = s1.heap.objs.size := by simpa using hb
    subst e
    exact I1.fpOk (Nat.le_refl _) (I1.hok.fresh (Nat.le_refl _))
  · obtain ⟨its, rv, p, hz⟩ := I1.tuple hq
    refine wpAny_pyIter_tuple (show s1.heap.IsTuple a its.toArray from p) ?_
    refine ⟨s1.heap.objs.size, [s1.heap.objs.size], _, _, H1, rfl, I1.kept (t' := s1.toks) fun b o e => Heap.get?_push_of_some _ e, turn_tuple a _, ⟨_, Heap.get?_push_size _ rfl, rfl, rfl⟩, fun b hb => ?_, q⟩
    have e : b = s1.heap.objs.size := by simpa using hb
    subst e
    exact I1.fpOk (Nat.le_refl _) (I1.hok.fresh (Nat.le_refl _))
def seqD : D → Option (List D)
  | .list ds => some ds
  | .tuple ds => some ds
  | _ => none
def iD (fa : FE) : FI := fun ε S => match fa ε S with
  | some (x, S1) => (match toD x with
    | some d => (match seqD d with
      | some ds => some (ds, S1)
      | none => none)
    | none => none)
  | none => none
theorem itOk_list {ρ : List Addr} {H : Hp} {a : Addr} {xs : List V} {ds : List D} (bx : Bx ρ H) (q : SqN K ρ H a xs) (r : RpA K ρ H xs ds) : ItOk K ρ H (Itl K a) ds := fun i ρ' H' x => by
  have q' := (x.sqN q).sqL
  have r' := RpA.keep x bx _ _ r
  refine ⟨fun h => ⟨xs, q', by rw [r.length]; exact h⟩, fun h => ?_⟩
  have hd : ds[i]? = some ds[i] := List.getElem?_eq_getElem h
  obtain ⟨v, h1, h2⟩ := r'.get hd
  refine ⟨⟨xs, v, q', h1⟩, fun y H'' hy => ⟨hy.1, ds[i], hd, ?_⟩⟩
  have := hy.2 xs q'
  rw [h1] at this; cases this
  exact h2
theorem itOk_tup {ρ : List Addr} {H : Hp} {a : Addr} {xs : List V} {ds : List D} (bx : Bx ρ H) (q : SqT K H a xs) (r : RpA K ρ H xs ds) : ItOk K ρ H (Itt K a) ds := fun i ρ' H' x => by
  have q' := x.sqT bx q
  have r' := RpA.keep x bx _ _ r
  refine ⟨fun h => ⟨xs, q', by rw [r.length]; exact h⟩, fun h => ?_⟩
  have hd : ds[i]? = some ds[i] := List.getElem?_eq_getElem h
  obtain ⟨v, h1, h2⟩ := r'.get hd
  refine ⟨⟨xs, v, q', h1⟩, fun y H'' hy => ⟨hy.1, ds[i], hd, ?_⟩⟩
  have := hy.2 xs q'
  rw [h1] at this; cases this
  exact h2
def nums (lo : Int) (n : Nat) : List D := (List.range n).map fun (i : Nat) => PyData.int (lo + (i : Int))
theorem itOk_range {ρ : List Addr} {H : Hp} (lo : Int) (n : Nat) : ItOk K ρ H (Itr lo n) (nums lo n) := fun i ρ' H' x => by
  have hl : (nums lo n).length = n := by simp [nums]
  rw [hl]
  refine ⟨fun h => h, fun h => ⟨h, fun y H'' hy => ⟨hy.1, .int (lo + i), by simp [nums, h], ?_⟩⟩⟩
  rw [hy.2]; exact .int _
section
variable {X : Cx} {tg l : Expr} {fa fb : FE} {fr : FA} {p pos : Pos}
theorem di_seq (hl : DE X l fa) : DI X tg l (iD fa) := ⟨PI.imp (pi_seq hl.pe) fun σ H R ⟨ρ, ε, S, ds, S', M, h, k⟩ => by
  unfold iD at h
  split at h
  · rename_i x S1 h1
    split at h
    · rename_i d h2
      split at h
      · rename_i ds' h3
        cases h
        refine ⟨ρ, ε, S, x, S', M, h1, fun v H1 ⟨st1, r1, _⟩ x1 => ?_⟩
        have rp := toD_ok r1 h2
        cases d with
        | list es =>
          cases h3
          cases rp with
          | @lst a xs _ q r => exact ⟨a, rfl, .inl ⟨⟨xs, q.sqL⟩, k _ H1 st1 x1 (itOk_list st1.bx q r)⟩⟩
        | tuple es =>
          cases h3
          cases rp with
          | @tup a xs _ q r => exact ⟨a, rfl, .inr ⟨⟨xs, q⟩, k _ H1 st1 x1 (itOk_tup st1.bx q r)⟩⟩
        | _ => cases h3
      · cases h
    · cases h
  · cases h⟩
def okI (i : Int) : Bool := decide (-(2 ^ 62) ≤ i ∧ i < 2 ^ 62)
def iRange1 (fr : FA) : FI := fun ε S => match fr ε S with
  | some ([x], S1) => (match rd S1 x with
    | some (.int j) => if okI j = true then some (nums 0 j.toNat, S1) else none
    | _ => none)
  | _ => none
def iRange2 (fr : FA) : FI := fun ε S => match fr ε S with
  | some ([x, y], S1) => (match rd S1 x, rd S1 y with
    | some (.int i), some (.int j) => if (okI i && okI j) = true then some (nums i (j - i).toNat, S1) else none
    | _, _ => none)
  | _ => none
theorem di_range1 {a : Expr} (hg : Gl X "range") (hm : X.mg "range" = none) (ha : DA X [a] fr) (hs : starEach [a] X.env = [(false, eval a X.env)] := by rfl) : DI X tg (.Call (.Name "range" p) [a] [] pos) (iRange1 fr) := ⟨PI.imp (pi_range1 hg hm ha.pa hs) fun σ H R ⟨ρ, ε, S, ds, S', M, h, k⟩ => by
  unfold iRange1 at h
  split at h
  · rename_i x S1 h1
    split at h
    · rename_i j e1
      split at h
      · rename_i hc
        cases h
        have hc := of_decide_eq_true hc
        refine ⟨ρ, ε, S, _, S', M, h1, fun vs H1 st1 r1 x1 => ?_⟩
        cases r1 with
        | cons r1 r2 =>
          cases r2
          exact ⟨j, by rw [rd_int r1 e1], hc.1, hc.2, k _ H1 st1 x1 (itOk_range 0 _)⟩
      · cases h
    · cases h
  · cases h⟩
theorem di_range2 {a b : Expr} (hg : Gl X "range") (hm : X.mg "range" = none) (ha : DA X [a, b] fr) (hs : starEach [a, b] X.env = [(false, eval a X.env), (false, eval b X.env)] := by rfl) (hs2 : starEach [b] X.env = [(false, eval b X.env)] := by rfl) : DI X tg (.Call (.Name "range" p) [a, b] [] pos) (iRange2 fr) := ⟨PI.imp (pi_range2 hg hm ha.pa hs hs2) fun σ H R ⟨ρ, ε, S, ds, S', M, h, k⟩ => by
  unfold iRange2 at h
  split at h
  · rename_i x y S1 h1
    split at h
    · rename_i i j e1 e2
      split at h
      · rename_i hc
        cases h
        rw [Bool.and_eq_true] at hc
        have c1 := of_decide_eq_true hc.1
        have c2 := of_decide_eq_true hc.2
        refine ⟨ρ, ε, S, _, S', M, h1, fun vs H1 st1 r1 x1 => ?_⟩
        cases r1 with
        | cons r1 r2 =>
          cases r2 with
          | cons r2 r3 =>
            cases r3
            exact ⟨i, j, by rw [rd_int r1 e1, rd_int r2 e2], ⟨c1.1, c1.2, c2.1, c2.2⟩, k _ H1 st1 x1 (itOk_range i _)⟩
      · cases h
    · cases h
  · cases h⟩
end
end DL

set_option linter.all false
set_option maxRecDepth 100000
namespace DL
open PySem PySem.Spec L2
variable {K : PySem.W.Frag}
/-! ### weaker and stronger -/
mutual
theorem Rp.weak {ρ ρ' : List Addr} {H : Hp} (h : ∀ a ∈ ρ, a ∈ ρ') : ∀ (d : D) (v : V), Rp K ρ' H v d → Rp K ρ H v d
  | .none, _, r => by cases r; exact .non
  | .bool b, _, r => by cases r; exact .bl b
  | .int i, _, r => by cases r; exact .int i
  | .str s, _, r => by cases r; exact .str s
  | .list ds, _, r => by
    cases r with
    | lst q r =>
      refine .lst ?_ (RpA.weak h ds _ r)
      rcases q with ⟨n, q⟩ | q
      · exact .inl ⟨fun z => n (h _ z), q⟩
      · exact .inr q
  | .tuple ds, _, r => by cases r with | tup q r => exact .tup q (RpA.weak h ds _ r)
  | .dict _, _, r => by cases r with | dct n e => exact .dct (fun z => n (h _ z)) e
theorem RpA.weak {ρ ρ' : List Addr} {H : Hp} (h : ∀ a ∈ ρ, a ∈ ρ') : ∀ (ds : List D) (vs : List V), RpA K ρ' H vs ds → RpA K ρ H vs ds
  | [], _, r => by cases r; exact .nil
  | d :: ds, _, r => by cases r with | cons a b => exact .cons (Rp.weak h d _ a) (RpA.weak h ds _ b)
end
theorem RpE.weak {ρ ρ' : List Addr} {H : Hp} (h : ∀ a ∈ ρ, a ∈ ρ') : ∀ {vs : List (V × V)} {ds : List D}, RpE K ρ' H vs ds → RpE K ρ H vs ds
  | _, _, .nil => .nil
  | _, _, .cons a b c => .cons (Rp.weak h _ _ a) (Rp.weak h _ _ b) (RpE.weak h c)
theorem DcAt.weak {ρ ρ' : List Addr} {H : Hp} (h : ∀ a ∈ ρ, a ∈ ρ') {a : Addr} {b : Bool} {ds : List D} (q : DcAt K ρ' H a b ds) : DcAt K ρ H a b ds := by
  cases q with
  | k h1 h2 => exact .k h1 (h2.weak h)
  | w h1 h2 h3 h4 h5 h6 => exact .w h1 h2 h3 h4 (h5.weak h) h6
theorem StOk.drop {ρ : List Addr} {more : List Addr} {H : Hp} {S : Bxs} (st : StOk K (ρ ++ more) H S) : StOk K ρ H (S.take ρ.length) := by
  have hl := st.len
  rw [List.length_append] at hl
  refine ⟨by rw [List.length_take]; omega, (List.nodup_append.mp st.nd).1, fun k a e => ?_, st.tb⟩
  have hk := (List.getElem?_eq_some_iff.mp e).1
  obtain ⟨ds, e1, e2⟩ := st.at0 k a (by rw [List.getElem?_append_left hk]; exact e)
  refine ⟨ds, by rw [List.getElem?_take, if_pos hk]; exact e1, ?_⟩
  rcases e2 with ⟨xs, e2, e3⟩ | e2
  · exact .inl ⟨xs, e2, RpA.weak (fun a h => List.mem_append_left _ h) _ _ e3⟩
  · obtain ⟨b, e2⟩ := e2
    exact .inr ⟨b, e2.weak fun a h => List.mem_append_left _ h⟩
theorem Ext.drop {ρ more : List Addr} {H H' : Hp} (x : Ext K ρ H (ρ ++ more) H') : Ext K ρ H ρ H' := ⟨⟨[], by simp⟩, x.keep, x.box, fun _ h => .inl h, x.tab, x.tabr⟩
/-- a kept list gets another content -/
theorem Ext.put {ρ : List Addr} {H : Hp} {p : Addr} {o o0 : HO} (hp : p ∈ ρ) (h0 : H p = some o0) (hk : kd o = kd o0) (h2 : kd o0 ≤ 2 := by simp [kd]) : Ext K ρ H ρ (L2.upd H p o) :=
  ⟨⟨[], by simp⟩, fun a u e n _ => by rw [upd_ne (fun z : a = p => n (by rw [z]; exact hp))]; exact e, fun a u e _ => by
    by_cases z : a = p
    · subst z
      rw [h0] at e; cases e
      exact ⟨o, upd_same, hk⟩
    · exact ⟨u, by rw [upd_ne z]; exact e, rfl⟩, fun _ q => .inl q, fun a ps e => ⟨ps, by
    rw [upd_ne (fun z => by subst z; rw [h0] at e; cases e; simp [kd] at h2)]; exact e⟩, fun P q _ t => t.upd fun u e => by rw [h0] at e; cases e; exact h2⟩
theorem Ext.putL {ρ : List Addr} {H : Hp} {p : Addr} {xs : List V} (hp : p ∈ ρ) (hl : IsL H p) : Ext K ρ H ρ (L2.upd H p (.lst xs)) := by
  obtain ⟨ys, e⟩ := hl
  exact Ext.put hp e rfl
theorem StOk.put {ρ : List Addr} {H : Hp} {S : Bxs} (st : StOk K ρ H S) {k : Nat} {p : Addr} {xs : List V} {ds : List D} (hp : ρ[k]? = some p) (hl : IsL H p) (r : RpA K ρ H xs ds) : StOk K ρ (L2.upd H p (.lst xs)) (S.set k ds) := by
  have hm := List.mem_of_getElem? hp
  have hk := (List.getElem?_eq_some_iff.mp hp).1
  refine ⟨by simp [st.len], st.nd, fun j a e => ?_, fun P q t => (Ext.putL (K := K) (ρ := ρ) hm hl).tabr P q t (st.tb P q t)⟩
  by_cases z : j = k
  · subst z
    rw [hp] at e; cases e
    exact ⟨ds, List.getElem?_set_self (by rw [← st.len]; exact hk), .inl ⟨xs, upd_same, RpA.keep (Ext.putL hm hl) st.bx _ _ r⟩⟩
  · obtain ⟨es, e1, e2⟩ := st.at0 j a e
    have ne : a ≠ p := fun q => z ((List.getElem?_inj (List.getElem?_eq_some_iff.mp e).1 st.nd).mp (by rw [e, hp, q]))
    refine ⟨es, by rw [List.getElem?_set_ne (fun q => z q.symm)]; exact e1, ?_⟩
    rcases e2 with ⟨ys, e2, e3⟩ | e2
    · exact .inl ⟨ys, by rw [upd_ne ne]; exact e2, RpA.keep (Ext.putL hm hl) st.bx _ _ e3⟩
    · obtain ⟨b, e2⟩ := e2
      exact .inr ⟨b, e2.stay (Ext.putL hm hl) st.bx (upd_ne ne)⟩
/-! ### tests in a row -/
structure DTs (X : Cx) (ifs : List Expr) (f : FT) : Prop where
  pts : PTs X ifs (tDT X.K f)
def fYes : FT := fun _ S => some (true, S)
theorem dts_nil {X : Cx} : DTs X [] fYes := ⟨fun pins s σ H Q I ⟨ρ, ε, S, b, S', M, h, k⟩ => pts_nil pins s σ H Q I (by cases h; exact k H M.st (Ext.refl _ _))⟩
theorem dts_one {X : Cx} {c : Expr} {f : FT} (h : DT X c f) : DTs X [c] f := ⟨pts_one h.pt⟩
/-! ### comprehensions -/
def wipeE (ε : DEnv) : List Nat → DEnv
  | [] => ε
  | v :: vs => (wipeE ε vs).set v none
theorem Sim.wipe {ρ : List Addr} {ε : DEnv} {S : Bxs} {σ : L2.St} {H : Hp} (M : Sim K ρ ε S σ H) : ∀ vs : List Nat, Sim K ρ (wipeE ε vs) S (wipe σ vs) H
  | [] => M
  | u :: vs => by
    have ih := M.wipe vs
    refine ⟨M.st, fun i dv e => ?_, by unfold wipeE L2.wipe; simp [ih.len]⟩
    unfold wipeE at e
    by_cases q : i = u
    · subst q
      by_cases hl : i < (wipeE ε vs).length
      · rw [List.getElem?_set_self hl] at e; cases e
      · rw [List.getElem?_eq_none (by simpa using hl)] at e; cases e
    · rw [List.getElem?_set_ne (fun z => q z.symm)] at e
      obtain ⟨v, h1, h2⟩ := ih.env i dv e
      exact ⟨v, by unfold L2.wipe; rw [List.getElem?_set_ne (fun z => q z.symm)]; exact h1, h2⟩
/-- the turns: the new list is the box at n -/
theorem wipe_in {σ : L2.St} {i : Nat} : ∀ {vs : List Nat}, i ∈ vs → i < σ.length → (wipe σ vs)[i]? = some none
  | v :: vs, h, hl => by
    unfold L2.wipe
    by_cases q : v = i
    · subst q
      rw [List.getElem?_set_self (by rw [wipe_length]; exact hl)]
    · rw [List.getElem?_set_ne q]
      exact wipe_in ((List.mem_cons.mp h).resolve_left fun z => q z.symm) hl
theorem wipe_idem (σ : L2.St) (vs : List Nat) : wipe (wipe σ vs) vs = wipe σ vs := by
  apply List.ext_getElem?
  intro i
  by_cases h : i ∈ vs
  · by_cases hl : i < σ.length
    · rw [wipe_in h (by rw [wipe_length]; exact hl), wipe_in h hl]
    · rw [List.getElem?_eq_none (by rw [wipe_length, wipe_length]; omega), List.getElem?_eq_none (by rw [wipe_length]; omega)]
  · exact wipe_out h
def compD (hg : FG) (ft : FT) (fe : FE) (ε0 : DEnv) (n : Nat) : List D → Bxs → Option Bxs
  | [], T => some T
  | d :: ds, T => match hg d ε0 with
    | some ε1 => (match ft ε1 T with
      | some (true, T1) => (match fe ε1 T1 with
        | some (y, T2) => (match toD y, T2[n]? with
          | some dy, some acc => if small (acc.length + 1) = true then compD hg ft fe ε0 n ds (T2.set n (acc ++ [dy])) else none
          | _, _ => none)
        | none => none)
      | some (false, T1) => compD hg ft fe ε0 n ds T1
      | none => none)
    | none => none
def fComp (vs : List Nat) (fi : FI) (hg : FG) (ft : FT) (fe : FE) : FE := fun ε S => match fi ε S with
  | some (ds, S1) => (match compD hg ft fe (wipeE ε vs) S1.length ds (S1 ++ [[]]) with
    | some T => (match T[S1.length]? with
      | some acc => some (.lst acc, T.take S1.length)
      | none => none)
    | none => none)
  | none => none
theorem small_lt {n : Nat} (h : small (n + 1) = true) : n < sizeLine := Nat.lt_of_lt_of_le (Nat.lt_succ_self n) (small_line h)
theorem comp_end {ρ : List Addr} {H H1 H' : Hp} {D : Addr} {S1 T : Bxs} {acc : List PyData} {xs : List V} (hn : ρ.length = S1.length) (hD : H1 D = none) (x1 : Ext K ρ H ρ H1) (st1 : StOk K ρ H1 S1) (st' : StOk K (ρ ++ [D]) H' T) (h3 : T[S1.length]? = some acc) (e2 : H' D = some (.lst xs)) (e3 : RpA K (ρ ++ [D]) H' xs acc) :
    Val K ρ H H' (T.take S1.length) (.ref D) (.lst acc) := by
  have tl : T = T.take S1.length ++ [acc] := by
    have l := st'.len
    rw [List.length_append, List.length_singleton, hn] at l
    obtain ⟨hh, e⟩ := List.getElem?_eq_some_iff.mp h3
    have : T.drop S1.length = [acc] := by
      rw [List.drop_eq_getElem_cons hh, e, List.drop_eq_nil_of_le (by omega)]
    rw [← this, List.take_append_drop]
  refine ⟨by rw [← hn]; exact st'.drop, .lst (x1.free hD) e2 (st1.notin hD) (RpA.weak (fun a h => List.mem_append_left _ h) _ _ e3), ⟨fun p ds e1 e4 => ?_, (fun _ _ _ _ e => nomatch e)⟩⟩
  cases e1; cases e4
  rw [← tl]; exact st'
theorem comp_tD {vs is : List Nat} {fi : FI} {hg : FG} {ft : FT} {fe : FE} (sub : ∀ i ∈ is, i ∈ vs) {σ : L2.St} {H : Hp} {Q : VK} (h : tD K (fComp vs fi hg ft fe) σ H Q) : tLc (tDI K fi) (tG K hg is) (tDT K ft) (tD K fe) vs σ H Q := by
  obtain ⟨ρ, ε, S, dv, S', M, h, k⟩ := h
  unfold fComp at h
  split at h
  · rename_i ds S1 h1
    split at h
    · rename_i T h2
      split at h
      · rename_i acc h3
        cases h
        refine ⟨ρ, ε, S, ds, S1, M, h1, fun J H1 st1 x1 it => ?_⟩
        intro D hD
        have Mw := (M.next x1 st1).wipe vs
        have xa : Ext K ρ H1 (ρ ++ [D]) (L2.upd H1 D (.lst [])) := Ext.adopt hD
        have sta := st1.adopt (ds := []) hD .nil
        have hn : ρ.length = S1.length := st1.len
        have at_D : (ρ ++ [D])[S1.length]? = some D := by rw [← hn, List.getElem?_append_right (Nat.le_refl _)]; simp
        have mem_D : D ∈ ρ ++ [D] := by simp
        -- between two turns
        refine ⟨fun i m H' => m = ds.length - i ∧ i ≤ ds.length ∧ ∃ T', Ext K (ρ ++ [D]) (L2.upd H1 D (.lst [])) (ρ ++ [D]) H' ∧ StOk K (ρ ++ [D]) H' T' ∧ compD hg ft fe (wipeE ε vs) S1.length (ds.drop i) T' = some T,
          ⟨ds.length, by simp, Nat.zero_le _, _, Ext.refl _ _, sta, by simpa using h2⟩, ?_⟩
        rintro i m H' ⟨rfl, hi, T', x', st', hc⟩
        have hLD : IsL H' D := x'.isL ⟨[], upd_same⟩
        have x0 := xa.trans x'
        obtain ⟨stop, go⟩ := it i (ρ ++ [D]) H' x0
        by_cases hlt : i < ds.length
        · obtain ⟨g1, g2⟩ := go hlt
          refine .inr ⟨g1, fun H'' => ∃ T'', Ext K (ρ ++ [D]) (L2.upd H1 D (.lst [])) (ρ ++ [D]) H'' ∧ StOk K (ρ ++ [D]) H'' T'' ∧ compD hg ft fe (wipeE ε vs) S1.length (ds.drop (i + 1)) T'' = some T, fun H'' ⟨T'', a, b, c⟩ => ⟨ds.length - (i + 1), by omega, rfl, hlt, T'', a, b, c⟩, fun y H'' hy => ?_⟩
          obtain ⟨rfl, d, hd, rp⟩ := g2 y H'' hy
          have e0 : ds.drop i = d :: ds.drop (i + 1) := by
            rw [List.drop_eq_getElem_cons hlt]
            congr 1
            exact (List.getElem?_eq_some_iff.mp hd).2
          rw [e0] at hc
          unfold compD at hc
          split at hc
          · rename_i ε1 c1
            refine ⟨ρ ++ [D], _, T', d, ε1, Mw.next x0 st', rp, c1, fun σ2 M2 w2 => ⟨by rw [w2 vs sub]; exact wipe_idem _ _, ?_⟩⟩
            split at hc
            · rename_i T1 c2
              refine ⟨ρ ++ [D], ε1, T', true, T1, M2, c2, fun H3 st3 x3 => ?_⟩
              dsimp only
              rw [if_pos rfl]
              split at hc
              · rename_i yv T2 c3
                split at hc
                · rename_i dy ac c4 c5
                  split at hc
                  · rename_i c6
                    refine ⟨ρ ++ [D], ε1, T1, yv, T2, M2.next x3 st3, c3, fun v H4 ⟨st4, r4, _⟩ x4 => ?_⟩
                    obtain ⟨xs, ds', e1, e2, e3⟩ := st4.at' S1.length D at_D ((x3.trans x4).isL hLD)
                    rw [c5] at e1; cases e1
                    refine ⟨xs, e2, by rw [e3.length]; exact small_lt c6, T2.set S1.length (ac ++ [dy]), (x'.trans (x3.trans x4)).trans (Ext.putL mem_D ⟨_, e2⟩), st4.put at_D ⟨_, e2⟩ (e3.append (.cons (toD_ok r4 c4) .nil)), hc⟩
                  · cases hc
                · cases hc
              · cases hc
            · rename_i T1 c2
              refine ⟨ρ ++ [D], ε1, T', false, T1, M2, c2, fun H3 st3 x3 => ?_⟩
              dsimp only
              rw [if_neg Bool.false_ne_true]
              exact ⟨T1, x'.trans x3, st3, hc⟩
            · cases hc
          · cases hc
        · have : i = ds.length := by omega
          subst this
          refine .inl ⟨stop (Nat.le_refl _), ?_⟩
          rw [List.drop_length] at hc
          cases hc
          obtain ⟨xs, ds', e1, e2, e3⟩ := st'.at' S1.length D at_D hLD
          rw [h3] at e1; cases e1
          exact k (.ref D) H' (comp_end hn hD x1 st1 st' h3 e2 e3) (x1.trans x0.drop)
      · cases h
    · cases h
  · cases h
end DL

set_option linter.all false
set_option maxRecDepth 100000
namespace DL
open PySem PySem.Spec L2
variable {K : PySem.W.Frag}
section
variable {X : Cx} {elt tg iter tg1 iter1 : Expr} {ifs ifs1 : List Expr} {scope : Scope} {own : List (Str × Nat)} {vs1 is is1 : List Nat} {pos : Pos} {fi fi1 : FI} {hg hg1 : FG} {ft ft1 : FT} {fe : FE}
/-- every block of this scope -/
abbrev Blk (X : Cx) (scope : Scope) (P : Cx → Prop) : Prop := ∀ (s : Shared) (H : Hp) (C : Addr) (cl : List (Str × Addr)) (fp : List Addr), P (X.blk s H scope (compEnvC scope cl C X.env) fp)
theorem de_lc (hc : X.calm = true) (hN : X.N.Nodup) (hi : DI X tg iter fi) (ok : BlkOk X.N X.env.scope scope own) (dg : Blk X scope fun Y => DG Y tg hg is) (dt : Blk X scope fun Y => DTs Y ifs ft) (de : Blk X scope fun Y => DE Y elt fe)
    (sub : ∀ i ∈ is, i ∈ own.map (·.2) := by decide) (hs : ∀ x, foldedSetIterable iter X.env x = pure x := by intro _; rfl) : DE X (.ListComp elt [⟨tg, iter, ifs, 0⟩] scope pos) (fComp (own.map (·.2)) fi hg ft fe) :=
  ⟨PE.imp (pe_lc hc hN hi.pi ok (fun s H C cl fp => (dg s H C cl fp).pg) (fun s H C cl fp => (dt s H C cl fp).pts) (fun s H C cl fp => (de s H C cl fp).pe) hs) fun σ H Q h => comp_tD sub h⟩
end
end DL

set_option linter.all false
set_option maxRecDepth 100000
namespace DL
open PySem PySem.Spec L2
variable {K : PySem.W.Frag}
/-! ### statements -/
inductive Out where
  | nx (ε : DEnv) (S : Bxs)
  | rt (dv : DV) (S : Bxs)
  | bk (ε : DEnv) (S : Bxs)
  | ct (ε : DEnv) (S : Bxs)
abbrev FS := DEnv → Bxs → Option Out
def EndOk (K : PySem.W.Frag) (ρ : List Addr) (H : Hp) (E : Ends) : Out → Prop
  | .nx ε S => ∀ σ' H' ρ', Ext K ρ H ρ' H' → Sim K ρ' ε S σ' H' → E.nx σ' H'
  | .bk ε S => ∀ σ' H' ρ', Ext K ρ H ρ' H' → Sim K ρ' ε S σ' H' → E.bk σ' H'
  | .ct ε S => ∀ σ' H' ρ', Ext K ρ H ρ' H' → Sim K ρ' ε S σ' H' → E.ct σ' H'
  | .rt dv S => ∀ v H' ρ', Ext K ρ H ρ' H' → Val K ρ' H H' S v dv → E.rt v H'
theorem EndOk.later {ρ ρ1 : List Addr} {H H1 : Hp} {E : Ends} {o : Out} (k : EndOk K ρ H E o) (x : Ext K ρ H ρ1 H1) : EndOk K ρ1 H1 E o := by
  cases o with
  | nx ε S => exact fun σ' H' ρ' y M => k σ' H' ρ' (x.trans y) M
  | bk ε S => exact fun σ' H' ρ' y M => k σ' H' ρ' (x.trans y) M
  | ct ε S => exact fun σ' H' ρ' y M => k σ' H' ρ' (x.trans y) M
  | rt dv S => exact fun v H' ρ' y r => k v H' ρ' (x.trans y) (r.back fun p q => x.free q)
def sD (K : PySem.W.Frag) (g : FS) : TS := fun E σ H => ∃ ρ ε S o, Sim K ρ ε S σ H ∧ g ε S = some o ∧ EndOk K ρ H E o
structure DS (X : Cx) (st : Stmt) (g : FS) : Prop where
  ps : PS X st (sD X.K g)
structure DSs (X : Cx) (st : List Stmt) (g : FS) : Prop where
  pss : PSs X st (sD X.K g)
def sNil : FS := fun ε S => some (.nx ε S)
def sSeq (g g' : FS) : FS := fun ε S => match g ε S with
  | some (.nx ε1 S1) => g' ε1 S1
  | some o => some o
  | none => none
def sRet (f : FE) : FS := fun ε S => match f ε S with
  | some (dv, S1) => some (.rt dv S1)
  | none => none
def sExpr (f : FE) : FS := fun ε S => match f ε S with
  | some (_, S1) => some (.nx ε S1)
  | none => none
def sIf (ft : FT) (g g' : FS) : FS := fun ε S => match ft ε S with
  | some (true, S1) => g ε S1
  | some (false, S1) => g' ε S1
  | none => none
/-- x = e -/
def sSet (i : Nat) (f : FE) : FS := fun ε S => match f ε S with
  | some (dv, S1) => some (.nx (ε.set i (some (norm dv))) S1)
  | none => none
/-- x = e, a list just made that is changed later -/
def sSetB (i : Nat) (f : FE) : FS := fun ε S => match f ε S with
  | some (.lst ds, S1) => some (.nx (ε.set i (some (.box S1.length))) (S1 ++ [ds]))
  | _ => none
def sAsg (f : FE) (h : FG) : FS := fun ε S => match f ε S with
  | some (x, S1) => (match toD x with
    | some d => (match h d ε with
      | some ε1 => some (.nx ε1 S1)
      | none => none)
    | none => none)
  | none => none
section
variable {X : Cx} {st : Stmt} {rest : List Stmt} {g g' : FS} {e : Expr} {f : FE} {pos : Pos}
theorem dss_nil : DSs X [] sNil := ⟨fun pins s σ H E I ⟨ρ, ε, S, o, M, h, k⟩ => pss_nil pins s σ H E I (by cases h; exact k σ H ρ (Ext.refl _ _) M)⟩
theorem dss_cons (h1 : DS X st g) (h2 : DSs X rest g') : DSs X (st :: rest) (sSeq g g') := ⟨fun pins s σ H E I ⟨ρ, ε, S, o, M, h, k⟩ => pss_cons h1.ps h2.pss pins s σ H E I (by
  unfold sSeq at h
  split at h
  · rename_i ε1 S1 e1
    exact ⟨ρ, ε, S, .nx ε1 S1, M, e1, fun σ' H' ρ' x M' => ⟨ρ', ε1, S1, o, M', h, k.later x⟩⟩
  · rename_i o' hn e1
    cases h
    refine ⟨ρ, ε, S, o, M, e1, ?_⟩
    cases o with
    | nx ε1 S1 => exact absurd rfl (hn ε1 S1)
    | bk ε1 S1 => exact k
    | ct ε1 S1 => exact k
    | rt dv S1 => exact k
  · cases h)⟩
theorem dss_one (h1 : DS X st g) : DSs X [st] g := ⟨pss_one h1.ps⟩
theorem ds_expr (he : DE X e f) (hs : swapsWith e none pos.line X.env = pure false := by rfl) : DS X (.Expr e pos) (sExpr f) := ⟨fun pins s σ H E I ⟨ρ, ε, S, o, M, h, k⟩ => ps_expr he.pe hs pins s σ H E I (by
  unfold sExpr at h
  split at h
  · rename_i dv S1 h1
    cases h
    exact ⟨ρ, ε, S, dv, S1, M, h1, fun v H1 v1 x1 => k σ H1 ρ x1 (M.next x1 v1.st)⟩
  · cases h)⟩
theorem ds_ret (he : DE X e f) : DS X (.Return (some e) pos) (sRet f) := ⟨fun pins s σ H E I ⟨ρ, ε, S, o, M, h, k⟩ => ps_ret he.pe pins s σ H E I (by
  unfold sRet at h
  split at h
  · rename_i dv S1 h1
    cases h
    exact ⟨ρ, ε, S, dv, S1, M, h1, fun v H1 v1 x1 => k v H1 ρ x1 v1⟩
  · cases h)⟩
theorem ds_if {c : Expr} {a b : List Stmt} {ft : FT} (hc : DT X c ft) (ha : DSs X a g) (hb : DSs X b g') : DS X (.If c a b pos) (sIf ft g g') := ⟨fun pins s σ H E I ⟨ρ, ε, S, o, M, h, k⟩ => ps_if hc.pt ha.pss hb.pss pins s σ H E I (by
  unfold sIf at h
  split at h
  · rename_i S1 h1
    refine ⟨ρ, ε, S, true, S1, M, h1, fun H1 st1 x1 => ?_⟩
    dsimp only
    rw [if_pos rfl]
    exact ⟨ρ, ε, S1, o, M.next x1 st1, h, k.later x1⟩
  · rename_i S1 h1
    refine ⟨ρ, ε, S, false, S1, M, h1, fun H1 st1 x1 => ?_⟩
    dsimp only
    rw [if_neg Bool.false_ne_true]
    exact ⟨ρ, ε, S1, o, M.next x1 st1, h, k.later x1⟩
  · cases h)⟩
/-- what a store by a name wants, from any reading of the value -/
theorem set_sD {te : TE} {i : Nat} (ht : ∀ σ H Q, tD X.K f σ H Q → te σ H Q) {E : Ends} {σ : L2.St} {H : Hp} (h : sD X.K (sSet i f) E σ H) : tAsg te (gName i) E σ H := by
  obtain ⟨ρ, ε, S, o, M, h, k⟩ := h
  unfold sSet at h
  split at h
  · rename_i dv S1 h1
    cases h
    refine ht _ _ _ ⟨ρ, ε, S, dv, S1, M, h1, fun v H1 ⟨st1, r1, _⟩ x1 => ?_⟩
    exact k _ H1 ρ x1 ((M.next x1 st1).set r1.norm)
  · cases h
theorem setB_sD {te : TE} {i : Nat} (ht : ∀ σ H Q, tD X.K f σ H Q → te σ H Q) {E : Ends} {σ : L2.St} {H : Hp} (h : sD X.K (sSetB i f) E σ H) : tAsg te (gName i) E σ H := by
  obtain ⟨ρ, ε, S, o, M, h, k⟩ := h
  unfold sSetB at h
  split at h
  · rename_i ds S1 h1
    cases h
    refine ht _ _ _ ⟨ρ, ε, S, .lst ds, S1, M, h1, fun v H1 ⟨st1, r1, ad⟩ x1 => ?_⟩
    cases r1 with
    | @lst p xs _ hp hh n r =>
      have x2 : Ext X.K ρ H (ρ ++ [p]) H1 := ⟨⟨[p], rfl⟩, x1.keep, x1.box, fun a q => (List.mem_append.mp q).elim .inl fun z => .inr (by rw [List.mem_singleton.mp z]; exact hp), x1.tab, x1.tabr⟩
      have M2 := M.next x2 (ad.1 p ds rfl rfl)
      refine k _ H1 (ρ ++ [p]) x2 (M2.set (.box ?_ ⟨_, hh⟩))
      rw [← st1.len, List.getElem?_append_right (Nat.le_refl _)]; simp
  · cases h
theorem ds_set {i : Nat} {x : Str} {pos' : Pos} (hN : X.N.Nodup) (hi : X.N[i]? = some x) (hx : Loc X.env.scope x) (he : DE X e f) (hs : swapsWith e (some (.Name x pos')) pos.line X.env = pure false := by rfl) (hf : X.fn x = true ∨ X.env.scope.names.lookup x = some .local := by first | exact .inl rfl | exact .inr rfl | assumption) :
    DS X (.Assign [.Name x pos'] e pos) (sSet i f) := ⟨fun pins s σ H E I h => ps_set hN hi hx he.pe hs hf pins s σ H E I (set_sD (fun _ _ _ q => q) h)⟩
theorem ds_setB {i : Nat} {x : Str} {pos' : Pos} (hN : X.N.Nodup) (hi : X.N[i]? = some x) (hx : Loc X.env.scope x) (he : DE X e f) (hs : swapsWith e (some (.Name x pos')) pos.line X.env = pure false := by rfl) (hf : X.fn x = true ∨ X.env.scope.names.lookup x = some .local := by first | exact .inl rfl | exact .inr rfl | assumption) :
    DS X (.Assign [.Name x pos'] e pos) (sSetB i f) := ⟨fun pins s σ H E I h => ps_set hN hi hx he.pe hs hf pins s σ H E I (setB_sD (fun _ _ _ q => q) h)⟩
theorem ds_asg {tg : Expr} {h : FG} {is : List Nat} (he : DE X e f) (hg : DG X tg h is) (hs : swapsWithSole [tg] e pos.line X.env = pure false := by rfl) (hw : swappedStores [tg] e X.env = pure none := by rfl)
    (h1 : (assignEach [tg] X.env).map (·.2) = [assign tg X.env] := by rfl) : DS X (.Assign [tg] e pos) (sAsg f h) := ⟨fun pins s σ H E I ⟨ρ, ε, S, o, M, hh, k⟩ => ps_asg he.pe hg.pg hs hw h1 pins s σ H E I (by
  unfold sAsg at hh
  split at hh
  · rename_i x S1 e1
    split at hh
    · rename_i d e2
      split at hh
      · rename_i ε1 e3
        cases hh
        refine ⟨ρ, ε, S, x, S1, M, e1, fun v H1 ⟨st1, r1, _⟩ x1 => ?_⟩
        exact ⟨ρ, ε, S1, d, ε1, M.next x1 st1, toD_ok r1 e2, e3, fun σ' M' _ => k σ' H1 ρ x1 M'⟩
      · cases hh
    · cases hh
  · cases hh)⟩
end
section
variable {X : Cx} {y : Str} {py : Pos} {i : Nat} {spos : Pos} {elt tg iter tg1 iter1 : Expr} {ifs ifs1 : List Expr} {scope : Scope} {own : List (Str × Nat)} {vs1 is is1 : List Nat} {pos : Pos} {fi fi1 : FI} {hg hg1 : FG} {ft ft1 : FT} {fe : FE}
theorem ds_setLc (hc : X.calm = true) (hN : X.N.Nodup) (hy : X.N[i]? = some y) (hyl : X.env.scope.names.lookup y = some .local) (hsw : swapsWith (.ListComp elt [⟨tg, iter, ifs, 0⟩] scope pos) (some (.Name y py)) spos.line X.env = pure true)
    (hi : DI X tg iter fi) (ok : BlkOk X.N X.env.scope scope own) (dg : Blk X scope fun Y => DG Y tg hg is) (dt : Blk X scope fun Y => DTs Y ifs ft) (de : Blk X scope fun Y => DE Y elt fe)
    (sub : ∀ i ∈ is, i ∈ own.map (·.2) := by decide) (hs : ∀ x, foldedSetIterable iter X.env x = pure x := by intro _; rfl) : DS X (.Assign [.Name y py] (.ListComp elt [⟨tg, iter, ifs, 0⟩] scope pos) spos) (sSet i (fComp (own.map (·.2)) fi hg ft fe)) :=
  ⟨fun pins s σ H E I h => ps_setLc hc hN hy hyl hsw hi.pi ok (fun s H C cl fp => (dg s H C cl fp).pg) (fun s H C cl fp => (dt s H C cl fp).pts) (fun s H C cl fp => (de s H C cl fp).pe) hs pins s σ H E I (set_sD (fun _ _ _ q => comp_tD sub q) h)⟩
end
end DL

set_option linter.all false
set_option maxRecDepth 100000
namespace DL
open PySem PySem.Spec L2
variable {K : PySem.W.Frag}
/-! ### for -/
def forD (hg : FG) (gb : FS) : List D → DEnv → Bxs → Option Out
  | [], ε, S => some (.nx ε S)
  | d :: ds, ε, S => match hg d ε with
    | some ε1 => (match gb ε1 S with
      | some (.nx ε2 S2) => forD hg gb ds ε2 S2
      | some (.ct ε2 S2) => forD hg gb ds ε2 S2
      | some (.bk ε2 S2) => some (.nx ε2 S2)
      | some (.rt v S2) => some (.rt v S2)
      | none => none)
    | none => none
def sFor (fi : FI) (hg : FG) (gb : FS) : FS := fun ε S => match fi ε S with
  | some (ds, S1) => forD hg gb ds ε S1
  | none => none
section
variable {X : Cx} {pos : Pos}
theorem ds_for {tg iter : Expr} {body : List Stmt} {fi : FI} {hg : FG} {is : List Nat} {gb : FS} (hp : PassesOwn (model X.prog X.w) X.A X.env X.xe) (hc : X.calm = true) (hi : DI X tg iter fi) (dg : DG X tg hg is) (hb : DSs X body gb)
    (hs : ∀ x, foldedSetIterable iter X.env x = pure x := by intro _; rfl) : DS X (.For tg iter body [] pos) (sFor fi hg gb) := ⟨fun pins s σ H E I ⟨ρ, ε, S, o, M, h, k⟩ => ps_for hp hc hi.pi dg.pg hb.pss hs pins s σ H E I (by
  unfold sFor at h
  split at h
  · rename_i ds S1 h1
    refine ⟨ρ, ε, S, ds, S1, M, h1, fun J H1 st1 x1 it => ?_⟩
    refine ⟨fun i m σ' H' => m = ds.length - i ∧ i ≤ ds.length ∧ ∃ ρ' ε' S', Ext X.K ρ H1 ρ' H' ∧ Sim X.K ρ' ε' S' σ' H' ∧ forD hg gb (ds.drop i) ε' S' = some o,
      ⟨ds.length, by simp, Nat.zero_le _, ρ, ε, S1, Ext.refl _ _, M.next x1 st1, by simpa using h⟩, ?_⟩
    rintro i m σ' H' ⟨rfl, hi, ρ', ε', S', x', M', hc⟩
    obtain ⟨stop, go⟩ := it i ρ' H' x'
    by_cases hlt : i < ds.length
    · obtain ⟨g1, g2⟩ := go hlt
      refine .inr ⟨g1, fun σ'' H'' => ∃ ρ'' ε'' S'', Ext X.K ρ H1 ρ'' H'' ∧ Sim X.K ρ'' ε'' S'' σ'' H'' ∧ forD hg gb (ds.drop (i + 1)) ε'' S'' = some o, fun σ'' H'' ⟨ρ'', ε'', S'', a, b, c⟩ => ⟨ds.length - (i + 1), by omega, rfl, hlt, ρ'', ε'', S'', a, b, c⟩, fun y H'' hy => ?_⟩
      obtain ⟨rfl, d, hd, rp⟩ := g2 y H'' hy
      have e0 : ds.drop i = d :: ds.drop (i + 1) := by
        rw [List.drop_eq_getElem_cons hlt]
        congr 1
        exact (List.getElem?_eq_some_iff.mp hd).2
      rw [e0] at hc
      unfold forD at hc
      split at hc
      · rename_i ε1 c1
        refine ⟨ρ', ε', S', d, ε1, M', rp, c1, fun σ2 M2 _ => ?_⟩
        split at hc
        · rename_i ε2 S2 c2
          exact ⟨ρ', ε1, S', .nx ε2 S2, M2, c2, fun σ3 H3 ρ3 x3 M3 => ⟨ρ3, ε2, S2, x'.trans x3, M3, hc⟩⟩
        · rename_i ε2 S2 c2
          exact ⟨ρ', ε1, S', .ct ε2 S2, M2, c2, fun σ3 H3 ρ3 x3 M3 => ⟨ρ3, ε2, S2, x'.trans x3, M3, hc⟩⟩
        · rename_i ε2 S2 c2
          cases hc
          exact ⟨ρ', ε1, S', .bk ε2 S2, M2, c2, fun σ3 H3 ρ3 x3 M3 => k σ3 H3 ρ3 (x1.trans (x'.trans x3)) M3⟩
        · rename_i v S2 c2
          cases hc
          exact ⟨ρ', ε1, S', .rt v S2, M2, c2, fun v' H3 ρ3 x3 r3 => k v' H3 ρ3 (x1.trans (x'.trans x3)) (r3.back fun p q => (x1.trans x').free q)⟩
        · cases hc
      · cases hc
    · have : i = ds.length := by omega
      subst this
      refine .inl ⟨stop (Nat.le_refl _), ?_⟩
      rw [List.drop_length] at hc
      cases hc
      exact k σ' H' ρ' (x1.trans x') M'
  · cases h)⟩
/-! ### xs[i] = e, a kept list -/
theorem RpA.set {ρ : List Addr} {H : Hp} {v : V} {d : D} (r : Rp K ρ H v d) : ∀ {vs : List V} {ds : List D} (i : Nat), RpA K ρ H vs ds → RpA K ρ H (vs.set i v) (ds.set i d)
  | _, _, _, .nil => .nil
  | _, _, 0, .cons _ b => .cons r b
  | _, _, i + 1, .cons a b => .cons a (RpA.set r i b)
theorem RpA.erase {ρ : List Addr} {H : Hp} : ∀ {vs : List V} {ds : List D} (i : Nat), RpA K ρ H vs ds → RpA K ρ H (vs.eraseIdx i) (ds.eraseIdx i)
  | _, _, _, .nil => .nil
  | _, _, 0, .cons _ b => b
  | _, _, i + 1, .cons a b => .cons a (RpA.erase i b)
def sPut (fo fi fe : FE) : FS := fun ε S => match fe ε S with
  | some (y, S1) => (match toD y with
    | some d => (match fo ε S1 with
      | some (.box k, S2) => (match fi ε S2 with
        | some (z, S3) => (match rd S3 z, S3[k]? with
          | some (.int i), some ds => (match ixN ds.length i with
            | some j => some (.nx ε (S3.set k (ds.set j d)))
            | none => none)
          | _, _ => none)
        | none => none)
      | _ => none)
    | none => none)
  | none => none
theorem ds_put {o i e : Expr} {fo fi fe : FE} {tpos : Pos} (ho : DE X o fo) (hi : DE X i fi) (he : DE X e fe) (ha : ∀ v, assign (.Subscript o i tpos) X.env v = (do
      let ov ← holding [v] (eval o X.env)
      let iv ← holding [v, ov] (eval i X.env)
      standAt tpos
      holding [v, ov, iv] (setItem ov iv v)
      release [v, ov, iv] []) := by intro _; rfl) (hs : swapsWithSole [.Subscript o i tpos] e pos.line X.env = pure false := by rfl) (hw : swappedStores [.Subscript o i tpos] e X.env = pure none := by rfl)
    (h1 : (assignEach [.Subscript o i tpos] X.env).map (·.2) = [assign (.Subscript o i tpos) X.env] := by rfl) : DS X (.Assign [.Subscript o i tpos] e pos) (sPut fo fi fe) := ⟨fun pins s σ H E I ⟨ρ, ε, S, out, M, h, k⟩ => ps_asg he.pe (pg_sub ho.pe hi.pe set_list ha) hs hw h1 pins s σ H E I (by
  unfold sPut at h
  split at h
  · rename_i y S1 e1
    split at h
    · rename_i d e2
      split at h
      · rename_i b S2 e3
        split at h
        · rename_i z S3 e4
          split at h
          · rename_i ii ds e5 e6
            split at h
            · rename_i j e7
              cases h
              refine ⟨ρ, ε, S, y, S1, M, e1, fun v H1 ⟨st1, r1, _⟩ x1 => ?_⟩
              refine ⟨ρ, ε, S1, .box b, S2, M.next x1 st1, e3, fun u H2 ⟨st2, r2, _⟩ x2 => ?_⟩
              refine ⟨ρ, ε, S2, z, S3, (M.next x1 st1).next x2 st2, e4, fun w H3 ⟨st3, r3, _⟩ x3 => ?_⟩
              cases r2 with
              | @box _ p hp hl =>
                obtain ⟨xs, ds', f1, f2, f3⟩ := st3.at' b p hp (x3.isL hl)
                rw [e6] at f1; cases f1
                have rv : Rp X.K ρ H3 v d := Rp.keep x3 st2.bx _ _ (Rp.keep x2 st1.bx _ _ (toD_ok r1 e2))
                have hm : p ∈ ρ := List.mem_of_getElem? hp
                refine ⟨p, xs, ii, j, rfl, rd_int r3 e5, f2, by rw [f3.length]; exact e7, ?_⟩
                have xx := (x1.trans (x2.trans x3)).trans (Ext.putL (xs := xs.set j v) hm ⟨_, f2⟩)
                exact k σ _ ρ xx (M.next xx (st3.put hp ⟨_, f2⟩ (RpA.set rv j f3)))
            · cases h
          · cases h
        · cases h
      · cases h
    · cases h
  · cases h)⟩
/-! ### methods of a kept list -/
/-- the list that is there, by itself -/
def ownL (S : Bxs) : DV → Option (List D)
  | .lst ds => some ds
  | .box k => S[k]?
  | .dat _ => none
  | .dct _ _ => none
  | .dbx _ _ => none
  | .dcd _ _ => none
def fExtend (fo : FE) (fr : FA) : FE := fun ε S => match fo ε S with
  | some (.box k, S1) => (match fr ε S1 with
    | some ([y], S2) => (match ownL S2 y, S2[k]? with
      | some ds, some acc => if small (acc.length + ds.length) = true then some (.dat .none, S2.set k (acc ++ ds)) else none
      | _, _ => none)
    | _ => none)
  | _ => none
def fPopAt (fo : FE) (fr : FA) : FE := fun ε S => match fo ε S with
  | some (.box k, S1) => (match fr ε S1 with
    | some ([y], S2) => (match rd S2 y, S2[k]? with
      | some (.int i), some acc => if okI i = true then (match seqIndex? i acc.length with
          | some j => (match acc[j]? with
            | some d => some (.dat d, S2.set k (acc.eraseIdx j))
            | none => none)
          | none => none) else none
      | _, _ => none)
    | _ => none)
  | _ => none
theorem ownL_ok {ρ : List Addr} {S : Bxs} {H0 H : Hp} {v : V} {dv : DV} {ds : List D} (st : StOk K ρ H S) (r : RV K ρ H0 H v dv) (h : ownL S dv = some ds) : ∃ p xs, v = .ref p ∧ H p = some (.lst xs) ∧ RpA K ρ H xs ds := by
  cases r with
  | dat _ => cases h
  | lst a b n r => cases h; exact ⟨_, _, rfl, b, r⟩
  | dct _ _ _ => cases h
  | dbx _ _ => cases h
  | dcd _ _ => cases h
  | fnc _ => cases h
  | @box k a e hl =>
    obtain ⟨xs, ds', f1, f2, f3⟩ := st.at' k a e hl
    have h : S[k]? = some ds := h
    rw [f1] at h; cases h
    exact ⟨a, xs, rfl, f2, f3⟩
variable {o e : Expr} {fo : FE} {fr : FA} {apos cpos : Pos}
/-- the receiver, then the arguments -/
theorem bm_tD {ρ : List Addr} {ε : DEnv} {S S1 S2 : Bxs} {σ : L2.St} {H : Hp} {b : Nat} {ys : List DV} {R : V → List V → Hp → Prop} (M : Sim K ρ ε S σ H) (h1 : fo ε S = some (.box b, S1)) (h2 : fr ε S1 = some (ys, S2))
    (k : ∀ p xs acc vs H2, S2[b]? = some acc → ρ[b]? = some p → H2 p = some (.lst xs) → RpA K ρ H2 xs acc → StOk K ρ H2 S2 → RVs K ρ H H2 vs ys → Ext K ρ H ρ H2 → R (.ref p) vs H2) :
    tD K fo σ H fun x H1 => tyV K "list" x H1 ∧ tDA K fr σ H1 fun xs H2 => R x xs H2 := by
  refine ⟨ρ, ε, S, _, S1, M, h1, fun v H1 ⟨st1, r1, _⟩ x1 => ?_⟩
  cases r1 with
  | @box _ p hp hl =>
    obtain ⟨xs, ds, f1, f2, f3⟩ := st1.at' b p hp hl
    refine ⟨.inl ⟨rfl, xs, SqL.of f2⟩, ρ, ε, S1, ys, S2, M.next x1 st1, h2, fun vs H2 st2 r2 x2 => ?_⟩
    obtain ⟨xs', ds', g1, g2, g3⟩ := st2.at' b p hp (x2.isL hl)
    exact k p xs' ds' vs H2 g1 hp g2 g3 st2 (RVs.back (fun p q => x1.free q) r2) (x1.trans x2)
theorem de_extend (ho : DE X o fo) (ha : DA X [e] fr) (hbase : attributeBase o "extend" X.env (eval o X.env) = eval o X.env := by rfl)
    (hfew : ((backTo cpos (starEach [e] X.env)).all (fun x => !x.1) && (backToKw cpos (keywordEach [] X.env)).all (fun x => x.1.isSome)
      && decide (([e]).length + ([] : List Keyword).length + (if ([] : List Keyword).isEmpty then 0 else 1) < 30)) = true := by rfl)
    (hline : (apos.endLine == cpos.line) = true := by rfl) (hs : starEach [e] X.env = (false, eval e X.env) :: starEach [] X.env := by rfl) (hplain : (backTo cpos (starEach [] X.env)).any (·.1) = false := by rfl) :
    DE X (.Call (.Attribute o "extend" apos) [e] [] cpos) (fExtend fo fr) := ⟨PE.imp (pe_bm PySem.F.plainAttrs_list PySem.F.slot_list_extend PySem.F.type_list_extend mt_extend ho.pe ha.pa hbase hfew hline hs hplain) fun σ H Q ⟨ρ, ε, S, dv, S', M, h, k⟩ => by
  unfold fExtend at h
  split at h
  · rename_i b S1 h1
    split at h
    · rename_i y S2 h2
      split at h
      · rename_i ds acc h3 h4
        split at h
        · rename_i hc
          cases h
          refine bm_tD M h1 h2 fun p xs acc' vs H2 g1 hp g2 g3 st2 r2 x2 => ?_
          rw [h4] at g1; cases g1
          cases r2 with
          | cons r2 r3 =>
            cases r3
            obtain ⟨q, zs, rfl, hz, rz⟩ := ownL_ok st2 r2 h3
            refine ⟨p, q, xs, zs, rfl, rfl, g2, hz, by rw [g3.length, rz.length]; exact small_line hc, ?_⟩
            exact k _ _ (.dat (st2.put hp ⟨_, g2⟩ (g3.append rz)) .non) (x2.trans (Ext.putL (List.mem_of_getElem? hp) ⟨_, g2⟩))
        · cases h
      · cases h
    · cases h
  · cases h⟩
theorem de_popAt (ho : DE X o fo) (ha : DA X [e] fr) (hbase : attributeBase o "pop" X.env (eval o X.env) = eval o X.env := by rfl)
    (hfew : ((backTo cpos (starEach [e] X.env)).all (fun x => !x.1) && (backToKw cpos (keywordEach [] X.env)).all (fun x => x.1.isSome)
      && decide (([e]).length + ([] : List Keyword).length + (if ([] : List Keyword).isEmpty then 0 else 1) < 30)) = true := by rfl)
    (hline : (apos.endLine == cpos.line) = true := by rfl) (hs : starEach [e] X.env = (false, eval e X.env) :: starEach [] X.env := by rfl) (hplain : (backTo cpos (starEach [] X.env)).any (·.1) = false := by rfl) :
    DE X (.Call (.Attribute o "pop" apos) [e] [] cpos) (fPopAt fo fr) := ⟨PE.imp (pe_bm PySem.F.plainAttrs_list PySem.F.slot_list_pop PySem.F.type_list_pop mt_popAt ho.pe ha.pa hbase hfew hline hs hplain) fun σ H Q ⟨ρ, ε, S, dv, S', M, h, k⟩ => by
  unfold fPopAt at h
  split at h
  · rename_i b S1 h1
    split at h
    · rename_i y S2 h2
      split at h
      · rename_i i acc h3 h4
        split at h
        · rename_i hc
          split at h
          · rename_i j h5
            split at h
            · rename_i d h6
              cases h
              have hc := of_decide_eq_true hc
              refine bm_tD M h1 h2 fun p xs acc' vs H2 g1 hp g2 g3 st2 r2 x2 => ?_
              rw [h4] at g1; cases g1
              cases r2 with
              | cons r2 r3 =>
                cases r3
                obtain ⟨w, w1, w2⟩ := g3.get h6
                have xp : Ext X.K ρ H2 ρ (L2.upd H2 p (.lst (xs.eraseIdx j))) := Ext.putL (List.mem_of_getElem? hp) ⟨_, g2⟩
                refine ⟨p, xs, i, j, w, rfl, by rw [rd_int r2 h3], g2, by omega, by omega, by rw [g3.length]; exact h5, w1, ?_⟩
                exact k _ _ (.dat (st2.put hp ⟨_, g2⟩ (RpA.erase j g3)) (Rp.keep xp st2.bx _ _ w2)) (x2.trans xp)
            · cases h
          · cases h
        · cases h
      · cases h
    · cases h
  · cases h⟩
end
end DL

set_option linter.all false
set_option maxRecDepth 100000
namespace DL
open PySem PySem.Spec L2
variable {K : PySem.W.Frag}
/-! ### the order of tuples of whole numbers -/
theorem lex_irr : ∀ a : List Int, HT.lexLt a a = false
  | [] => rfl
  | x :: xs => by rw [HT.lexLt_cons, if_pos rfl]; exact lex_irr xs
theorem lex_tri : ∀ a b : List Int, HT.lexLt a b = false → HT.lexLt b a = false → a = b
  | [], [], _, _ => rfl
  | [], _ :: _, h, _ => by cases h
  | _ :: _, [], _, h => by cases h
  | x :: xs, y :: ys, h1, h2 => by
    rw [HT.lexLt_cons] at h1 h2
    by_cases e : x = y
    · subst e
      rw [if_pos rfl] at h1 h2
      rw [lex_tri xs ys h1 h2]
    · rw [if_neg e] at h1
      rw [if_neg (fun z => e z.symm)] at h2
      have h1 := of_decide_eq_false h1
      have h2 := of_decide_eq_false h2
      omega
theorem lex_asymm : ∀ a b : List Int, HT.lexLt a b = true → HT.lexLt b a = false
  | [], [], h => by cases h
  | [], _ :: _, _ => rfl
  | _ :: _, [], h => by cases h
  | x :: xs, y :: ys, h => by
    rw [HT.lexLt_cons] at h ⊢
    by_cases e : x = y
    · subst e
      rw [if_pos rfl] at h ⊢
      exact lex_asymm xs ys h
    · rw [if_neg e] at h
      rw [if_neg (fun z => e z.symm)]
      have h := of_decide_eq_true h
      exact decide_eq_false (by omega)
theorem lex_trans : ∀ a b c : List Int, HT.lexLt a b = true → HT.lexLt b c = true → HT.lexLt a c = true
  | [], [], _, h, _ => by cases h
  | [], _ :: _, [], _, h => by cases h
  | [], _ :: _, _ :: _, _, _ => rfl
  | _ :: _, [], _, h, _ => by cases h
  | _ :: _, _ :: _, [], _, h => by cases h
  | x :: xs, y :: ys, z :: zs, h1, h2 => by
    rw [HT.lexLt_cons] at h1 h2 ⊢
    by_cases e : x = y
    · subst e
      rw [if_pos rfl] at h1
      by_cases e' : x = z
      · subst e'
        rw [if_pos rfl] at h2 ⊢
        exact lex_trans xs ys zs h1 h2
      · rw [if_neg e'] at h2 ⊢
        exact h2
    · rw [if_neg e] at h1
      have h1 := of_decide_eq_true h1
      by_cases e' : y = z
      · subst e'
        rw [if_neg e]
        exact decide_eq_true h1
      · rw [if_neg e'] at h2
        have h2 := of_decide_eq_true h2
        rw [if_neg (by omega)]
        exact decide_eq_true (by omega)
def leT (a b : List Int) : Bool := !HT.lexLt b a
theorem leT_iff {a b : List Int} : leT a b = true ↔ HT.lexLt a b = true ∨ a = b := by
  unfold leT
  cases h : HT.lexLt b a with
  | true =>
    refine ⟨fun z => (by cases z), fun z => ?_⟩
    rcases z with z | z
    · rw [lex_asymm _ _ z] at h; cases h
    · subst z; rw [lex_irr] at h; cases h
  | false =>
    refine ⟨fun _ => ?_, fun _ => rfl⟩
    cases q : HT.lexLt a b with
    | true => exact .inl rfl
    | false => exact .inr (lex_tri _ _ q h)
theorem leT_trans (a b c : List Int) (h1 : leT a b = true) (h2 : leT b c = true) : leT a c = true := by
  rw [leT_iff] at *
  rcases h1 with h1 | h1
  · rcases h2 with h2 | h2
    · exact .inl (lex_trans _ _ _ h1 h2)
    · subst h2; exact .inl h1
  · subst h1; exact h2
theorem leT_total (a b : List Int) : (leT a b || leT b a) = true := by
  rw [Bool.or_eq_true, leT_iff, leT_iff]
  cases h : HT.lexLt a b with
  | true => exact .inl (.inl rfl)
  | false =>
    cases q : HT.lexLt b a with
    | true => exact .inr (.inl rfl)
    | false => exact .inl (.inr (lex_tri _ _ h q))
/-- each once -/
def dd : List (List Int) → List (List Int)
  | [] => []
  | x :: xs => if x ∈ dd xs then dd xs else x :: dd xs
theorem dd_mem : ∀ {l : List (List Int)} {x : List Int}, x ∈ dd l ↔ x ∈ l
  | [], x => by simp [dd]
  | y :: l, x => by
    unfold dd
    split
    · rename_i h
      rw [dd_mem (l := l), List.mem_cons]
      refine ⟨.inr, fun z => ?_⟩
      rcases z with z | z
      · subst z; exact dd_mem.mp h
      · exact z
    · rw [List.mem_cons, List.mem_cons, dd_mem (l := l)]
theorem dd_nodup : ∀ l : List (List Int), (dd l).Nodup
  | [] => List.nodup_nil
  | y :: l => by
    unfold dd
    split
    · exact dd_nodup l
    · rename_i h
      exact List.nodup_cons.mpr ⟨h, dd_nodup l⟩
/-- in order, each once -/
def usort (l : List (List Int)) : List (List Int) := (dd l).mergeSort leT
theorem usort_perm (l : List (List Int)) : (usort l).Perm (dd l) := List.mergeSort_perm _ _
theorem usort_mem {l : List (List Int)} {x : List Int} : x ∈ usort l ↔ x ∈ l := by rw [(usort_perm l).mem_iff, dd_mem]
theorem usort_nodup (l : List (List Int)) : (usort l).Nodup := (usort_perm l).nodup_iff.mpr (dd_nodup l)
theorem usort_rises (l : List (List Int)) : (usort l).Pairwise fun a b => leT a b = true := List.pairwise_mergeSort leT_trans leT_total _
/-- strictly rising -/
def Up (l : List (List Int)) : Prop := l.Pairwise fun a b => HT.lexLt a b = true
theorem up_of {l : List (List Int)} (h : l.Pairwise fun a b => leT a b = true) (nd : l.Nodup) : Up l := by
  have := h.and nd
  refine this.imp fun {a b} ⟨h1, h2⟩ => ?_
  rcases leT_iff.mp h1 with z | z
  · exact z
  · exact absurd z h2
theorem usort_up (l : List (List Int)) : Up (usort l) := up_of (usort_rises l) (usort_nodup l)
theorem Up.nodup {l : List (List Int)} (h : Up l) : l.Nodup := h.imp fun {a b} h e => by subst e; rw [lex_irr] at h; cases h
theorem Up.le {l : List (List Int)} (h : Up l) : l.Pairwise fun a b => leT a b = true := h.imp fun {a b} h => leT_iff.mpr (.inl h)
theorem up_unique {l l' : List (List Int)} (h : Up l) (h' : Up l') (m : ∀ x, x ∈ l ↔ x ∈ l') : l = l' := by
  refine List.Perm.eq_of_pairwise (le := fun a b => leT a b = true) (fun a b _ _ h1 h2 => ?_) h.le h'.le ((List.perm_ext_iff_of_nodup h.nodup h'.nodup).mpr m)
  rcases leT_iff.mp h1 with z | z
  · rcases leT_iff.mp h2 with y | y
    · rw [lex_asymm _ _ z] at y; cases y
    · exact y.symm
  · exact z
theorem usort_of {l l' : List (List Int)} (h : Up l') (m : ∀ x, x ∈ l' ↔ x ∈ l) : usort l = l' := up_unique (usort_up l) h fun x => by rw [usort_mem, m]
theorem rises_usort {l l' : List (List Int)} (h : SE.Rises l') (nd : l'.Nodup) (m : ∀ x, x ∈ l' ↔ x ∈ l) : l' = usort l := by
  have : Up l' := up_of (h.imp fun {a b} q => by unfold leT; rw [q]; rfl) nd
  exact (usort_of this m).symm
/-! ### whole numbers in order -/
/-! ### tuples of whole numbers as data -/
def intD : D → Option Int
  | .int i => some i
  | _ => none
def intsD : List D → Option (List Int)
  | [] => some []
  | d :: ds => match intD d, intsD ds with
    | some i, some is => some (i :: is)
    | _, _ => none
def tupD : D → Option (List Int)
  | .tuple ds => intsD ds
  | _ => none
def tupsD : List D → Option (List (List Int))
  | [] => some []
  | d :: ds => match tupD d, tupsD ds with
    | some i, some is => some (i :: is)
    | _, _ => none
def dT (ns : List Int) : D := .tuple (ns.map .int)
theorem intsD_eq : ∀ {ds : List D} {ns : List Int}, intsD ds = some ns → ds = ns.map .int
  | [], _, h => by cases h; rfl
  | d :: ds, ns, h => by
    unfold intsD at h
    split at h
    · rename_i i is e1 e2
      cases h
      have := intsD_eq e2
      subst this
      cases d with
      | int j => cases e1; rfl
      | _ => cases e1
    · cases h
theorem intsD_map : ∀ ns : List Int, intsD (ns.map .int) = some ns
  | [] => rfl
  | n :: ns => by rw [List.map_cons]; unfold intsD; rw [intsD_map ns]; rfl
theorem tupD_dT (ns : List Int) : tupD (dT ns) = some ns := intsD_map ns
theorem tupD_eq {d : D} {ns : List Int} (h : tupD d = some ns) : d = dT ns := by
  cases d with
  | tuple ds => unfold dT; rw [intsD_eq (show intsD ds = some ns from h)]
  | _ => cases h
theorem tupsD_eq : ∀ {ds : List D} {nss : List (List Int)}, tupsD ds = some nss → ds = nss.map dT
  | [], _, h => by cases h; rfl
  | d :: ds, nss, h => by
    unfold tupsD at h
    split at h
    · rename_i i is e1 e2
      cases h
      rw [tupD_eq e1, tupsD_eq e2]; rfl
    · cases h
theorem tupsD_map : ∀ nss : List (List Int), tupsD (nss.map dT) = some nss
  | [] => rfl
  | n :: ns => by rw [List.map_cons]; unfold tupsD; rw [tupsD_map ns, tupD_dT]
theorem RpA.ints {ρ : List Addr} {H : Hp} : ∀ {ns : List Int} {xs : List V}, RpA K ρ H xs (ns.map .int) → xs = ns.map V.int
  | [], _, h => by cases h; rfl
  | n :: ns, _, h => by
    cases h with
    | cons a b => cases a; rw [RpA.ints b]; rfl
theorem RpA.ofInts {ρ : List Addr} {H : Hp} : ∀ ns : List Int, RpA K ρ H (ns.map V.int) (ns.map .int)
  | [] => .nil
  | n :: ns => .cons (.int n) (RpA.ofInts ns)
theorem RpA.tups {ρ : List Addr} {H : Hp} : ∀ {nss : List (List Int)} {xs : List V}, RpA K ρ H xs (nss.map dT) → ∃ L : List (Addr × List Int), xs = L.map (fun p => V.ref p.1) ∧ L.map (·.2) = nss ∧ Knows K H L
  | [], _, h => by cases h; exact ⟨[], rfl, rfl, fun p hp => absurd hp List.not_mem_nil⟩
  | n :: ns, _, h => by
    cases h with
    | cons a b =>
      obtain ⟨L, h1, h2, h3⟩ := RpA.tups b
      cases a with
      | @tup p zs _ q r =>
        have e := RpA.ints r
        subst e
        refine ⟨(p, n) :: L, by rw [h1]; rfl, by rw [List.map_cons, h2], fun z hz => ?_⟩
        rcases List.mem_cons.mp hz with rfl | hz
        · exact q
        · exact h3 z hz
theorem RpA.ofTups {ρ : List Addr} {H : Hp} : ∀ {L : List (Addr × List Int)}, Knows K H L → RpA K ρ H (L.map fun p => V.ref p.1) ((L.map (·.2)).map dT)
  | [], _ => .nil
  | p :: L, h => .cons (.tup (h p List.mem_cons_self) (RpA.ofInts p.2)) (RpA.ofTups fun q hq => h q (List.mem_cons_of_mem _ hq))
theorem Knows.ext {ρ ρ' : List Addr} {H H' : Hp} {L : List (Addr × List Int)} (k : Knows K H L) (x : Ext K ρ H ρ' H') (bx : Bx ρ H) : Knows K H' L := fun p hp => x.sqT bx (k p hp)
end DL

set_option linter.all false
set_option maxRecDepth 100000
namespace L2
open PySem PySem.Spec PyProof.Rows
section
variable {X : Cx}
/-- list + list -/
def rCatL (K : PySem.W.Frag) : R2 := fun x y H Q => ∃ a b xs ys, x = .ref a ∧ y = .ref b ∧ SqL K H a xs ∧ SqL K H b ys ∧ xs.length + ys.length ≤ sizeLine ∧ ∀ p, H p = none → Q (.ref p) (upd H p (.lst (xs ++ ys)))
theorem op_catL : OpR X (binaryOp .Add) (rCatL X.K) := by
  intro pins s σ H x y v u Q I rx ry h
  obtain ⟨a, b, xs, ys, rfl, rfl, ha, hb, hz, q⟩ := h
  cases rx
  cases ry
  obtain ⟨its, r1, ⟨o1, n1, e1, c1, _, d1⟩, _⟩ := I.list ha
  obtain ⟨its2, r2, ⟨o2, n2, e2, c2, _, d2⟩, _⟩ := I.list hb
  obtain ⟨cls, dd, data, sl⟩ := o1
  obtain ⟨cls2, dd2, data2, sl2⟩ := o2
  simp only at c1 d1 c2 d2
  subst c1 d1 c2 d2
  refine concat_meets ⟨_, e1, rfl⟩ ⟨_, e2, rfl⟩ noFill_list_add seq_list_add PySem.F.slot_list_add PySem.F.entry_list_add (PySem.F.args_list_add_2 _ _) (list_addW a b its.toArray its2.toArray n1 n2 dd dd2 sl sl2 (by rw [List.size_toArray, List.size_toArray, ← r1.length, ← r2.length]; exact hz)) ⟨e1, e2, ?_⟩
  have ea : its.toArray ++ its2.toArray = (its ++ its2).toArray := by simp
  rw [ea]
  exact ⟨.ref _, _, I.lnew (t' := s.toks) (r1.append r2) (by rw [List.length_append]; exact hz), rfl, q _ I.fresh⟩
/-- range(j) as a thing -/
theorem call_rng1 : CallR X (.type "range") (fun xs H Q => ∃ j, xs = [.int j] ∧ ∀ p, H p = none → Q (.ref p) (upd H p (.rng 0 j))) := by
  intro pins s σ H xs us Q I r h
  obtain ⟨j, rfl, q⟩ := h
  obtain ⟨u, rfl, ru⟩ := r.one
  obtain ⟨t, rfl⟩ := ru
  refine call_range_1 ?_
  exact ⟨.ref _, upd H s.heap.objs.size (.rng 0 j), I.laid (t' := _) (fun _ _ e => Heap.get?_push_of_some _ e) (Nat.le_refl _) ⟨_, _, _, Heap.get?_push_size _ rfl⟩, rfl, q _ I.fresh⟩
theorem vals_items {lo : Int} : ∀ (vs : List Value) (k : Nat), (∀ (j : Nat) (v : Value), vs[j]? = some v → ∃ t, v = Value.int (lo + ((k + j : Nat) : Int) * 1) t) → Vals ((List.range' k vs.length).map fun i : Nat => V.int (lo + (i : Int))) vs
  | [], _, _ => .nil
  | v :: vs, k, h => by
    rw [List.length_cons, List.range'_succ, List.map_cons]
    refine .cons ?_ (vals_items vs (k + 1) fun j w hw => ?_)
    · obtain ⟨t, e⟩ := h 0 v rfl
      refine ⟨t, ?_⟩
      rw [e]; simp
    · obtain ⟨t, e⟩ := h (j + 1) w hw
      refine ⟨t, ?_⟩
      rw [e]
      congr 3
      omega
theorem call_listRng (hc : X.calm = true) : CallR X (.type "list") (fun xs H Q => ∃ a j, xs = [.ref a] ∧ H a = some (.rng 0 j) ∧ 0 ≤ j ∧ j ≤ 1000 ∧ ∀ p, H p = none → Q (.ref p) (upd H p (.lst ((List.range j.toNat).map fun i : Nat => V.int (0 + (i : Int)))))) := by
  intro pins s σ H xs us Q I r h
  obtain ⟨a, j, rfl, ha, h0, h1, q⟩ := h
  obtain ⟨t, u, v, hr⟩ := I.hok a _ ha
  obtain ⟨w, rfl, rw'⟩ := r.one
  cases rw'
  have hn : Builtin.Range.rangeSize 0 j 1 = ((j.toNat : Nat) : Int) := by rw [rangeSize_one]; split <;> omega
  refine call_list_range (n := j.toNat) (I.ok.hd hc) hr (small_one (by omega) (by omega) (by omega) (by omega)) hn (by omega) fun h' tk acc' c' hk hS hacc => ?_
  have hv : Vals ((List.range j.toNat).map fun i : Nat => V.int (0 + (i : Int))) acc'.toList := by
    have hl : acc'.toList.length = j.toNat := by rw [Array.length_toList]; exact hacc.1
    have := vals_items (lo := 0) acc'.toList 0 fun k v hv => by
      obtain ⟨t, e⟩ := hacc.2 k v (by simpa using hv)
      exact ⟨t, by rw [e]; congr 2; simp⟩
    rw [hl] at this
    rw [List.range_eq_range']
    exact this
  refine ⟨.ref _, upd H s.heap.objs.size (.lst _), I.laid (t' := tk) hk (Nat.le_refl _) ⟨?_, acc'.toList, c', hv, by simpa using hS⟩, rfl, q _ I.fresh⟩
  rw [List.length_map, List.length_range]
  exact Nat.le_trans (show j.toNat ≤ 1000 by omega) (by decide)
/-- x in a list or tuple, by data -/
def rInD (K : PySem.W.Frag) (neg : Bool) : R2 := fun x y H Q => ∃ p xs ds d, y = .ref p ∧ (SqL K H p xs ∨ SqT K H p xs) ∧ DpAll K H xs ds ∧ Dp K H x d ∧ SeqAt.shaped d = true ∧ ds.all SeqAt.shaped = true ∧ Q (.bl (if neg then !(ds.any fun e => PyData.eqv e d) else ds.any fun e => PyData.eqv e d)) H
open Classical in
/-- whether v is one of the items that are as d -/
noncomputable def isE (d : PyData) : List Value → List PyData → Value → Bool := fun us ds v => decide (∃ (j : Nat) (e : PyData), us[j]? = some v ∧ ds[j]? = some e ∧ PyData.eqv e d = true)
theorem isE_iff {d : PyData} {us : List Value} {ds : List PyData} {v : Value} : isE d us ds v = true ↔ ∃ (j : Nat) (e : PyData), us[j]? = some v ∧ ds[j]? = some e ∧ PyData.eqv e d = true := by
  unfold isE
  exact @decide_eq_true_iff _ (Classical.propDecidable _)
theorem any_isE {d : PyData} {us : List Value} {ds : List PyData} (hl : us.length = ds.length) : us.any (isE d us ds) = ds.any fun e => PyData.eqv e d := by
  rw [Bool.eq_iff_iff, List.any_eq_true, List.any_eq_true]
  constructor
  · rintro ⟨v, hv, h⟩
    obtain ⟨j, e, _, h2, h3⟩ := isE_iff.mp h
    exact ⟨e, List.mem_of_getElem? h2, h3⟩
  · rintro ⟨e, he, h⟩
    obtain ⟨j, hj, rfl⟩ := List.mem_iff_getElem.mp he
    refine ⟨us[j]'(by omega), List.getElem_mem _, isE_iff.mpr ⟨j, ds[j], List.getElem?_eq_getElem _, List.getElem?_eq_getElem _, h⟩⟩
theorem eqAt_isE {pins : List (Addr × Obj)} {σ : St} {H : Hp} {s : Shared} (I : Inv X pins σ H s) (hu : X.A.units + 80 < cLine) {xs : List V} {us : List Value} {ds : List PyData} {x : V} {v : Value} {d : PyData} (r : Vals xs us) (hd : DpAll X.K H xs ds) (rx : RelV x v) (hx : Dp X.K H x d)
    (sd : SeqAt.shaped d = true) (ss : ds.all SeqAt.shaped = true) : ∀ y ∈ us, SeqAt.EqAt X.A.in1 s y v (isE d us ds y) := by
  intro y hy
  obtain ⟨as, rv⟩ := Dp.reads I d x v hx rx
  have pt : ∀ (xs : List V) (us : List Value) (ds : List PyData), Vals xs us → DpAll X.K H xs ds → ds.all SeqAt.shaped = true → ∀ (j : Nat) (y : Value), us[j]? = some y → ∃ e, ds[j]? = some e ∧ SeqAt.EqAt X.A.in1 s y v (PyData.eqv e d) := by
    intro xs us ds r
    induction r generalizing ds with
    | nil => intro _ _ j y h; simp at h
    | @cons a b l l' r t ih =>
      intro hd ss j y h
      cases hd with
      | @cons _ _ e es h1 h2 =>
        rw [List.all_cons, Bool.and_eq_true] at ss
        cases j with
        | zero =>
          simp at h; subst h
          refine ⟨e, rfl, ?_⟩
          obtain ⟨bs, re⟩ := Dp.reads I e a b h1 r
          exact SeqAt.eqAt_reads e d X.A.in1 s b v bs as re rv (SeqAt.canLay_of_shaped ss.1) (SeqAt.canLay_of_shaped sd) (SeqAt.room_of_shaped ss.1 (by show X.A.units + 1 + 64 < _; omega))
        | succ j =>
          obtain ⟨e', h3, h4⟩ := ih es h2 ss.2 j y (by simpa using h)
          exact ⟨e', by simpa using h3, h4⟩
  by_cases hb : ∃ (j : Nat) (e : PyData), us[j]? = some y ∧ ds[j]? = some e ∧ PyData.eqv e d = true
  · have : isE d us ds y = true := isE_iff.mpr hb
    rw [this]
    obtain ⟨j, e, h1, h2, h3⟩ := hb
    obtain ⟨e', h4, h5⟩ := pt xs us ds r hd ss j y h1
    rw [h2] at h4; cases h4
    rw [h3] at h5; exact h5
  · have : isE d us ds y = false := by
      cases q : isE d us ds y with
      | false => rfl
      | true => exact absurd (isE_iff.mp q) hb
    rw [this]
    obtain ⟨j, hj⟩ := List.mem_iff_getElem?.mp hy
    obtain ⟨e', h4, h5⟩ := pt xs us ds r hd ss j y hj
    cases q : PyData.eqv e' d with
    | true => exact absurd ⟨j, e', hj, h4, q⟩ hb
    | false => rw [q] at h5; exact h5
theorem DpAll.len {K : PySem.W.Frag} {H : Hp} : ∀ {xs : List V} {ds : List PyData}, DpAll K H xs ds → xs.length = ds.length
  | _, _, .nil => rfl
  | _, _, .cons _ b => by simp [DpAll.len b]
theorem op_inD (hu : X.A.units + 80 < cLine) : OpR X (compareOp .In) (rInD X.K false) := by
  intro pins s σ H x y v u Q I rx ry h
  obtain ⟨p, xs, ds, d, rfl, hq, hd, hx, sd, ss, q⟩ := h
  cases ry
  rcases hq with hq | hq
  · obtain ⟨its, r, pl, hz⟩ := I.list hq
    refine SeqAt.in_listAt (isE d its ds) pl.isList (fun w hw => eqAt_isE I hu r hd rx hx sd ss w (by simpa using hw)) ⟨.bl _, H, I, rfl, ?_⟩
    rw [show its.toArray.any (isE d its ds) = its.any (isE d its ds) by simp, any_isE (by rw [← r.length]; exact DpAll.len hd)]
    exact q
  · obtain ⟨its, r, pl, hz⟩ := I.tuple hq
    refine SeqAt.in_tupleAt (isE d its ds) pl (fun w hw => eqAt_isE I hu r hd rx hx sd ss w (by simpa using hw)) ⟨.bl _, H, I, rfl, ?_⟩
    rw [show its.toArray.any (isE d its ds) = its.any (isE d its ds) by simp, any_isE (by rw [← r.length]; exact DpAll.len hd)]
    exact q
theorem op_notInD (hu : X.A.units + 80 < cLine) : OpR X (compareOp .NotIn) (rInD X.K true) := by
  intro pins s σ H x y v u Q I rx ry h
  obtain ⟨p, xs, ds, d, rfl, hq, hd, hx, sd, ss, q⟩ := h
  cases ry
  rcases hq with hq | hq
  · obtain ⟨its, r, pl, hz⟩ := I.list hq
    refine SeqAt.notIn_listAt (isE d its ds) pl.isList (fun w hw => eqAt_isE I hu r hd rx hx sd ss w (by simpa using hw)) ⟨.bl _, H, I, rfl, ?_⟩
    rw [show its.toArray.any (isE d its ds) = its.any (isE d its ds) by simp, any_isE (by rw [← r.length]; exact DpAll.len hd)]
    exact q
  · obtain ⟨its, r, pl, hz⟩ := I.tuple hq
    refine SeqAt.notIn_tupleAt (isE d its ds) pl (fun w hw => eqAt_isE I hu r hd rx hx sd ss w (by simpa using hw)) ⟨.bl _, H, I, rfl, ?_⟩
    rw [show its.toArray.any (isE d its ds) = its.any (isE d its ds) by simp, any_isE (by rw [← r.length]; exact DpAll.len hd)]
    exact q
/-- what a value is, for isinstance -/
inductive TyD (K : PySem.W.Frag) (H : Hp) : V → String → Prop
  | non : TyD K H .non "NoneType"
  | bl (b : Bool) : TyD K H (.bl b) "bool"
  | int (i : Int) : TyD K H (.int i) "int"
  | str (x : Str) : TyD K H (.str x) "str"
  | lst {a : Addr} {xs : List V} : SqL K H a xs → TyD K H (.ref a) "list"
  | tup {a : Addr} {xs : List V} : SqT K H a xs → TyD K H (.ref a) "tuple"
  | dct {a : Addr} {l : List (Key × V)} : H a = some (.dK l) → TyD K H (.ref a) "dict"
theorem call_isinst : CallR X (.builtin "isinstance") (fun xs H Q => ∃ x t T b, xs = [x, .ty T] ∧ TyD X.K H x t ∧ PySem.W.kitOne X.K (.type t) (.type T) = some b ∧ Q (.bl b) H) := by
  intro pins s σ H xs us Q I r h
  obtain ⟨x, t, T, b, rfl, ty, e, q⟩ := h
  obtain ⟨u, u', rfl, ru, ru'⟩ := r.two
  cases (show u' = Value.type T from ru')
  have fin : ∀ tk, EP X pins σ Q (.bool b) { s with toks := tk } := fun tk => ⟨.bl b, H, I.tok tk, rfl, q⟩
  cases ty with
  | non => cases (show u = Value.none from ru); exact PySem.W.kia_one PySem.W.kitx_none I.kIn True.intro e (fun z => nomatch z) fin
  | bl y => cases (show u = Value.bool y from ru); exact PySem.W.kia_one PySem.W.kitx_bool I.kIn True.intro e (fun z => nomatch z) fin
  | int i => obtain ⟨t, q⟩ := (show ∃ t, u = Value.int i t from ru); cases q; exact PySem.W.kia_one PySem.W.kitx_int I.kIn True.intro e (fun z => nomatch z) fin
  | str y => obtain ⟨t, q⟩ := (show ∃ t, u = Value.str y t from ru); cases q; exact PySem.W.kia_one PySem.W.kitx_str I.kIn True.intro e (fun z => nomatch z) fin
  | @lst a xs ea =>
    cases (show u = Value.ref a from ru)
    obtain ⟨its, _, ⟨o, n, h1, h2, _⟩, _⟩ := I.list ea
    exact PySem.W.kia_one PySem.W.kitx_list I.kIn ⟨o, h1, h2⟩ e (fun z => nomatch z) fin
  | @tup a xs ea =>
    cases (show u = Value.ref a from ru)
    obtain ⟨its, _, ⟨o, h1, h2, _⟩, _⟩ := I.tuple ea
    exact PySem.W.kia_one PySem.W.kitx_tuple I.kIn ⟨o, h1, h2⟩ e (fun z => nomatch z) fin
  | @dct a l ea =>
    cases (show u = Value.ref a from ru)
    obtain ⟨_, _, _, _, o, _, _, h1, h2, _⟩ := (show ObjOk X.prog X.w H s.heap a (.dK l) from I.hok a _ ea)
    exact PySem.W.kia_one PySem.W.kitx_dict I.kIn ⟨o, h1, h2.1⟩ e (fun z => nomatch z) fin
end
end L2

set_option linter.all false
set_option maxRecDepth 100000
namespace DL
open PySem PySem.Spec L2
variable {K : PySem.W.Frag}
/-! ### operations on data -/
def gCat : Bxs → DV → DV → Option DV := fun S x y => match rd S x, rd S y with
  | some (.list ds), some (.list es) => if small (ds.length + es.length) = true then some (.lst (ds ++ es)) else none
  | _, _ => none
theorem op2_cat : Op2 K (rCatL K) gCat := by
  intro ρ S H0 H v u x y dv Q st fr r1 r2 h k
  unfold gCat at h
  split at h
  · rename_i ds es e1 e2
    split at h
    · rename_i hc
      cases h
      obtain ⟨a, xs, rfl, q1, rr1⟩ := rd_lst st r1 e1
      obtain ⟨b, ys, rfl, q2, rr2⟩ := rd_lst st r2 e2
      refine ⟨a, b, xs, ys, rfl, rfl, q1, q2, by rw [rr1.length, rr2.length]; exact small_line hc, fun p hp => ?_⟩
      obtain ⟨a1, a3⟩ := new_lst st fr hp (rr1.append rr2)
      exact k _ _ a1 a3
    · cases h
  · cases h
/-- a thing of one argument -/
def g1 (g : Bxs → DV → Option DV) : Bxs → List DV → Option DV := fun S xs => match xs with
  | [x] => g S x
  | _ => none
def g2 (g : Bxs → DV → DV → Option DV) : Bxs → List DV → Option DV := fun S xs => match xs with
  | [x, y] => g S x y
  | _ => none
theorem opN1 {r : List V → Hp → VK → Prop} {g : Bxs → DV → Option DV} (O : Op1 K (fun v H Q => r [v] H Q) g) : OpN K r (g1 g) := by
  intro ρ S H0 H vs xs dv Q st fr r1 h k
  unfold g1 at h
  split at h
  · cases r1 with
    | cons a b =>
      cases b
      exact O ρ S H0 H _ _ dv Q st fr a h k
  · cases h
theorem opN2 {r : List V → Hp → VK → Prop} {g : Bxs → DV → DV → Option DV} (O : Op2 K (fun v u H Q => r [v, u] H Q) g) : OpN K r (g2 g) := by
  intro ρ S H0 H vs xs dv Q st fr r1 h k
  unfold g2 at h
  split at h
  · cases r1 with
    | cons a b =>
      cases b with
      | cons b c =>
        cases c
        exact O ρ S H0 H _ _ _ _ dv Q st fr a b h k
  · cases h
def gLen : Bxs → DV → Option DV := fun S x => match sq S x with
  | some ds => some (.dat (.int (ds.length : Int)))
  | none => none
theorem op_len : OpN K (fun xs H Q => ∃ p ys, xs = [.ref p] ∧ (SqL K H p ys ∨ SqT K H p ys) ∧ Q (.int ys.length) H) (g1 gLen) := opN1 (by
  intro ρ S H0 H v x dv Q st fr r1 h k
  unfold gLen at h
  split at h
  · rename_i ds e1
    cases h
    obtain ⟨a, xs, rfl, q, rr⟩ := sq_ok st r1 e1
    refine ⟨a, xs, rfl, q, ?_⟩
    rw [rr.length]
    exact same_end st (.int _) k
  · cases h)
def gTup1 : Bxs → DV → Option DV := fun S x => match sq S x with
  | some ds => some (.dat (.tuple ds))
  | none => none
theorem op_tup1 : OpN K (fun xs H Q => ∃ p ys, xs = [.ref p] ∧ ((SqL K H p ys ∧ ∀ l, H l = none → Q (.ref l) (upd H l (.tup ys))) ∨ (SqT K H p ys ∧ Q (.ref p) H))) (g1 gTup1) := opN1 (by
  intro ρ S H0 H v x dv Q st fr r1 h k
  unfold gTup1 at h
  split at h
  · rename_i ds e1
    cases h
    obtain ⟨a, xs, rfl, q, rr⟩ := sq_ok st r1 e1
    refine ⟨a, xs, rfl, ?_⟩
    rcases q with q | q
    · refine .inl ⟨q, fun p hp => ?_⟩
      obtain ⟨a1, a3⟩ := new_tup (H0 := H0) st hp rr
      exact k _ _ a1 a3
    · exact .inr ⟨q, same_end st (.tup q rr) k⟩
  · cases h)
def gMin : Bxs → DV → DV → Option DV := gI (fun _ _ => true) fun i j => .int (if j < i then j else i)
def gMax : Bxs → DV → DV → Option DV := gI (fun _ _ => true) fun i j => .int (if j > i then j else i)
theorem gI_some {C : Int → Int → Bool} {f : Int → Int → D} {S : Bxs} {x y dv : DV} (h : gI C f S x y = some dv) : ∃ i j, rd S x = some (.int i) ∧ rd S y = some (.int j) ∧ C i j = true ∧ dv = .dat (f i j) := by
  unfold gI at h
  split at h
  · rename_i i j e1 e2
    split at h
    · rename_i hc
      cases h
      exact ⟨i, j, e1, e2, hc, rfl⟩
    · cases h
  · cases h
theorem op_min : OpN K (fun xs H Q => ∃ i j, xs = [V.int i, .int j] ∧ Q (.int (if j < i then j else i)) H) (g2 gMin) := opN2 (by
  intro ρ S H0 H v u x y dv Q st fr r1 r2 h k
  obtain ⟨i, j, e1, e2, _, rfl⟩ := gI_some h
  exact ⟨i, j, by rw [rd_int r1 e1, rd_int r2 e2], same_end st (.int _) k⟩)
theorem op_max : OpN K (fun xs H Q => ∃ i j, xs = [V.int i, .int j] ∧ Q (.int (if j > i then j else i)) H) (g2 gMax) := opN2 (by
  intro ρ S H0 H v u x y dv Q st fr r1 r2 h k
  obtain ⟨i, j, e1, e2, _, rfl⟩ := gI_some h
  exact ⟨i, j, by rw [rd_int r1 e1, rd_int r2 e2], same_end st (.int _) k⟩)
def boolsD : List D → Option (List Bool)
  | [] => some []
  | .bool b :: ds => match boolsD ds with
    | some bs => some (b :: bs)
    | none => none
  | _ => none
theorem boolsD_map : ∀ bs : List Bool, boolsD (bs.map .bool) = some bs
  | [] => rfl
  | b :: bs => by rw [List.map_cons]; unfold boolsD; rw [boolsD_map bs]
theorem boolsD_eq : ∀ {ds : List D} {bs : List Bool}, boolsD ds = some bs → ds = bs.map .bool
  | [], _, h => by cases h; rfl
  | .bool b :: ds, bs, h => by
    unfold boolsD at h
    split at h
    · rename_i bs' e
      cases h
      rw [boolsD_eq e]; rfl
    · cases h
  | .none :: _, _, h => by cases h
  | .int _ :: _, _, h => by cases h
  | .str _ :: _, _, h => by cases h
  | .list _ :: _, _, h => by cases h
  | .tuple _ :: _, _, h => by cases h
  | .dict _ :: _, _, h => by cases h
theorem RpA.bools {ρ : List Addr} {H : Hp} : ∀ {bs : List Bool} {xs : List V}, RpA K ρ H xs (bs.map .bool) → xs = bs.map V.bl
  | [], _, h => by cases h; rfl
  | n :: ns, _, h => by
    cases h with
    | cons a b => cases a; rw [RpA.bools b]; rfl
def gAll : Bxs → DV → Option DV := fun S x => match rd S x with
  | some (.list ds) => (match boolsD ds with
    | some bs => some (.dat (.bool (bs.all id)))
    | none => none)
  | _ => none
theorem op_all : OpN K (rAll K) (g1 gAll) := opN1 (by
  intro ρ S H0 H v x dv Q st fr r1 h k
  unfold gAll at h
  split at h
  · rename_i ds e1
    split at h
    · rename_i bs e2
      cases h
      obtain ⟨a, xs, rfl, q, rr⟩ := rd_lst st r1 e1
      have e := boolsD_eq e2
      subst e
      have e := RpA.bools rr
      subst e
      exact ⟨a, bs, rfl, q, same_end st (.bl _) k⟩
    · cases h
  · cases h)
/-! ### in -/
def bIn (neg : Bool) : Bxs → DV → DV → Option Bool := fun S x y => match rd S x, sq S y with
  | some d, some es => if (SeqAt.shaped d && es.all SeqAt.shaped) = true then some (if neg then !(es.any fun e => PyData.eqv e d) else es.any fun e => PyData.eqv e d) else none
  | _, _ => none
theorem canAll_of : ∀ {es : List D}, es.all SeqAt.shaped = true → PyData.canLayAll0 es = true
  | [], _ => by simp [PyData.canLayAll0]
  | e :: es, h => by
    rw [List.all_cons, Bool.and_eq_true] at h
    simp [PyData.canLayAll0, SeqAt.canLay_of_shaped h.1, canAll_of h.2]
theorem opb_in {neg : Bool} : OpB K (rInD K neg) (bIn neg) := by
  intro ρ S H0 H v u x y b Q st r1 r2 h k
  unfold bIn at h
  split at h
  · rename_i d es e1 e2
    split at h
    · rename_i hc
      cases h
      rw [Bool.and_eq_true] at hc
      obtain ⟨a, xs, rfl, q, rr⟩ := sq_ok st r2 e2
      exact ⟨a, xs, es, d, rfl, q, RpA.dp _ _ (canAll_of hc.2) rr, rd_dp st r1 e1 (SeqAt.canLay_of_shaped hc.1), hc.1, hc.2, k⟩
    · cases h
  · cases h
/-! ### isinstance -/
def tyN : D → String
  | .none => "NoneType"
  | .bool _ => "bool"
  | .int _ => "int"
  | .str _ => "str"
  | .list _ => "list"
  | .tuple _ => "tuple"
  | .dict _ => "dict"
theorem rd_ty {ρ : List Addr} {S : Bxs} {H0 H : Hp} {v : V} {dv : DV} {d : D} (st : StOk K ρ H S) (r : RV K ρ H0 H v dv) (e : rd S dv = some d) : TyD K H v (tyN d) := by
  cases d with
  | none => rw [rd_none r e]; exact .non
  | bool b => rw [rd_bool r e]; exact .bl b
  | int i => rw [rd_int r e]; exact .int i
  | str x => rw [rd_str r e]; exact .str x
  | list ds =>
    obtain ⟨a, xs, rfl, q, _⟩ := rd_lst st r e
    exact .lst q
  | tuple ds =>
    obtain ⟨a, xs, rfl, q, _⟩ := rd_tup r e
    exact .tup q
  | dict ds =>
    cases r with
    | dat r => cases e; cases r with | dct n e => exact .dct e
    | lst => cases e
    | dct _ _ _ => cases e
    | dbx _ _ => cases e
    | dcd _ _ => cases e
    | fnc _ => cases e
    | @box k a h hl => obtain ⟨_, _, z⟩ := Option.map_eq_some_iff.mp (show (S[k]?).map PyData.list = some _ from e); cases z
def isTupD : D → Bool
  | .tuple _ => true
  | _ => false
def isIntD : D → Bool
  | .int _ => true
  | .bool _ => true
  | _ => false
def isBoolD : D → Bool
  | .bool _ => true
  | _ => false
def isStrD : D → Bool
  | .str _ => true
  | _ => false
abbrev Kit (K : PySem.W.Frag) (T : String) (q : D → Bool) : Prop := ∀ d : D, PySem.W.kitOne K (.type (tyN d)) (.type T) = some (q d)
theorem kit_tup : Kit K "tuple" isTupD := fun d => by cases d <;> rfl
theorem kit_int : Kit K "int" isIntD := fun d => by cases d <;> rfl
theorem kit_bool : Kit K "bool" isBoolD := fun d => by cases d <;> rfl
theorem kit_str : Kit K "str" isStrD := fun d => by cases d <;> rfl
def fIs (q : D → Bool) (fa : FE) : FE := fun ε S => match fa ε S with
  | some (x, S1) => (match rd S1 x with
    | some d => some (.dat (.bool (q d)), S1)
    | none => none)
  | none => none
section
variable {X : Cx} {e a b : Expr} {fa fb : FE} {fr : FA} {pos p p2 : Pos} {T : String}
theorem de_isinst {q : D → Bool} {x : Str} (hq : Kit X.K T q) (hg : Gl X "isinstance") (hm : X.mg "isinstance" = none) (hg2 : Gl X x) (hm2 : X.mg x = none) (hv : bootBuiltins x = some (.type T)) (ha : DE X a fa) (hn : x ≠ "__name__" := by decide) (hdb : (x == ("__debug__" : Str)) = false := by decide)
    (he : starEach [a, .Name x p2] X.env = (false, eval a X.env) :: starEach [.Name x p2] X.env := by rfl) (he2 : starEach [.Name x p2] X.env = (false, eval (.Name x p2) X.env) :: starEach [] X.env := by rfl) (hpl : (backTo pos (starEach [.Name x p2] X.env)).any (·.1) = false := by rfl) :
    DE X (.Call (.Name "isinstance" p) [a, .Name x p2] [] pos) (fIs q fa) := ⟨PE.imp (pe_callB call_isinst hg hm rfl (pa_cons ha.pe (pa_cons (pe_bltn (v := .ty T) hg2 hm2 hv rfl hn hdb) pa_nil he2) he) (by decide) (by decide) he hpl) fun σ H Q ⟨ρ, ε, S, dv, S', M, h, k⟩ => by
  unfold fIs at h
  split at h
  · rename_i x S1 h1
    split at h
    · rename_i d h2
      cases h
      refine ⟨ρ, ε, S, x, S', M, h1, fun v H1 ⟨st1, r1, _⟩ x1 => ?_⟩
      have ty := rd_ty st1 r1 h2
      exact ⟨v, tyN d, T, q d, rfl, ty, hq d, k _ H1 (.dat st1 (.bl _)) x1⟩
    · cases h
  · cases h⟩
/-! ### list(range(n)) -/
def fRng (fr : FA) : FE := fun ε S => match fr ε S with
  | some ([x], S1) => (match rd S1 x with
    | some (.int j) => if (decide (0 ≤ j) && decide (j ≤ 1000)) = true then some (.lst (nums 0 j.toNat), S1) else none
    | _ => none)
  | _ => none
theorem rpa_nums {ρ : List Addr} {H : Hp} (lo : Int) : ∀ l : List Nat, RpA K ρ H (l.map fun i : Nat => V.int (lo + (i : Int))) (l.map fun i : Nat => PyData.int (lo + (i : Int)))
  | [] => .nil
  | i :: l => .cons (.int _) (rpa_nums lo l)
theorem de_listRng {p3 pos3 : Pos} (hc : X.calm = true) (hg : Gl X "list") (hm : X.mg "list" = none) (hg2 : Gl X "range") (hm2 : X.mg "range" = none) (ha : DA X [a] fr)
    (he : starEach [a] X.env = (false, eval a X.env) :: starEach [] X.env := by rfl)
    (he2 : starEach [.Call (.Name "range" p3) [a] [] pos3] X.env = (false, eval (.Call (.Name "range" p3) [a] [] pos3) X.env) :: starEach [] X.env := by rfl) (hpl : (backTo pos (starEach [] X.env)).any (·.1) = false := by rfl) (hpl3 : (backTo pos3 (starEach [] X.env)).any (·.1) = false := by rfl) :
    DE X (.Call (.Name "list" p) [.Call (.Name "range" p3) [a] [] pos3] [] pos) (fRng fr) := ⟨PE.imp (pe_callTy (call_listRng hc) hg hm rfl (pa_cons (pe_callTy call_rng1 hg2 hm2 rfl ha.pa (by decide) (by decide) he hpl3) pa_nil he2) (by decide) (by decide) he2 hpl) fun σ H Q ⟨ρ, ε, S, dv, S', M, h, k⟩ => by
  unfold fRng at h
  split at h
  · rename_i x S1 h1
    split at h
    · rename_i j e1
      split at h
      · rename_i hc
        cases h
        rw [Bool.and_eq_true] at hc
        have c1 := of_decide_eq_true hc.1
        have c2 := of_decide_eq_true hc.2
        refine ⟨ρ, ε, S, _, S', M, h1, fun vs H1 st1 r1 x1 => ?_⟩
        cases r1 with
        | cons r1 r2 =>
          cases r2
          refine ⟨j, by rw [rd_int r1 e1], fun p hp => ?_⟩
          refine ⟨p, j, rfl, upd_same, c1, c2, fun q hq => ?_⟩
          have x2 : Ext X.K ρ H1 ρ (upd H1 p (.rng 0 j)) := Ext.upd hp
          have st2 := st1.upd (o := .rng 0 j) hp
          obtain ⟨a1, a3⟩ := new_lst (H0 := H) st2 (fun z hz => x1.free (x2.free hz)) hq (rpa_nums (K := X.K) (ρ := ρ) 0 (List.range j.toNat))
          exact k _ _ a1 ((x1.trans x2).trans a3)
      · cases h
    · cases h
  · cases h⟩
/-! ### sorted(set(..)) -/
def okTups (S : Bxs) (x : DV) : Option (List (List Int)) := match sq S x with
  | some ds => (match tupsD ds with
    | some nss => if (nss.all fun ns => !ns.isEmpty) = true then some nss else none
    | none => none)
  | none => none
theorem okTups_some {S : Bxs} {x : DV} {nss : List (List Int)} (h : okTups S x = some nss) : sq S x = some (nss.map dT) ∧ ∀ ns ∈ nss, ns ≠ [] := by
  unfold okTups at h
  split at h
  · rename_i ds e1
    split at h
    · rename_i nss' e2
      split at h
      · rename_i hc
        cases h
        rw [← tupsD_eq e2]
        refine ⟨e1, fun ns hn e => ?_⟩
        have := List.all_eq_true.mp hc ns hn
        rw [e] at this; cases this
      · cases h
    · cases h
  · cases h
def fSS (fa : FE) : FE := fun ε S => match fa ε S with
  | some (x, S1) => (match okTups S1 x with
    | some nss => if decide ((dd nss).length ≤ 62) = true then some (.lst ((usort nss).map dT), S1) else none
    | none => none)
  | none => none
theorem card_dd {nss : List (List Int)} (h : (dd nss).length ≤ 62) : Card62 nss := fun l nd sub => Nat.le_trans (nd.length_le_of_subset fun x hx => dd_mem.mpr (sub x hx)) h
theorem dd_same {l l' : List (List Int)} (nd : l.Nodup) (m : ∀ x, x ∈ l ↔ x ∈ l') : l.length = (dd l').length :=
  ((List.perm_ext_iff_of_nodup nd (dd_nodup l')).mpr fun x => by rw [m, dd_mem]).length_eq
/-- a set is sorted -/
theorem sort_end {ρ : List Addr} {S : Bxs} {H0 H : Hp} {q : Addr} {L : List (Addr × List Int)} {nss : List (List Int)} {Q : VK} (hc : X.calm = true) (st : StOk X.K ρ H S) (fr : ∀ p, H p = none → H0 p = none) (hq : H q = some (SetO X.w q L)) (kn : Knows X.K H L) (nd : (L.map (·.2)).Nodup)
    (m : ∀ ns, ns ∈ L.map (·.2) ↔ ns ∈ nss) (ne : ∀ ns ∈ nss, ns ≠ []) (h62 : (dd nss).length ≤ 62) (k : ∀ w H', Val X.K ρ H0 H' S w (.lst ((usort nss).map dT)) → Ext X.K ρ H ρ H' → Q w H') : rSortS X [.ref q] H Q := by
  refine ⟨q, L, rfl, hq, kn, fun p hp => ne _ ((m _).mp (List.mem_map_of_mem hp)), ?_, fun r L' hr pm rs => ?_⟩
  · have := dd_same nd m
    rw [List.length_map] at this
    omega
  · have kn' : Knows X.K H L' := fun p hp => kn p (pm.mem_iff.mp hp)
    have nd' : (L'.map (·.2)).Nodup := (pm.map (·.2)).nodup_iff.mpr nd
    have e : L'.map (·.2) = usort nss := rises_usort rs nd' fun x => by rw [(pm.map (·.2)).mem_iff]; exact m x
    have rr := RpA.ofTups (K := X.K) (ρ := ρ) kn'
    rw [e] at rr
    obtain ⟨a1, a3⟩ := new_lst st fr hr rr
    exact k _ _ a1 a3
variable {p3 pos3 p4 pos4 pos5 : Pos}
theorem de_sortSet (hu : X.A.units + 80 < cLine) (hc : X.calm = true) (hg : Gl X "sorted") (hm : X.mg "sorted" = none) (hg2 : Gl X "set") (hm2 : X.mg "set" = none) (ha : DE X a fa)
    (he : starEach [a] X.env = (false, eval a X.env) :: starEach [] X.env := by rfl)
    (he2 : starEach [.Call (.Name "set" p3) [a] [] pos3] X.env = (false, eval (.Call (.Name "set" p3) [a] [] pos3) X.env) :: starEach [] X.env := by rfl) (hpl : (backTo pos (starEach [] X.env)).any (·.1) = false := by rfl) (hpl3 : (backTo pos3 (starEach [] X.env)).any (·.1) = false := by rfl) :
    DE X (.Call (.Name "sorted" p) [.Call (.Name "set" p3) [a] [] pos3] [] pos) (fSS fa) := ⟨PE.imp (pe_callB (cr_sortS hc) hg hm rfl (pa_cons (pe_callTy (call_set hu hc) hg2 hm2 rfl (pa_cons ha.pe pa_nil he) (by decide) (by decide) he hpl3) pa_nil he2) (by decide) (by decide) he2 hpl) fun σ H Q ⟨ρ, ε, S, dv, S', M, h, k⟩ => by
  unfold fSS at h
  split at h
  · rename_i x S1 h1
    split at h
    · rename_i nss h2
      split at h
      · rename_i h62
        cases h
        have h62 := of_decide_eq_true h62
        obtain ⟨e1, ne⟩ := okTups_some h2
        refine ⟨ρ, ε, S, x, S', M, h1, fun v H1 ⟨st1, r1, _⟩ x1 => ?_⟩
        obtain ⟨b, xs, rfl, q, rr⟩ := sq_ok st1 r1 e1
        obtain ⟨L, rfl, e2, kn⟩ := RpA.tups rr
        subst e2
        refine ⟨b, L, rfl, q, kn, card_dd h62, fun q' L' hq' kn' nd' m' => ?_⟩
        have x2 : Ext X.K ρ H1 ρ (upd H1 q' (SetO X.w q' L')) := Ext.upd hq'
        have st2 := st1.upd (o := SetO X.w q' L') hq'
        exact sort_end hc st2 (fun z hz => x1.free (x2.free hz)) upd_same (Knows.ext kn' x2 st1.bx) nd' m' ne h62 fun w H' v3 x3 => k w H' v3 ((x1.trans x2).trans x3)
      · cases h
    · cases h
  · cases h⟩
/-! ### in short -/
def gAdd : Bxs → DV → DV → Option DV := gI (fun _ _ => true) fun i j => .int (i + j)
def gSub : Bxs → DV → DV → Option DV := gI (fun _ _ => true) fun i j => .int (i - j)
def gMul : Bxs → DV → DV → Option DV := gI (fun i j => (decide (-(2 ^ 64) < i) && decide (i < 2 ^ 64)) || (decide (-(2 ^ 64) < j) && decide (j < 2 ^ 64))) fun i j => .int (i * j)
def gDiv : Bxs → DV → DV → Option DV := gI (fun i j => decide (0 < j) && decide (j < 1073741824)) fun i j => .int (i / j)
def gMod : Bxs → DV → DV → Option DV := gI (fun i j => decide (0 < j)) fun i j => .int (i % j)
def gPow : Bxs → DV → DV → Option DV := gI (fun i j => decide (0 ≤ j) && decide (j ≤ 1000000) && decide (i.natAbs < 2 ^ 64)) fun i j => .int (i ^ j.toNat)
theorem e_add (ha : DE X a fa) (hb : DE X b fb) : DE X (.BinOp a .Add b pos) (fOp2 gAdd fa fb) := de_bin op_add (op2_int0 fun _ _ _ _ => .int _) ha hb
theorem e_sub (ha : DE X a fa) (hb : DE X b fb) : DE X (.BinOp a .Sub b pos) (fOp2 gSub fa fb) := de_bin op_sub (op2_int0 fun _ _ _ _ => .int _) ha hb
theorem e_mul (ha : DE X a fa) (hb : DE X b fb) : DE X (.BinOp a .Mult b pos) (fOp2 gMul fa fb) := de_bin op_mul (op2_int (fun i j h => by
  simp only [Bool.or_eq_true, Bool.and_eq_true, decide_eq_true_eq] at h
  exact h) fun _ _ _ _ => .int _) ha hb
theorem e_div (ha : DE X a fa) (hb : DE X b fb) : DE X (.BinOp a .FloorDiv b pos) (fOp2 gDiv fa fb) := de_bin op_fdiv (op2_int (fun i j h => by
  simp only [Bool.and_eq_true, decide_eq_true_eq] at h
  exact h) fun _ _ _ _ => .int _) ha hb
theorem e_mod (ha : DE X a fa) (hb : DE X b fb) : DE X (.BinOp a .Mod b pos) (fOp2 gMod fa fb) := de_bin op_mod (op2_int (fun i j h => of_decide_eq_true h) fun _ _ _ _ => .int _) ha hb
theorem e_pow (ha : DE X a fa) (hb : DE X b fb) : DE X (.BinOp a .Pow b pos) (fOp2 gPow fa fb) := de_bin op_pow (op2_int (fun i j h => by
  simp only [Bool.and_eq_true, decide_eq_true_eq] at h
  exact ⟨h.1.1, h.1.2, h.2⟩) fun _ _ _ _ => .int _) ha hb
theorem e_cat (ha : DE X a fa) (hb : DE X b fb) : DE X (.BinOp a .Add b pos) (fOp2 gCat fa fb) := de_bin op_catL op2_cat ha hb
theorem e_ix (ha : DE X a fa) (hb : DE X b fb) (hs : PlainIx b := by intro _ _; rfl) : DE X (.Subscript a b pos) (fOp2 gIx fa fb) := op2_tD op2_ix (pe_ix ix_seq ha.pe hb.pe hs)
def bLt := bI fun i j => decide (i < j)
def bLe := bI fun i j => decide (i ≤ j)
def bGt := bI fun i j => decide (j < i)
def bGe := bI fun i j => decide (j ≤ i)
theorem t_lt (ha : DE X a fa) (hb : DE X b fb) (hm : behindInMarks .Lt b = false := by rfl) : DT X (.Compare a [.Lt] [b] pos) (fCmpT bLt fa fb) := dt_cmp op_lt opb_int ha hb hm
theorem t_gt (ha : DE X a fa) (hb : DE X b fb) (hm : behindInMarks .Gt b = false := by rfl) : DT X (.Compare a [.Gt] [b] pos) (fCmpT bGt fa fb) := dt_cmp op_gt opb_int ha hb hm
theorem t_ge (ha : DE X a fa) (hb : DE X b fb) (hm : behindInMarks .GtE b = false := by rfl) : DT X (.Compare a [.GtE] [b] pos) (fCmpT bGe fa fb) := dt_cmp op_ge opb_int ha hb hm
theorem t_eq (hu : X.A.units + 80 < cLine) (ha : DE X a fa) (hb : DE X b fb) (hm : behindInMarks .Eq b = false := by rfl) : DT X (.Compare a [.Eq] [b] pos) (fCmpT bEq fa fb) := dt_cmp (op_eqD (by omega)) opb_eq ha hb hm
theorem t_ne (hu : X.A.units + 80 < cLine) (ha : DE X a fa) (hb : DE X b fb) (hm : behindInMarks .NotEq b = false := by rfl) : DT X (.Compare a [.NotEq] [b] pos) (fCmpT bNe fa fb) := dt_cmp (op_neD (by omega)) opb_ne ha hb hm
theorem t_in (hu : X.A.units + 80 < cLine) (ha : DE X a fa) (hb : DE X b fb) (hm : behindInMarks .In b = false := by rfl) : DT X (.Compare a [.In] [b] pos) (fCmpT (bIn false) fa fb) := dt_cmp (op_inD hu) opb_in ha hb hm
theorem t_ni (hu : X.A.units + 80 < cLine) (ha : DE X a fa) (hb : DE X b fb) (hm : behindInMarks .NotIn b = false := by rfl) : DT X (.Compare a [.NotIn] [b] pos) (fCmpT (bIn true) fa fb) := dt_cmp (op_notInD hu) opb_in ha hb hm
theorem e_eq (hu : X.A.units + 80 < cLine) (ha : DE X a fa) (hb : DE X b fb) (hm : behindInMarks .Eq b = false := by rfl) : DE X (.Compare a [.Eq] [b] pos) (fOp2 (gB bEq) fa fb) := de_cmpB (op_eqD (by omega)) opb_eq ha hb hm
end
end DL

set_option linter.all false
set_option maxRecDepth 100000
namespace DL
open PySem PySem.Spec L2 PyProof.Rows
variable {K : PySem.W.Frag}
/-! ### a def -/
def fin (n : Nat) : DV → Bxs → Option (DV × Bxs)
  | .box k, S => if k < n then some (.box k, S.take n) else (match S[k]? with
      | some ds => some (.lst ds, S.take n)
      | none => none)
  | .dbx b k, S => if k < n then some (.dbx b k, S.take n) else (match S[k]? with
      | some ds => some (.dct b ds, S.take n)
      | none => none)
  | v, S => some (v, S.take n)
/-- what a def answers -/
def semOf (m : Nat) (g : FS) : Sem0 := fun dvs S => match g (dvs.map some ++ List.replicate (m - dvs.length) none) S with
  | some (.rt dv S') => fin S.length dv S'
  | some (.nx _ S') => some (.dat .none, S'.take S.length)
  | _ => none
/-- one kept list of the later ones stays -/
theorem StOk.one {ρ more : List Addr} {H : Hp} {S : Bxs} {k : Nat} {p : Addr} {ds : List D} (st : StOk K (ρ ++ more) H S) (hk : ρ.length ≤ k) (hp : (ρ ++ more)[k]? = some p) (hd : S[k]? = some ds) : StOk K (ρ ++ [p]) H (S.take ρ.length ++ [ds]) := by
  have d := st.drop
  have pin : p ∉ ρ := fun z => by
    obtain ⟨j, hj⟩ := List.mem_iff_getElem?.mp z
    have jl := (List.getElem?_eq_some_iff.mp hj).1
    have e : (ρ ++ more)[j]? = some p := by rw [List.getElem?_append_left jl]; exact hj
    have kl := (List.getElem?_eq_some_iff.mp hp).1
    have := (List.getElem?_inj (j := j) kl st.nd).mp (hp.trans e.symm)
    omega
  have sub : ∀ a ∈ ρ ++ [p], a ∈ ρ ++ more := fun a ha => by
    rcases List.mem_append.mp ha with z | z
    · exact List.mem_append_left _ z
    · rw [List.mem_singleton.mp z]; exact List.mem_of_getElem? hp
  have hl : (S.take ρ.length).length = ρ.length := by rw [← d.len]
  refine ⟨by simp [hl], ?_, fun j a e => ?_, st.tb⟩
  · rw [List.nodup_append]
    exact ⟨d.nd, by simp, fun a ha b hb => by rw [List.mem_singleton.mp hb]; exact fun z => pin (z ▸ ha)⟩
  · by_cases hj : j < ρ.length
    · rw [List.getElem?_append_left hj] at e
      obtain ⟨es, e1, e2⟩ := st.at0 j a (by rw [List.getElem?_append_left hj]; exact e)
      refine ⟨es, ?_, ?_⟩
      · rw [List.getElem?_append_left (by rw [hl]; exact hj), List.getElem?_take, if_pos hj]
        exact e1
      · rcases e2 with ⟨xs, e2, e3⟩ | e2
        · exact .inl ⟨xs, e2, RpA.weak sub _ _ e3⟩
        · obtain ⟨b, e2⟩ := e2
          exact .inr ⟨b, e2.weak sub⟩
    · have hj2 : j = ρ.length := by
        have := (List.getElem?_eq_some_iff.mp e).1
        rw [List.length_append] at this
        simp at this; omega
      subst hj2
      rw [List.getElem?_append_right (Nat.le_refl _)] at e
      simp at e
      subst e
      obtain ⟨es, e1, e2⟩ := st.at0 k p hp
      rw [hd] at e1; cases e1
      refine ⟨ds, ?_, ?_⟩
      · rw [List.getElem?_append_right (by rw [hl]; exact Nat.le_refl _), hl]
        simp
      · rcases e2 with ⟨xs, e2, e3⟩ | e2
        · exact .inl ⟨xs, e2, RpA.weak sub _ _ e3⟩
        · obtain ⟨b, e2⟩ := e2
          exact .inr ⟨b, e2.weak sub⟩
theorem Val.fin {ρ ρ' : List Addr} {H H' : Hp} {S S' S2 : Bxs} {v : V} {dv dv2 : DV} (hl : ρ.length = S.length) (x : Ext K ρ H ρ' H') (h : Val K ρ' H H' S' v dv) (e : DL.fin S.length dv S' = some (dv2, S2)) : Val K ρ H H' S2 v dv2 := by
  obtain ⟨more, em⟩ := x.pre
  subst em
  have sub : ∀ a ∈ ρ, a ∈ ρ ++ more := fun a ha => List.mem_append_left _ ha
  obtain ⟨st, r, ad⟩ := h
  have d := st.drop
  rw [hl] at d
  cases dv with
  | dat dd =>
    cases e
    cases r with
    | dat r => exact .dat d (Rp.weak sub _ _ r)
  | lst ds =>
    cases e
    cases r with
    | @lst p xs _ h0 h1 n r =>
      refine ⟨d, .lst h0 h1 (fun z => n (sub _ z)) (RpA.weak sub _ _ r), ⟨fun q es e1 e2 => ?_, (fun _ _ _ _ e => nomatch e)⟩⟩
      cases e1; cases e2
      have ad' := ad.1 p ds rfl rfl
      rw [List.append_assoc] at ad'
      have hS : S'.length = (ρ ++ more).length := st.len.symm
      have := StOk.one (k := (ρ ++ more).length) (p := p) (ds := ds) ad' (by rw [List.length_append]; omega) (by rw [← List.append_assoc, List.getElem?_append_right (Nat.le_refl _)]; simp) (by rw [List.getElem?_append_right (by omega), hS]; simp)
      rw [List.take_append_of_le_length (by rw [hS, List.length_append]; omega), hl] at this
      exact this
  | box k =>
    unfold DL.fin at e
    dsimp only at e
    cases r with
    | @box _ a ha hLa =>
      split at e
      · rename_i hk
        cases e
        refine ⟨d, .box ?_ hLa, ⟨(fun _ _ _ z => nomatch z), (fun _ _ _ _ z => nomatch z)⟩⟩
        rw [List.getElem?_append_left (by omega)] at ha
        exact ha
      · rename_i hk
        split at e
        · rename_i ds hd
          cases e
          have one := StOk.one (k := k) (p := a) (ds := ds) st (by omega) ha hd
          have pin : a ∉ ρ := fun z => by
            have := one.nd
            rw [List.nodup_append] at this
            exact this.2.2 a z a (by simp) rfl
          obtain ⟨xs, es, e1, e2, e3⟩ := st.at' k a ha hLa
          rw [hd] at e1; cases e1
          have h0 : H a = none := (x.new a (List.mem_of_getElem? ha)).resolve_left pin
          refine ⟨d, .lst h0 e2 pin (RpA.weak sub _ _ e3), ⟨fun q es' e4 e5 => ?_, (fun _ _ _ _ e => nomatch e)⟩⟩
          cases e4; cases e5
          rw [hl] at one; exact one
        · cases e
  | dcd b ds =>
    cases e
    cases r with
    | dcd n dc => exact ⟨d, .dcd (fun z => n (sub _ z)) (dc.weak sub), ⟨(fun _ _ _ z => nomatch z), (fun _ _ _ _ z => nomatch z)⟩⟩
    | fnc q => exact ⟨d, .fnc q, ⟨(fun _ _ _ z => nomatch z), (fun _ _ _ _ z => nomatch z)⟩⟩
  | dct b ds =>
    cases e
    cases r with
    | @dct p _ _ h0 n dc =>
      refine ⟨d, .dct h0 (fun z => n (sub _ z)) (dc.weak sub), ⟨(fun _ _ _ e => nomatch e), fun q b' es e1 e2 => ?_⟩⟩
      cases e1; cases e2
      have ad' := ad.2 p b ds rfl rfl
      rw [List.append_assoc] at ad'
      have hS : S'.length = (ρ ++ more).length := st.len.symm
      have := StOk.one (k := (ρ ++ more).length) (p := p) (ds := ds) ad' (by rw [List.length_append]; omega) (by rw [← List.append_assoc, List.getElem?_append_right (Nat.le_refl _)]; simp) (by rw [List.getElem?_append_right (by omega), hS]; simp)
      rw [List.take_append_of_le_length (by rw [hS, List.length_append]; omega), hl] at this
      exact this
  | dbx b k =>
    unfold DL.fin at e
    dsimp only at e
    cases r with
    | @dbx _ a _ ha hDa =>
      split at e
      · rename_i hk
        cases e
        refine ⟨d, .dbx ?_ hDa, ⟨(fun _ _ _ z => nomatch z), (fun _ _ _ _ z => nomatch z)⟩⟩
        rw [List.getElem?_append_left (by omega)] at ha
        exact ha
      · rename_i hk
        split at e
        · rename_i ds hd
          cases e
          have one := StOk.one (k := k) (p := a) (ds := ds) st (by omega) ha hd
          have pin : a ∉ ρ := fun z => by
            have := one.nd
            rw [List.nodup_append] at this
            exact this.2.2 a z a (by simp) rfl
          obtain ⟨es, e1, e3⟩ := st.atD k a ha hDa
          rw [hd] at e1; cases e1
          have h0 : H a = none := (x.new a (List.mem_of_getElem? ha)).resolve_left pin
          refine ⟨d, .dct h0 pin (e3.weak sub), ⟨(fun _ _ _ e => nomatch e), fun q b' es' e4 e5 => ?_⟩⟩
          cases e4; cases e5
          rw [hl] at one; exact one
        · cases e
theorem RVs.get {ρ : List Addr} {H0 H : Hp} : ∀ {vs : List V} {ds : List DV} {i : Nat} {d : DV}, RVs K ρ H0 H vs ds → ds[i]? = some d → ∃ v, vs[i]? = some v ∧ RV K ρ H0 H v d
  | _, _, _, _, .nil, h => by simp at h
  | _, _, 0, _, .cons a _, h => by simp at h; subst h; exact ⟨_, rfl, a⟩
  | _, _, i + 1, _, .cons _ b, h => by
    obtain ⟨v, h1, h2⟩ := RVs.get (i := i) b (by simpa using h)
    exact ⟨v, by simpa using h1, h2⟩
theorem Sim.start {ρ : List Addr} {H : Hp} {S : Bxs} {vs : List V} {dvs : List DV} {N : List Str} (st : StOk K ρ H S) (r : RVs K ρ H H vs dvs) : Sim K ρ (dvs.map some ++ List.replicate (N.length - dvs.length) none) S (L2.start N vs) H := by
  have hl := r.length
  refine ⟨st, fun i dv e => ?_, by unfold L2.start; simp [hl]⟩
  by_cases hi : i < dvs.length
  · rw [List.getElem?_append_left (by simpa using hi)] at e
    have e' : dvs[i]? = some dv := by
      rw [List.getElem?_map] at e
      cases q : dvs[i]? with
      | none => rw [q] at e; cases e
      | some d => rw [q] at e; cases e; rfl
    obtain ⟨v, h1, h2⟩ := r.get e'
    refine ⟨v, ?_, h2⟩
    unfold L2.start
    rw [List.getElem?_append_left (by simp; omega), List.getElem?_map, h1]; rfl
  · exfalso
    rw [List.getElem?_append_right (by simpa using hi)] at e
    obtain ⟨_, e2⟩ := List.getElem?_eq_some_iff.mp e
    simp at e2
section
variable {P : Program} {w : World} {mg : Str → Option Value} {base : Heap}
abbrev Bd (P : Program) (w : World) (K : PySem.W.Frag) (mg : Str → Option Value) (base : Heap) (N : List Str) (qual : Str) (sc : Scope) (f : Addr) (cdv : Value) (A : Around) (outer : List Env) (s : Shared) (H : Hp) (E : XK) : Cx := (cxOf CX0 P w K mg base N qual sc f cdv A outer s H E).nox
/-- THE RULE for a def: its body keeps to g -/
theorem fn_data {x qual : Str} {st : Stmt} {f : Addr} {fd : FuncData} {N ps : List Str} {k n : Nat} {g : FS} (F : Fun K x qual st f fd) (S : FnScope N ps (defScope st)) (hn : n = ps.length)
    (hb : ∀ (cdv : Value) (A : Around) (outer : List Env) (s : Shared) (H : Hp) (E : XK), Room k (A.deeper (envOfC qual (defScope st) s.heap.objs.size f cdv)) → DSs (Bd P w K mg base N qual (defScope st) f cdv A outer s H E) (defBody st) g) :
    FnOk P w K mg base CX0 (k + 1) f fd ps (spD K n (semOf N.length g)) := by
  subst hn
  refine F.ok S (fun vs H Q E h => h.1) fun cdv A outer s H vs Q E hr h => ?_
  obtain ⟨hl, ρ, SS, dvs, dv, S', st0, r, e, kk⟩ := h
  refine ⟨_, (hb cdv A outer s H E hr).pss, ?_⟩
  unfold semOf at e
  split at e
  · rename_i dv1 S1 e1
    refine ⟨ρ, _, SS, .rt dv1 S1, Sim.start st0 r, e1, fun v H' ρ' x' v' => ?_⟩
    obtain ⟨more, em⟩ := x'.pre
    have xd : Ext K ρ H ρ H' := by subst em; exact x'.drop
    exact kk v H' (Val.fin st0.len x' v' e) xd
  · rename_i ε1 S1 e1
    cases e
    refine ⟨ρ, _, SS, .nx ε1 S1, Sim.start st0 r, e1, fun σ' H' ρ' x' M' => ?_⟩
    obtain ⟨more, em⟩ := x'.pre
    subst em
    refine kk .non H' (.dat ?_ .non) x'.drop
    rw [← st0.len]
    exact M'.st.drop
  · cases e
end
end DL

set_option linter.all false
set_option maxRecDepth 100000
namespace DL
open PySem PySem.Spec L2 PyProof.Rows
/-- an own def by its name, as the top has made it -/
structure Fn (P : Program) (w : World) (K : PySem.W.Frag) (mg : Str → Option Value) (base : Heap) (k : Nat) (x : Str) (ps : List Str) (n : Nat) (sem : Sem0) : Prop where
  ex : ∃ (f : Addr) (fd : FuncData), FnOk P w K mg base CX0 k f fd ps (spD K n sem) ∧ mg x = some (.ref f) ∧ PySem.W.keepIn K (.ref f) = true ∧ Binds K fd ps []
section
variable {X : Cx} {x : Str} {p pos : Pos} {e : Expr} {es : List Expr} {fr : FA}
theorem de_callF {k j n : Nat} {ps : List Str} {sem : Sem0} (F : Fn X.prog X.w X.K X.mg X.base j x ps n sem) (hr : Room k X.A) (hj : j ≤ k) (hg : Gl X x) (ha : DA X (e :: es) fr) (hdb : (x == ("__debug__" : Str)) = false := by decide)
    (he : starEach (e :: es) X.env = (false, eval e X.env) :: starEach es X.env := by rfl) (hpl : (backTo pos (starEach es X.env)).any (·.1) = false := by rfl) : DE X (.Call (.Name x p) (e :: es) [] pos) (fCall n sem fr) := by
  obtain ⟨f, fd, h1, h2, h3, h4⟩ := F.ex
  exact de_call h1 (hr.mono hj) hg h2 h3 h4 pass0 ha hdb he hpl
/-- the built-in names that the top leaves alone -/
structure Bl (mg : Str → Option Value) : Prop where
  len : mg "len" = none
  tuple : mg "tuple" = none
  list : mg "list" = none
  range : mg "range" = none
  sorted : mg "sorted" = none
  set : mg "set" = none
  min : mg "min" = none
  max : mg "max" = none
  all : mg "all" = none
  any : mg "any" = none
  isinstance : mg "isinstance" = none
  int : mg "int" = none
  bool : mg "bool" = none
  str : mg "str" = none
theorem e_len (B : Bl X.mg) (hg : Gl X "len") (ha : DA X [e] fr) (he : starEach [e] X.env = (false, eval e X.env) :: starEach [] X.env := by rfl) (hpl : (backTo pos (starEach [] X.env)).any (·.1) = false := by rfl) :
    DE X (.Call (.Name "len" p) [e] [] pos) (fOpN (g1 gLen) fr) := de_callB call_len_seq op_len hg B.len PySem.boot_len ha (by decide) (by decide) he hpl
theorem e_tuple (B : Bl X.mg) (hg : Gl X "tuple") (ha : DA X [e] fr) (he : starEach [e] X.env = (false, eval e X.env) :: starEach [] X.env := by rfl) (hpl : (backTo pos (starEach [] X.env)).any (·.1) = false := by rfl) :
    DE X (.Call (.Name "tuple" p) [e] [] pos) (fOpN (g1 gTup1) fr) := de_callTy call_tuple_of op_tup1 hg B.tuple rfl ha (by decide) (by decide) he hpl
theorem e_min {e2 : Expr} (B : Bl X.mg) (hc : X.calm = true) (hg : Gl X "min") (ha : DA X [e, e2] fr) (he : starEach [e, e2] X.env = (false, eval e X.env) :: starEach [e2] X.env := by rfl) (hpl : (backTo pos (starEach [e2] X.env)).any (·.1) = false := by rfl) :
    DE X (.Call (.Name "min" p) [e, e2] [] pos) (fOpN (g2 gMin) fr) := de_callB (call_min2 hc) op_min hg B.min rfl ha (by decide) (by decide) he hpl
theorem e_max {e2 : Expr} (B : Bl X.mg) (hc : X.calm = true) (hg : Gl X "max") (ha : DA X [e, e2] fr) (he : starEach [e, e2] X.env = (false, eval e X.env) :: starEach [e2] X.env := by rfl) (hpl : (backTo pos (starEach [e2] X.env)).any (·.1) = false := by rfl) :
    DE X (.Call (.Name "max" p) [e, e2] [] pos) (fOpN (g2 gMax) fr) := de_callB (call_max2 hc) op_max hg B.max rfl ha (by decide) (by decide) he hpl
theorem e_all (B : Bl X.mg) (hc : X.calm = true) (hg : Gl X "all") (ha : DA X [e] fr) (he : starEach [e] X.env = (false, eval e X.env) :: starEach [] X.env := by rfl) (hpl : (backTo pos (starEach [] X.env)).any (·.1) = false := by rfl) :
    DE X (.Call (.Name "all" p) [e] [] pos) (fOpN (g1 gAll) fr) := de_callB (cr_all hc) op_all hg B.all rfl ha (by decide) (by decide) he hpl
end
theorem room80 {k : Nat} {A : Around} (h : Room k A) : A.units + 80 < cLine := by have := h.un; omega
end DL

set_option linter.all false
set_option maxRecDepth 100000
namespace DL
open PySem PySem.Spec L2 PyProof.Rows
variable {K : PySem.W.Frag}
/-- the law's promise at a script -/
theorem spD_law {H : Hp} {a : Addr} {ns : List Int} {sem : Sem0} (hT : ∀ P q, TabAt K P q → TabR P q H) (hS : SqL K H a (ns.map V.int)) (h : sem [.dat (.list (ns.map .int))] [] = some (.dat (.bool true), [])) : spD K 1 sem [.ref a] H (fun v _ => v = .bl true) fun _ _ _ => False := by
  refine ⟨rfl, [], [], [.dat (.list (ns.map .int))], _, [], ⟨rfl, List.nodup_nil, fun k a e => by simp at e, hT⟩, .cons (.dat (.lst ?_ (RpA.ofInts ns))) .nil, h, fun v H' hv _ => ?_⟩
  · rcases hS with h | h
    · exact .inl ⟨List.not_mem_nil, h⟩
    · exact .inr h
  · cases hv.rv with
    | dat r => cases r; rfl
theorem noTab (h : tabsOf K = []) {H : Hp} : ∀ P q, TabAt K P q → TabR P q H := fun P q t => by
  unfold TabAt at t
  rw [h] at t
  exact absurd t List.not_mem_nil
end DL

set_option linter.all false
set_option maxRecDepth 100000
/-! tuples: +, *, slices -/
namespace L2
open PySem PySem.Spec PyProof.Rows
section
variable {X : Cx}
end
end L2

set_option linter.all false
set_option maxRecDepth 100000
namespace HT
open PySem PySem.Spec PyProof.Rows PySem.F
section
variable {prog : Program} {w : World} {A : Around} {E : Value → Shared → Prop} {s : Shared}
end
end HT
namespace L2
open PySem PySem.Spec PyProof.Rows
section
variable {X : Cx} {e : Expr} {te : TE} {pos p2 p3 p4 : Pos} {j : Nat}
end
end L2

set_option linter.all false
set_option maxRecDepth 100000
namespace L2
open PySem PySem.Spec PyProof.Rows
section
variable {X : Cx}
end
end L2
namespace DL
open PySem PySem.Spec L2 PyProof.Rows
variable {K : PySem.W.Frag}
/-! ### tuples + and * -/
/-! ### slices -/
abbrev FO := DEnv → Bxs → Option (Option Int × Bxs)
def tDO (K : PySem.W.Frag) (f : FO) : TO := fun σ H Q => ∃ ρ ε S o S', Sim K ρ ε S σ H ∧ f ε S = some (o, S') ∧ ∀ H', StOk K ρ H' S' → Ext K ρ H ρ H' → Q o H'
structure DO (X : Cx) (e : Option Expr) (f : FO) : Prop where
  po : PO X e (tDO X.K f)
theorem PO.imp {X : Cx} {e : Option Expr} {t t' : TO} (h : PO X e t) (k : ∀ σ H Q, t' σ H Q → t σ H Q) : PO X e t' := fun pins s σ H Q I hq => h pins s σ H Q I (k σ H Q hq)
def fNoP : FO := fun _ S => some (none, S)
def fPart (f : FE) : FO := fun ε S => match f ε S with
  | some (x, S1) => (match rd S1 x with
    | some (.int i) => some (some i, S1)
    | _ => none)
  | none => none
section
variable {X : Cx} {a b e : Expr} {fa fb fe : FE} {pos p2 p3 p4 : Pos} {lo hi : Option Expr} {fl fu : FO}
theorem do_none : DO X none fNoP := ⟨PO.imp po_none fun σ H Q ⟨ρ, ε, S, o, S', M, h, k⟩ => by cases h; exact k H M.st (Ext.refl _ _)⟩
theorem do_some (h : DE X e fe) : DO X (some e) (fPart fe) := ⟨PO.imp (po_some h.pe) fun σ H Q ⟨ρ, ε, S, o, S', M, h, k⟩ => by
  unfold fPart at h
  split at h
  · rename_i x S1 h1
    split at h
    · rename_i i h2
      cases h
      exact ⟨ρ, ε, S, x, S', M, h1, fun v H1 ⟨st1, r1, _⟩ x1 => ⟨i, rd_int r1 h2, k H1 st1 x1⟩⟩
    · cases h
  · cases h⟩
/-! ### {}, -x, is -/
def gNeg : Bxs → DV → Option DV := fun S x => match rd S x with
  | some (.int i) => some (.dat (.int (-i)))
  | _ => none
theorem op1_neg : Op1 K (rU fun i => .int (-i)) gNeg := by
  intro ρ S H0 H v x dv Q st fr r1 h k
  unfold gNeg at h
  split at h
  · rename_i i e1
    cases h
    exact ⟨i, rd_int r1 e1, same_end st (.int _) k⟩
  · cases h
theorem e_neg (ha : DE X a fa) : DE X (.UnaryOp .USub a pos) (fOp1 gNeg fa) := de_un un_neg op1_neg ha
/-! ### tuples of whole numbers: < -/
def bLtT : Bxs → DV → DV → Option Bool := fun S x y => match rd S x, rd S y with
  | some d, some e => (match tupD d, tupD e with
    | some ns, some ms => some (HT.lexLt ns ms)
    | _, _ => none)
  | _, _ => none
theorem rd_tupD {ρ : List Addr} {S : Bxs} {H0 H : Hp} {v : V} {dv : DV} {d : D} {ns : List Int} (r : RV K ρ H0 H v dv) (e : rd S dv = some d) (h : tupD d = some ns) : ∃ p, v = .ref p ∧ SqT K H p (ns.map V.int) := by
  have := tupD_eq h
  subst this
  obtain ⟨p, xs, rfl, q, rr⟩ := rd_tup r e
  rw [RpA.ints rr] at q
  exact ⟨p, rfl, q⟩
theorem opb_ltT : OpB K (rLtT K) bLtT := by
  intro ρ S H0 H v u x y b Q st r1 r2 h k
  unfold bLtT at h
  split at h
  · rename_i d e e1 e2
    split at h
    · rename_i ns ms h1 h2
      cases h
      obtain ⟨p, rfl, q1⟩ := rd_tupD r1 e1 h1
      obtain ⟨p', rfl, q2⟩ := rd_tupD r2 e2 h2
      exact ⟨p, p', ns, ms, rfl, rfl, q1, q2, k⟩
    · cases h
  · cases h
theorem e_ltT (hu : X.A.units + 80 < cLine) (ha : DE X a fa) (hb : DE X b fb) (hm : behindInMarks .Lt b = false := by rfl) : DE X (.Compare a [.Lt] [b] pos) (fOp2 (gB bLtT) fa fb) := de_cmpB (op_ltT (by omega)) opb_ltT ha hb hm
end
end DL
namespace DL
open PySem PySem.Spec L2 PyProof.Rows
theorem e_const {X : Cx} {x : Str} {i : Int} {pos : Pos} (C : ∃ t, X.mg x = some (.int i t)) (hg : Gl X x) (hd : (x == ("__debug__" : Str)) = false := by decide) : DE X (.Name x pos) (fC (.int i)) := by
  obtain ⟨t, h⟩ := C
  exact de_glob (v := .int i) hg h ⟨t, rfl⟩ (fun _ _ => .int i) hd
end DL

set_option linter.all false
set_option maxRecDepth 100000
namespace HT
open PySem PySem.Spec PyProof.Rows
section
open PySem.SeqAt
open PySem.AutoSeq1 (wpAny_loadPart')
open PySem.MeetsSeq PySem.MeetsSeq2 PySem.MeetsSeq3
end
end HT
namespace L2
open PySem PySem.Spec PyProof.Rows
section
variable {X : Cx} {a b c d : Expr} {ta tb tc td : TE} {pos : Pos}
/-- a op1 b op2 c op3 d -/
def tChain3 (r r' r'' : R2) (ta tb tc td : TE) : TE := fun σ H Q => ta σ H fun x H1 => tb σ H1 fun y H2 => r x y H2 fun z H3 => ∃ k, z = .bl k ∧
  (if k = true then tc σ H3 fun w' H4 => r' y w' H4 (fun z' H5 => ∃ k', z' = .bl k' ∧ (if k' = true then td σ H5 fun u' H6 => r'' w' u' H6 Q else Q (.bl false) H5)) else Q (.bl false) H3)
theorem pe_chain3 {op op' op'' : CmpOp} {r r' r'' : R2} (ho : OpR X (compareOp op) r) (ho' : OpR X (compareOp op') r') (ho'' : OpR X (compareOp op'') r'') (ha : PE X a ta) (hb : PE X b tb) (hc : PE X c tc) (hd : PE X d td)
    (hm : lastMarks [op, op', op''] [b, c, d] = false := by with_unfolding_all rfl) : PE X (.Compare a [op, op', op''] [b, c, d] pos) (tChain3 r r' r'' ta tb tc td) := by
  intro pins s σ H Q I h
  refine Compare_chain (thn (ha pins s σ H _ I h) fun v s1 ⟨x, H1, I1, r1, q1⟩ => chain_link (thn (hb pins s1 σ H1 _ I1 q1) fun u s2 ⟨y, H2, I2, r2, q2⟩ =>
    thn (ho pins s2 σ H2 x y v u _ I2 r1 r2 q2) fun d s3 ⟨z, H3, I3, r3, k, e, q3⟩ => ?_)) hm
  subst e
  cases r3
  refine wpAny_truthy_bool ?_
  cases k with
  | false => exact ite_ff ⟨.bl false, H3, I3, rfl, q3⟩
  | true =>
    refine ite_tt (chain_link (thn (hc pins s3 σ H3 _ I3 q3) fun w' s4 ⟨z', H4, I4, r4, q4⟩ => thn (ho' pins s4 σ H4 y z' u w' _ I4 r2 r4 q4) fun d' s5 ⟨z2, H5, I5, r5, k2, e2, q5⟩ => ?_))
    subst e2
    cases r5
    refine wpAny_truthy_bool ?_
    cases k2 with
    | false => exact ite_ff ⟨.bl false, H5, I5, rfl, q5⟩
    | true => exact ite_tt (chain_last (thn (hd pins s5 σ H5 _ I5 q5) fun w2 s6 ⟨z3, H6, I6, r6, q6⟩ => ho'' pins s6 σ H6 z' z3 w' w2 Q I6 r4 r6 q6))
end
end L2

set_option linter.all false
set_option maxRecDepth 100000
namespace DL
open PySem PySem.Spec L2 PyProof.Rows
variable {K : PySem.W.Frag}
section
variable {X : Cx} {a b c d e : Expr} {fa fb fc fd : FE} {pos : Pos}
/-- a < b < c < d, whole numbers -/
def fChain3 (g g' g'' : Int → Int → Bool) (fa fb fc fd : FE) : FE := fun ε S => match fa ε S with
  | some (x, S1) => (match fb ε S1 with
    | some (y, S2) => (match rd S2 x, rd S2 y with
      | some (.int i), some (.int j) => if g i j = true then (match fc ε S2 with
          | some (z, S3) => (match rd S3 z with
            | some (.int l) => if g' j l = true then (match fd ε S3 with
                | some (u, S4) => (match rd S4 u with
                  | some (.int q) => some (.dat (.bool (g'' l q)), S4)
                  | _ => none)
                | none => none) else some (.dat (.bool false), S3)
            | _ => none)
          | none => none) else some (.dat (.bool false), S2)
      | _, _ => none)
    | none => none)
  | none => none
theorem de_chain3 {op op' op'' : CmpOp} {g g' g'' : Int → Int → Bool} (ho : OpR X (compareOp op) (rI0 fun i j => .bl (g i j))) (ho' : OpR X (compareOp op') (rI0 fun i j => .bl (g' i j))) (ho'' : OpR X (compareOp op'') (rI0 fun i j => .bl (g'' i j))) (ha : DE X a fa) (hb : DE X b fb) (hc : DE X c fc) (hd : DE X d fd)
    (hm : lastMarks [op, op', op''] [b, c, d] = false := by with_unfolding_all rfl) : DE X (.Compare a [op, op', op''] [b, c, d] pos) (fChain3 g g' g'' fa fb fc fd) := ⟨PE.imp (pe_chain3 ho ho' ho'' ha.pe hb.pe hc.pe hd.pe hm) fun σ H Q ⟨ρ, ε, S, dv, S', M, h, k⟩ => by
  unfold fChain3 at h
  split at h
  · rename_i x S1 h1
    split at h
    · rename_i y S2 h2
      refine bin_tD M h1 h2 fun v u H2 st r1 r2 x2 => ?_
      split at h
      · rename_i i j e1 e2
        refine ⟨i, j, rd_int r1 e1, rd_int r2 e2, g i j, rfl, ?_⟩
        by_cases hg : g i j = true
        · rw [if_pos hg] at h ⊢
          split at h
          · rename_i z S3 h3
            split at h
            · rename_i l e3
              refine ⟨ρ, ε, S2, z, S3, M.next x2 st, h3, fun w H3 ⟨st3, r3, _⟩ x3 => ?_⟩
              refine ⟨j, l, rd_int r2 e2, rd_int r3 e3, g' j l, rfl, ?_⟩
              by_cases hg' : g' j l = true
              · rw [if_pos hg'] at h ⊢
                split at h
                · rename_i u4 S4 h4
                  split at h
                  · rename_i q e4
                    cases h
                    refine ⟨ρ, ε, S3, u4, _, (M.next x2 st).next x3 st3, h4, fun w' H4 ⟨st4, r4, _⟩ x4 => ?_⟩
                    refine ⟨l, q, rd_int r3 e3, rd_int r4 e4, ?_⟩
                    exact k _ H4 (.dat st4 (.bl _)) ((x2.trans x3).trans x4)
                  · cases h
                · cases h
              · rw [if_neg hg'] at h ⊢
                cases h
                exact k _ H3 (.dat st3 (.bl false)) (x2.trans x3)
            · cases h
          · cases h
        · rw [if_neg hg] at h ⊢
          cases h
          exact k _ H2 (.dat st (.bl false)) x2
      · cases h
    · cases h
  · cases h⟩
end
end DL

set_option linter.all false
set_option maxRecDepth 100000
namespace SE
open PySem PySem.Spec PyProof.Rows ST
/-! ### sets of whole numbers -/
section
variable {prog : Program} {w : World} {A : Around} {E : Value → Shared → Prop} {s : Shared}
end
end SE

set_option linter.all false
set_option maxRecDepth 100000
namespace SE
open PySem PySem.Spec PyProof.Rows ST
section
variable {prog : Program} {w : World} {A : Around} {E : Value → Shared → Prop} {s : Shared}
section
variable {R : Result → Shared → Prop} {I : Addr} {fp wr : List Addr} {G : Array GenState → Array GenState → Prop} {n : Nat} {P : Nat → Value → Prop} {St : Nat → Shared → Prop}
end
set_option maxHeartbeats 3200000 in
end
end SE

set_option linter.all false
set_option maxRecDepth 100000
namespace L2
open PySem PySem.Spec PyProof.Rows ST SE
section
variable {X : Cx}
end
end L2

set_option linter.all false
set_option maxRecDepth 100000
namespace L2
open PySem PySem.Spec PyProof.Rows
section
variable {X : Cx}
end
end L2
namespace DL
open PySem PySem.Spec L2
variable {K : PySem.W.Frag}
/-! ### while -/
section
variable {X : Cx} {pos : Pos}
/-! ### xs.pop(), xs.extend(a tuple) -/
variable {o e : Expr} {fo : FE} {fr : FA} {apos cpos : Pos}
/-! ### sorted(set(a list of whole numbers)) -/
variable {a : Expr} {fa : FE} {p p3 pos3 : Pos}
end
end DL

set_option linter.all false
set_option maxRecDepth 100000
namespace DL
open PySem PySem.Spec L2
variable {K : PySem.W.Frag}
/-! ### walking a kept list, as it stands at each turn -/
section
variable {X : Cx} {elt tg iter : Expr} {ifs : List Expr} {scope : Scope} {own : List (Str × Nat)} {is : List Nat} {fa : FE} {hg : FG} {ft : FT} {fe : FE} {pos : Pos}
/-! ### xs[i], xs[j] = a pair -/
end
end DL

set_option linter.all false
set_option maxRecDepth 100000
namespace L2
open PySem PySem.Spec PyProof.Rows
section
variable {X : Cx}
variable {o e : Expr} {es : List Expr} {to : TE} {t : TA} {name : Str} {apos cpos : Pos} {id : String} {r : V → List V → Hp → VK → Prop}
end
end L2
namespace DL
open PySem PySem.Spec L2
variable {K : PySem.W.Frag}
section
variable {X : Cx} {o e : Expr} {fo : FE} {fr : FA} {p pos apos cpos : Pos}
end
end DL

set_option linter.all false
set_option maxRecDepth 100000
/-! the defs of the program and of the laws, as functions of data -/
namespace DL
open PySem PySem.Spec L2
/-- is_whole: ['thing'] kept: [] -/
def g_is_whole : FS := (sRet (fAnd (fIs isIntD (fVar 0)) (fNot (fIs isBoolD (fVar 0)))))
def sem_is_whole : Sem0 := semOf 1 g_is_whole
/-- is_tie: ['places', 'thing', 'low', 'high'] kept: [] -/
def g_is_tie : FS := (sSeq (sIf (fOrT (fNotT (fTru (fIs isTupD (fVar 1)))) (fCmpT bNe (fOpN (g1 gLen) (fCons (fVar 1) fNil)) (fC (.int 2)))) (sRet (fC (.bool false))) sNil)
  (sSeq (sAsg (fVar 1) (hTup 2 (hCons (hName 2) (hCons (hName 3) hNil))))
  (sRet (fAnd (fCall 1 sem_is_whole (fCons (fVar 2) fNil)) (fAnd (fCall 1 sem_is_whole (fCons (fVar 3) fNil)) (fChain3 (fun i j => decide (i ≤ j)) (fun i j => decide (i < j)) (fun i j => decide (i < j)) (fC (.int 0)) (fVar 2) (fVar 3) (fVar 0)))))))
def sem_is_tie : Sem0 := semOf 4 g_is_tie
/-- are_ties: ['places', 'thing', 'tie', 'k'] kept: [] -/
def g_are_ties : FS := (sSeq (sIf (fNotT (fTru (fIs isTupD (fVar 1)))) (sRet (fC (.bool false))) sNil)
  (sSeq (sIf (fNotT (fTru (fOpN (g1 gAll) (fCons (fComp [2] (iD (fVar 1)) (hName 2) fYes (fCall 2 sem_is_tie (fCons (fVar 0) (fCons (fVar 2) fNil)))) fNil)))) (sRet (fC (.bool false))) sNil)
  (sRet (fOpN (g1 gAll) (fCons (fComp [3] (iRange1 (fCons (fOp2 gSub (fOpN (g1 gLen) (fCons (fVar 1) fNil)) (fC (.int 1))) fNil)) (hName 3) fYes (fOp2 (gB bLtT) (fOp2 gIx (fVar 1) (fVar 3)) (fOp2 gIx (fVar 1) (fOp2 gAdd (fVar 3) (fC (.int 1)))))) fNil)))))
def sem_are_ties : Sem0 := semOf 4 g_are_ties
/-- is_web: ['thing', 'places', 'ties'] kept: [] -/
def g_is_web : FS := (sSeq (sIf (fOrT (fNotT (fTru (fIs isTupD (fVar 0)))) (fCmpT bNe (fOpN (g1 gLen) (fCons (fVar 0) fNil)) (fC (.int 2)))) (sRet (fC (.bool false))) sNil)
  (sSeq (sAsg (fVar 0) (hTup 2 (hCons (hName 1) (hCons (hName 2) hNil))))
  (sRet (fAnd (fCall 1 sem_is_whole (fCons (fVar 1) fNil)) (fAnd (fChain (fun i j => decide (i ≤ j)) (fun i j => decide (i ≤ j)) (fC (.int 1)) (fVar 1) (fC (.int 8))) (fCall 2 sem_are_ties (fCons (fVar 1) (fCons (fVar 2) fNil))))))))
def sem_is_web : Sem0 := semOf 3 g_is_web
/-- _law_cell_at: ['_law_script', '_law_k'] kept: [] -/
def g__law_cell_at : FS := (sSeq (sIf (fCmpT bLt (fVar 1) (fOpN (g1 gLen) (fCons (fVar 0) fNil))) (sRet (fOp2 gIx (fVar 0) (fVar 1))) sNil)
  (sRet (fC (.int 0))))
def sem__law_cell_at : Sem0 := semOf 2 g__law_cell_at
/-- _law_state: ['_law_script', '_law_k', '_law_cell'] kept: [] -/
def g__law_state : FS := (sSeq (sSet 2 (fCall 2 sem__law_cell_at (fCons (fVar 0) (fCons (fVar 1) fNil))))
  (sSeq (sIf (fCmpT bGe (fVar 2) (fOp2 gPow (fC (.int 10)) (fC (.int 18)))) (sRet (fLst (fCons (fOp2 gSub (fVar 2) (fOp2 gPow (fC (.int 10)) (fC (.int 18)))) (fCons (fC (.bool true)) fNil)))) sNil)
  (sRet (fLst (fCons (fOp2 gMod (fVar 2) (fC (.int 2147483647))) (fCons (fC (.bool false)) fNil))))))
def sem__law_state : Sem0 := semOf 3 g__law_state
/-- _law_take: ['_law_state_here', '_law_many', '_law_found', '_law_mixed'] kept: ['_law_state_here'] -/
def g__law_take : FS := (sSeq (sIf (fTru (fOp2 gIx (fVar 0) (fC (.int 1)))) (sSeq (sSet 2 (fOp2 gMod (fOp2 gIx (fVar 0) (fC (.int 0))) (fVar 1)))
  (sSeq (sPut (fVar 0) (fC (.int 0)) (fOp2 gDiv (fOp2 gIx (fVar 0) (fC (.int 0))) (fVar 1)))
  (sRet (fVar 2)))) sNil)
  (sSeq (sPut (fVar 0) (fC (.int 0)) (fOp2 gMod (fOp2 gAdd (fOp2 gMul (fOp2 gIx (fVar 0) (fC (.int 0))) (fC (.int 48271))) (fC (.int 29))) (fC (.int 2147483647))))
  (sSeq (sSet 3 (fOp2 gMod (fOp2 gAdd (fOp2 gAdd (fOp2 gMul (fOp2 gIx (fVar 0) (fC (.int 0))) (fOp2 gIx (fVar 0) (fC (.int 0)))) (fOp2 gMul (fC (.int 39373)) (fOp2 gIx (fVar 0) (fC (.int 0))))) (fC (.int 7))) (fC (.int 2147483629))))
  (sSeq (sSet 3 (fOp2 gMod (fOp2 gAdd (fOp2 gMul (fVar 3) (fVar 3)) (fOp2 gMul (fC (.int 16807)) (fVar 3))) (fC (.int 2147483587))))
  (sRet (fOp2 gMod (fOp2 gDiv (fVar 3) (fC (.int 8))) (fVar 1)))))))
def sem__law_take : Sem0 := semOf 4 g__law_take
/-- _law_pairs: ['_law_places', '_law_found', '_law_a', '_law_b'] kept: ['_law_found'] -/
def g__law_pairs : FS := (sSeq (sSetB 1 (fLst fNil))
  (sSeq (sFor (iRange1 (fCons (fVar 0) fNil)) (hName 2) (sExpr (fExtend (fVar 1) (fCons (fComp [3] (iRange2 (fCons (fOp2 gAdd (fVar 2) (fC (.int 1))) (fCons (fVar 0) fNil))) (hName 3) fYes (fTup (fCons (fVar 2) (fCons (fVar 3) fNil)))) fNil))))
  (sRet (fVar 1))))
def sem__law_pairs : Sem0 := semOf 4 g__law_pairs
/-- _law_order: ['_law_state_here', '_law_many', '_law_left', '_law_k'] kept: ['_law_left', '_law_state_here'] -/
def g__law_order : FS := (sSeq (sSetB 2 (fRng (fCons (fVar 1) fNil)))
  (sRet (fOpN (g1 gTup1) (fCons (fComp [3] (iRange1 (fCons (fVar 1) fNil)) (hName 3) fYes (fPopAt (fVar 2) (fCons (fCall 2 sem__law_take (fCons (fVar 0) (fCons (fOpN (g1 gLen) (fCons (fVar 2) fNil)) fNil))) fNil))) fNil))))
def sem__law_order : Sem0 := semOf 4 g__law_order
/-- _law_web: ['_law_state_here', '_law_least', '_law_most', '_law_places', '_law_kind', '_law_order_here', '_law_full', '_law_ties', '_law_found', '_law_pair', '_law_place', '_law_a', '_law_b'] kept: ['_law_state_here'] -/
def g__law_web : FS := (sSeq (sSet 3 (fOp2 gAdd (fVar 1) (fCall 2 sem__law_take (fCons (fVar 0) (fCons (fOp2 gAdd (fOp2 gSub (fVar 2) (fVar 1)) (fC (.int 1))) fNil)))))
  (sSeq (sSet 4 (fCall 2 sem__law_take (fCons (fVar 0) (fCons (fC (.int 8)) fNil))))
  (sSeq (sSet 5 (fCall 2 sem__law_order (fCons (fVar 0) (fCons (fVar 3) fNil))))
  (sSeq (sSet 6 (fOp2 gIx (fLst (fCons (fC (.int 2)) (fCons (fC (.int 3)) (fCons (fC (.int 5)) (fCons (fC (.int 7)) fNil))))) (fCall 2 sem__law_take (fCons (fVar 0) (fCons (fC (.int 4)) fNil)))))
  (sSeq (sSet 7 (fComp [9] (iD (fCall 1 sem__law_pairs (fCons (fVar 3) fNil))) (hName 9) (fCmpT bLt (fCall 2 sem__law_take (fCons (fVar 0) (fCons (fC (.int 8)) fNil))) (fVar 6)) (fVar 9)))
  (sSeq (sIf (fCmpT (bIn false) (fVar 4) (fTup (fCons (fC (.int 1)) (fCons (fC (.int 2)) (fCons (fC (.int 3)) fNil))))) (sSeq (sSet 7 (fComp [10] (iRange2 (fCons (fC (.int 1)) (fCons (fVar 3) fNil))) (hName 10) fYes (fTup (fCons (fCall 2 sem__law_take (fCons (fVar 0) (fCons (fVar 10) fNil))) (fCons (fVar 10) fNil)))))
  (sIf (fCmpT bEq (fVar 4) (fC (.int 2))) (sSet 7 (fOp2 gCat (fVar 7) (fComp [9] (iD (fCall 1 sem__law_pairs (fCons (fVar 3) fNil))) (hName 9) (fCmpT bEq (fCall 2 sem__law_take (fCons (fVar 0) (fCons (fC (.int 6)) fNil))) (fC (.int 0))) (fVar 9)))) sNil)) sNil)
  (sSeq (sIf (fAndT (fCmpT bEq (fVar 4) (fC (.int 4))) (fCmpT bGt (fVar 3) (fC (.int 2)))) (sSet 7 (fOp2 gCat (fComp [10] (iRange1 (fCons (fOp2 gSub (fVar 3) (fC (.int 1))) fNil)) (hName 10) fYes (fTup (fCons (fVar 10) (fCons (fOp2 gAdd (fVar 10) (fC (.int 1))) fNil)))) (fLst (fCons (fTup (fCons (fC (.int 0)) (fCons (fOp2 gSub (fVar 3) (fC (.int 1))) fNil))) fNil)))) sNil)
  (sSeq (sIf (fCmpT bEq (fVar 4) (fC (.int 5))) (sSet 7 (fOp2 gIx (fLst (fCons (fComp [10] (iRange2 (fCons (fC (.int 1)) (fCons (fVar 3) fNil))) (hName 10) fYes (fTup (fCons (fC (.int 0)) (fCons (fVar 10) fNil)))) (fCons (fCall 1 sem__law_pairs (fCons (fVar 3) fNil)) fNil))) (fCall 2 sem__law_take (fCons (fVar 0) (fCons (fC (.int 2)) fNil))))) sNil)
  (sSeq (sSet 8 (fComp [11, 12] (iD (fVar 7)) (hTup 2 (hCons (hName 11) (hCons (hName 12) hNil))) fYes (fTup (fCons (fOpN (g2 gMin) (fCons (fOp2 gIx (fVar 5) (fVar 11)) (fCons (fOp2 gIx (fVar 5) (fVar 12)) fNil))) (fCons (fOpN (g2 gMax) (fCons (fOp2 gIx (fVar 5) (fVar 11)) (fCons (fOp2 gIx (fVar 5) (fVar 12)) fNil))) fNil)))))
  (sRet (fTup (fCons (fVar 3) (fCons (fOpN (g1 gTup1) (fCons (fSS (fVar 8)) fNil)) fNil)))))))))))))
def sem__law_web : Sem0 := semOf 13 g__law_web
end DL

set_option linter.all false
set_option maxRecDepth 100000
namespace DL
open PySem PySem.Spec L2
/-! ### running the readings -/
section
variable {g g' : FS} {f fa fb fe : FE} {ft : FT} {ε ε1 : DEnv} {S S1 S2 : Bxs} {dv x y : DV} {i : Nat}
theorem sSeq_nx (h : g ε S = some (.nx ε1 S1)) : sSeq g g' ε S = g' ε1 S1 := by simp [sSeq, h]
theorem sSeq_rt (h : g ε S = some (.rt dv S1)) : sSeq g g' ε S = some (.rt dv S1) := by simp [sSeq, h]
theorem sSet_eq (h : f ε S = some (dv, S1)) : sSet i f ε S = some (.nx (ε.set i (some (norm dv))) S1) := by simp [sSet, h]
theorem sSetB_eq {ds : List D} (h : f ε S = some (.lst ds, S1)) : sSetB i f ε S = some (.nx (ε.set i (some (.box S1.length))) (S1 ++ [ds])) := by simp [sSetB, h]
theorem sRet_eq (h : f ε S = some (dv, S1)) : sRet f ε S = some (.rt dv S1) := by simp [sRet, h]
theorem sExpr_eq (h : f ε S = some (dv, S1)) : sExpr f ε S = some (.nx ε S1) := by simp [sExpr, h]
theorem sIf_t (h : ft ε S = some (true, S1)) : sIf ft g g' ε S = g ε S1 := by simp [sIf, h]
theorem sIf_f (h : ft ε S = some (false, S1)) : sIf ft g g' ε S = g' ε S1 := by simp [sIf, h]
theorem sIf_b {b : Bool} (h : ft ε S = some (b, S1)) : sIf ft g g' ε S = if b = true then g ε S1 else g' ε S1 := by cases b <;> simp [sIf, h]
def finOf (S : Bxs) : Option Out → Option (DV × Bxs)
  | some (.rt dv S') => fin S.length dv S'
  | some (.nx _ S') => some (.dat .none, S'.take S.length)
  | _ => none
theorem semOf_eq (m : Nat) (g : FS) (dvs : List DV) (S : Bxs) : semOf m g dvs S = finOf S (g (dvs.map some ++ List.replicate (m - dvs.length) none) S) := by
  unfold semOf finOf
  split <;> rename_i h <;> simp [h]
theorem fin_dat {d : D} {S S' : Bxs} (h : S'.length = S.length) : finOf S (some (.rt (.dat d) S')) = some (.dat d, S') := by
  simp [finOf, fin, ← h]
theorem fin_lst {d : List D} {S S' : Bxs} (h : S'.length = S.length) : finOf S (some (.rt (.lst d) S')) = some (.lst d, S') := by
  simp [finOf, fin, ← h]
/-- what the def keeps for itself goes -/
theorem fin_dat' {d : D} {S S' T : Bxs} (h : S'.length = S.length) : finOf S (some (.rt (.dat d) (S' ++ T))) = some (.dat d, S') := by
  simp [finOf, fin, ← h]
theorem fin_box {S S' T : Bxs} {ds : List D} {k : Nat} (h : S'.length = S.length) (hk : S.length ≤ k) (hd : (S' ++ T)[k]? = some ds) : finOf S (some (.rt (.box k) (S' ++ T))) = some (.lst ds, S') := by
  simp only [finOf, fin]
  rw [if_neg (Nat.not_lt.mpr hk), hd]
  simp [← h]
end
section
variable {fa fb : FE} {fr : FA} {ε : DEnv} {S S1 S2 : Bxs} {x y dv : DV} {xs : List DV}
theorem vr {i : Nat} (h : ε[i]? = some (some dv)) : fVar i ε S = some (dv, S) := by simp [fVar, h]
theorem op2 {g : Bxs → DV → DV → Option DV} (ha : fa ε S = some (x, S1)) (hb : fb ε S1 = some (y, S2)) (hg : g S2 x y = some dv) : fOp2 g fa fb ε S = some (dv, S2) := by simp [fOp2, ha, hb, hg]
theorem opN {g : Bxs → List DV → Option DV} (ha : fr ε S = some (xs, S1)) (hg : g S1 xs = some dv) : fOpN g fr ε S = some (dv, S1) := by simp [fOpN, ha, hg]
theorem cns (ha : fa ε S = some (x, S1)) (hr : fr ε S1 = some (xs, S2)) : fCons fa fr ε S = some (x :: xs, S2) := by simp [fCons, ha, hr]
theorem nl : fNil ε S = some ([], S) := rfl
theorem cl {n : Nat} {sem : Sem0} (ha : fr ε S = some (xs, S1)) (hn : xs.length = n) (h : sem (xs.map norm) S1 = some (dv, S2)) : fCall n sem fr ε S = some (dv, S2) := by simp [fCall, ha, hn, h]
theorem tp {ds : List D} (ha : fr ε S = some (xs, S1)) (h : toDs xs = some ds) (hl : ds.length ≤ 100000) : fTup fr ε S = some (.dat (.tuple ds), S1) := by simp [fTup, ha, h, small, hl]
theorem ls {ds : List D} (ha : fr ε S = some (xs, S1)) (h : toDs xs = some ds) (hl : ds.length ≤ 100000) : fLst fr ε S = some (.lst ds, S1) := by simp [fLst, ha, h, small, hl]
theorem cmT {g : Bxs → DV → DV → Option Bool} {b : Bool} (ha : fa ε S = some (x, S1)) (hb : fb ε S1 = some (y, S2)) (hg : g S2 x y = some b) : fCmpT g fa fb ε S = some (b, S2) := by simp [fCmpT, ha, hb, hg]
theorem cmE {g : Bxs → DV → DV → Option Bool} {b : Bool} (ha : fa ε S = some (x, S1)) (hb : fb ε S1 = some (y, S2)) (hg : g S2 x y = some b) : fOp2 (gB g) fa fb ε S = some (.dat (.bool b), S2) := op2 ha hb (by simp [gB, hg])
theorem it {ds : List D} {d : D} (ha : fa ε S = some (x, S1)) (h : toD x = some d) (hs : seqD d = some ds) : iD fa ε S = some (ds, S1) := by simp [iD, ha, h, hs]
theorem r1 {j : Int} (ha : fr ε S = some ([.dat (.int j)], S1)) (h : okI j = true) : iRange1 fr ε S = some (nums 0 j.toNat, S1) := by simp [iRange1, ha, h, rd]
theorem r2 {i j : Int} (ha : fr ε S = some ([.dat (.int i), .dat (.int j)], S1)) (h : okI i = true) (h' : okI j = true) : iRange2 fr ε S = some (nums i (j - i).toNat, S1) := by simp [iRange2, ha, h, h', rd]
theorem exd {k : Nat} {acc ds : List D} (ho : fa ε S = some (.box k, S1)) (ha : fr ε S1 = some ([y], S2)) (hy : ownL S2 y = some ds) (hk : S2[k]? = some acc) (hs : small (acc.length + ds.length) = true) : fExtend fa fr ε S = some (.dat .none, S2.set k (acc ++ ds)) := by
  unfold fExtend
  rw [ho]
  simp only [ha, hy, hk]
  rw [if_pos hs]
theorem ppa {k j : Nat} {acc : List D} {i : Int} {d : D} (ho : fa ε S = some (.box k, S1)) (ha : fr ε S1 = some ([.dat (.int i)], S2)) (hk : S2[k]? = some acc) (hi : okI i = true) (hj : seqIndex? i acc.length = some j) (hd : acc[j]? = some d) : fPopAt fa fr ε S = some (.dat d, S2.set k (acc.eraseIdx j)) := by
  unfold fPopAt
  rw [ho]
  simp only [ha, rd, hk]
  rw [if_pos hi]
  simp only [hj, hd]
theorem okI_of {i : Int} (h1 : -(2 ^ 62) ≤ i) (h2 : i < 2 ^ 62) : okI i = true := decide_eq_true ⟨h1, h2⟩
end
@[simp] theorem fVar_z (dv : DV) (ε : DEnv) (S : Bxs) : fVar 0 (some dv :: ε) S = some (dv, S) := rfl
@[simp] theorem fVar_s (i : Nat) (x : Option DV) (ε : DEnv) (S : Bxs) : fVar (i + 1) (x :: ε) S = fVar i ε S := by simp [fVar]
@[simp] theorem fC_e (d : D) (ε : DEnv) (S : Bxs) : fC d ε S = some (.dat d, S) := rfl
@[simp] theorem fNil_e (ε : DEnv) (S : Bxs) : fNil ε S = some ([], S) := rfl
@[simp] theorem fYes_e (ε : DEnv) (S : Bxs) : fYes ε S = some (true, S) := rfl
@[simp] theorem rd_dat (S : Bxs) (d : D) : rd S (.dat d) = some d := rfl
@[simp] theorem rd_lst' (S : Bxs) (d : List D) : rd S (.lst d) = some (.list d) := rfl
@[simp] theorem toD_dat (d : D) : toD (.dat d) = some d := rfl
@[simp] theorem toD_lst (d : List D) : toD (.lst d) = some (.list d) := rfl
@[simp] theorem norm_dat (d : D) : norm (.dat d) = .dat d := rfl
@[simp] theorem norm_lst (d : List D) : norm (.lst d) = .dat (.list d) := rfl
@[simp] theorem norm_box (k : Nat) : norm (.box k) = .box k := rfl
theorem rd_box {S : Bxs} {k : Nat} {ds : List D} (h : S[k]? = some ds) : rd S (.box k) = some (.list ds) := by simp [rd, h]
@[simp] theorem sq_tup (S : Bxs) (ds : List D) : sq S (.dat (.tuple ds)) = some ds := rfl
@[simp] theorem sq_lst (S : Bxs) (ds : List D) : sq S (.dat (.list ds)) = some ds := rfl
@[simp] theorem sq_lst' (S : Bxs) (ds : List D) : sq S (.lst ds) = some ds := rfl
theorem sq_box {S : Bxs} {k : Nat} {ds : List D} (h : S[k]? = some ds) : sq S (.box k) = some ds := by simp [sq, rd_box h]
@[simp] theorem gAdd_e (S : Bxs) (i j : Int) : gAdd S (.dat (.int i)) (.dat (.int j)) = some (.dat (.int (i + j))) := rfl
@[simp] theorem gSub_e (S : Bxs) (i j : Int) : gSub S (.dat (.int i)) (.dat (.int j)) = some (.dat (.int (i - j))) := rfl
theorem gMul_e (S : Bxs) (i j : Int) (h : (-(2 ^ 64) < i ∧ i < 2 ^ 64) ∨ (-(2 ^ 64) < j ∧ j < 2 ^ 64)) : gMul S (.dat (.int i)) (.dat (.int j)) = some (.dat (.int (i * j))) := by
  unfold gMul gI
  simp only [rd_dat]
  rw [if_pos (by simpa using h)]
theorem gDiv_e (S : Bxs) (i j : Int) (h : 0 < j) (h' : j < 1073741824) : gDiv S (.dat (.int i)) (.dat (.int j)) = some (.dat (.int (i / j))) := by
  unfold gDiv gI
  simp only [rd_dat]
  rw [if_pos (by simp [h, h'])]
theorem gMod_e (S : Bxs) (i j : Int) (h : 0 < j) : gMod S (.dat (.int i)) (.dat (.int j)) = some (.dat (.int (i % j))) := by
  unfold gMod gI
  simp only [rd_dat]
  rw [if_pos (by simp [h])]
@[simp] theorem gMin_e (S : Bxs) (i j : Int) : gMin S (.dat (.int i)) (.dat (.int j)) = some (.dat (.int (if j < i then j else i))) := rfl
@[simp] theorem gMax_e (S : Bxs) (i j : Int) : gMax S (.dat (.int i)) (.dat (.int j)) = some (.dat (.int (if j > i then j else i))) := rfl
@[simp] theorem bLt_e (S : Bxs) (i j : Int) : bLt S (.dat (.int i)) (.dat (.int j)) = some (decide (i < j)) := rfl
@[simp] theorem bLe_e (S : Bxs) (i j : Int) : bLe S (.dat (.int i)) (.dat (.int j)) = some (decide (i ≤ j)) := rfl
@[simp] theorem bGt_e (S : Bxs) (i j : Int) : bGt S (.dat (.int i)) (.dat (.int j)) = some (decide (j < i)) := rfl
@[simp] theorem bGe_e (S : Bxs) (i j : Int) : bGe S (.dat (.int i)) (.dat (.int j)) = some (decide (j ≤ i)) := rfl
@[simp] theorem shaped_int (i : Int) : SeqAt.shaped (.int i) = true := by simp [SeqAt.shaped, PyData.canLay0, PyData.depth]
@[simp] theorem shaped_bool (i : Bool) : SeqAt.shaped (.bool i) = true := by simp [SeqAt.shaped, PyData.canLay0, PyData.depth]
theorem canAll_map {α : Type} {f : α → D} (h : ∀ a, (f a).canLay0 = true) : ∀ l : List α, PyData.canLayAll0 (l.map f) = true
  | [] => by simp [PyData.canLayAll0]
  | a :: l => by simp [PyData.canLayAll0, h a, canAll_map h l]
theorem depthAll_map {α : Type} {f : α → D} {n : Nat} (h : ∀ a, (f a).depth ≤ n) : ∀ l : List α, PyData.depthAll (l.map f) ≤ n
  | [] => by simp [PyData.depthAll]
  | a :: l => by simp only [List.map_cons, PyData.depthAll]; exact Nat.max_le.mpr ⟨h a, depthAll_map h l⟩
theorem can_dT (ns : List Int) : (dT ns).canLay0 = true := by unfold dT; rw [PyData.canLay0]; exact canAll_map (fun a => by simp [PyData.canLay0]) ns
theorem depth_dT (ns : List Int) : (dT ns).depth ≤ 1 := by
  unfold dT; rw [PyData.depth]
  have := depthAll_map (f := PyData.int) (n := 0) (fun a => by simp [PyData.depth]) ns
  omega
@[simp] theorem shaped_dT (ns : List Int) : SeqAt.shaped (dT ns) = true := by
  unfold SeqAt.shaped
  rw [can_dT, Bool.true_and]
  exact decide_eq_true (Nat.le_trans (depth_dT ns) (by decide))
theorem eqv_int (i j : Int) : PyData.eqv (.int i) (.int j) = decide (i = j) := by simp [PyData.eqv]; rfl
theorem eqv_dT (a b : List Int) : PyData.eqv (dT a) (dT b) = decide (a = b) := by
  unfold dT
  rw [PyData.eqv]
  exact PySem.W.ked_eqvAll a b
@[simp] theorem bEq_int (S : Bxs) (i j : Int) : bEq S (.dat (.int i)) (.dat (.int j)) = some (decide (i = j)) := by
  simp [bEq, eqv_int]
@[simp] theorem bNe_int (S : Bxs) (i j : Int) : bNe S (.dat (.int i)) (.dat (.int j)) = some (!decide (i = j)) := by
  simp [bNe, eqv_int]
theorem bIn_int (S : Bxs) (i : Int) (ns : List Int) (x : DV) (h : sq S x = some (ns.map .int)) : bIn false S (.dat (.int i)) x = some (decide (i ∈ ns)) := by
  unfold bIn
  simp only [rd_dat, h]
  rw [if_pos (by simp [List.all_map])]
  simp only [Bool.false_eq_true, if_false, List.any_map, Option.some.injEq]
  rw [Bool.eq_iff_iff]
  simp [eqv_int]
/-! ### comprehensions that change nothing -/
section
variable {vs : List Nat} {fi : FI} {hg : FG} {ft : FT} {fe : FE} {ε ε0 : DEnv} {S : Bxs}
theorem small_of {n : Nat} (h : n ≤ 100000) : small n = true := decide_eq_true h
theorem get_end (S : Bxs) (a : List D) : (S ++ [a])[S.length]? = some a := by simp
theorem set_end (S : Bxs) (a b : List D) : (S ++ [a]).set S.length b = S ++ [b] := by simp
theorem compD_pure (b : D → Bool) (r : D → D) : ∀ (ds : List D) (acc : List D), acc.length + ds.length ≤ 100000 →
    (∀ d ∈ ds, ∃ ε1, hg d ε0 = some ε1 ∧ (∀ acc, ft ε1 (S ++ [acc]) = some (b d, S ++ [acc])) ∧ (b d = true → ∀ acc, ∃ y, fe ε1 (S ++ [acc]) = some (y, S ++ [acc]) ∧ toD y = some (r d))) →
    compD hg ft fe ε0 S.length ds (S ++ [acc]) = some (S ++ [acc ++ (ds.filter b).map r])
  | [], acc, _, _ => by simp [compD]
  | d :: ds, acc, hl, h => by
    obtain ⟨ε1, h1, h2, h3⟩ := h d List.mem_cons_self
    rw [List.length_cons] at hl
    unfold compD
    rw [h1]
    simp only [h2]
    cases hb : b d with
    | false =>
      simp only
      rw [compD_pure b r ds acc (by omega) fun d hd => h d (List.mem_cons_of_mem _ hd)]
      simp [List.filter_cons, hb]
    | true =>
      obtain ⟨y, h4, h5⟩ := h3 hb acc
      simp only [h4, h5, get_end, set_end]
      rw [if_pos (small_of (by omega)), compD_pure b r ds (acc ++ [r d]) (by simp; omega) fun d hd => h d (List.mem_cons_of_mem _ hd)]
      simp [List.filter_cons, hb]
theorem fComp_pure {ds : List D} (b : D → Bool) (r : D → D) (hi : fi ε S = some (ds, S)) (hl : ds.length ≤ 100000)
    (h : ∀ d ∈ ds, ∃ ε1, hg d (wipeE ε vs) = some ε1 ∧ (∀ acc, ft ε1 (S ++ [acc]) = some (b d, S ++ [acc])) ∧ (b d = true → ∀ acc, ∃ y, fe ε1 (S ++ [acc]) = some (y, S ++ [acc]) ∧ toD y = some (r d))) :
    fComp vs fi hg ft fe ε S = some (.lst ((ds.filter b).map r), S) := by
  unfold fComp
  rw [hi]
  simp only
  rw [compD_pure b r ds [] (by simpa using hl) h]
  simp
/-! ### comprehensions and loops by what holds between two turns -/
theorem compD_inv (J : Nat → Bxs → List D → Prop) : ∀ (ds : List D) (i : Nat) (S : Bxs) (acc : List D), acc.length + ds.length ≤ 100000 → J i S acc →
    (∀ (j : Nat) (d : D) (S1 : Bxs) (a : List D), ds[j]? = some d → S1.length = S.length → J (i + j) S1 a → ∃ ε1 bb S2, hg d ε0 = some ε1 ∧ ft ε1 (S1 ++ [a]) = some (bb, S2 ++ [a]) ∧ S2.length = S.length ∧ (bb = false → J (i + j + 1) S2 a) ∧
      (bb = true → ∃ y dy S3, fe ε1 (S2 ++ [a]) = some (y, S3 ++ [a]) ∧ S3.length = S.length ∧ toD y = some dy ∧ J (i + j + 1) S3 (a ++ [dy]))) →
    ∃ S' acc', compD hg ft fe ε0 S.length ds (S ++ [acc]) = some (S' ++ [acc']) ∧ S'.length = S.length ∧ acc'.length ≤ acc.length + ds.length ∧ J (i + ds.length) S' acc'
  | [], i, S, acc, _, hJ, _ => ⟨S, acc, by simp [compD], rfl, by simp, by simpa using hJ⟩
  | d :: ds, i, S, acc, hl, hJ, h => by
    obtain ⟨ε1, bb, S2, h1, h2, e2, h3, h4⟩ := h 0 d S acc rfl rfl hJ
    rw [List.length_cons] at hl
    have nxt : ∀ (S3 : Bxs) (a : List D), S3.length = S.length → ∀ (j : Nat) (d : D) (S1 : Bxs) (a : List D), ds[j]? = some d → S1.length = S3.length → J (i + 1 + j) S1 a → ∃ ε1 bb S2, hg d ε0 = some ε1 ∧ ft ε1 (S1 ++ [a]) = some (bb, S2 ++ [a]) ∧ S2.length = S3.length ∧ (bb = false → J (i + 1 + j + 1) S2 a) ∧
      (bb = true → ∃ y dy S4, fe ε1 (S2 ++ [a]) = some (y, S4 ++ [a]) ∧ S4.length = S3.length ∧ toD y = some dy ∧ J (i + 1 + j + 1) S4 (a ++ [dy])) := by
      intro S3 _ e3 j d S1 a hd e1 hj
      have e : i + 1 + j = i + (j + 1) := by omega
      rw [e] at hj ⊢
      rw [e3]
      exact h (j + 1) d S1 a (by simpa using hd) (e1.trans e3) hj
    unfold compD
    rw [h1]
    simp only [h2]
    cases bb with
    | false =>
      simp only
      obtain ⟨S', acc', r1, r2, r3, r4⟩ := compD_inv J ds (i + 1) S2 acc (by omega) (h3 rfl) (nxt S2 acc e2)
      rw [e2] at r1 r2
      refine ⟨S', acc', r1, r2, by rw [List.length_cons]; omega, ?_⟩
      rw [List.length_cons, show i + (ds.length + 1) = i + 1 + ds.length by omega]; exact r4
    | true =>
      obtain ⟨y, dy, S3, h5, e3, h6, h7⟩ := h4 rfl
      simp only [h5, h6]
      have g1 : (S3 ++ [acc])[S.length]? = some acc := by rw [← e3]; simp
      have g2 : (S3 ++ [acc]).set S.length (acc ++ [dy]) = S3 ++ [acc ++ [dy]] := by rw [← e3]; simp
      simp only [g1, g2]
      rw [if_pos (small_of (by omega))]
      obtain ⟨S', acc', r1, r2, r3, r4⟩ := compD_inv J ds (i + 1) S3 (acc ++ [dy]) (by simp; omega) h7 (nxt S3 acc e3)
      rw [e3] at r1 r2
      refine ⟨S', acc', r1, r2, by simp at r3 ⊢; omega, ?_⟩
      rw [List.length_cons, show i + (ds.length + 1) = i + 1 + ds.length by omega]; exact r4
theorem fComp_inv {ds : List D} {S1 : Bxs} (J : Nat → Bxs → List D → Prop) (hi : fi ε S = some (ds, S1)) (hl : ds.length ≤ 100000) (h0 : J 0 S1 [])
    (h : ∀ (j : Nat) (d : D) (S2 : Bxs) (a : List D), ds[j]? = some d → S2.length = S1.length → J j S2 a → ∃ ε1 bb S3, hg d (wipeE ε vs) = some ε1 ∧ ft ε1 (S2 ++ [a]) = some (bb, S3 ++ [a]) ∧ S3.length = S1.length ∧ (bb = false → J (j + 1) S3 a) ∧
      (bb = true → ∃ y dy S4, fe ε1 (S3 ++ [a]) = some (y, S4 ++ [a]) ∧ S4.length = S1.length ∧ toD y = some dy ∧ J (j + 1) S4 (a ++ [dy]))) :
    ∃ S' acc, fComp vs fi hg ft fe ε S = some (.lst acc, S') ∧ S'.length = S1.length ∧ acc.length ≤ ds.length ∧ J ds.length S' acc := by
  obtain ⟨S', acc, r1, r2, r3, r4⟩ := compD_inv (ε0 := wipeE ε vs) J ds 0 S1 [] (by simpa using hl) h0 fun j d S2 a hd e hj => by
    rw [Nat.zero_add] at hj ⊢
    exact h j d S2 a hd e hj
  refine ⟨S', acc, ?_, r2, by simpa using r3, by simpa using r4⟩
  unfold fComp
  rw [hi]
  simp only [r1]
  rw [← r2]
  simp
/-- a loop that neither breaks nor returns -/
theorem forD_inv {gb : FS} (J : Nat → DEnv → Bxs → Prop) : ∀ (ds : List D) (i : Nat) (ε : DEnv) (S : Bxs), J i ε S →
    (∀ (j : Nat) (d : D) (ε' : DEnv) (S' : Bxs), ds[j]? = some d → J (i + j) ε' S' → ∃ ε1 ε2 S2, hg d ε' = some ε1 ∧ gb ε1 S' = some (.nx ε2 S2) ∧ J (i + j + 1) ε2 S2) → ∃ ε' S', forD hg gb ds ε S = some (.nx ε' S') ∧ J (i + ds.length) ε' S'
  | [], i, ε, S, hJ, _ => ⟨ε, S, rfl, by simpa using hJ⟩
  | d :: ds, i, ε, S, hJ, h => by
    obtain ⟨ε1, ε2, S2, h1, h2, h3⟩ := h 0 d ε S rfl hJ
    obtain ⟨ε', S', r1, r2⟩ := forD_inv J ds (i + 1) ε2 S2 h3 fun j d ε' S' hd hj => by
      have e : i + 1 + j = i + (j + 1) := by omega
      rw [e] at hj ⊢
      exact h (j + 1) d ε' S' (by simpa using hd) hj
    refine ⟨ε', S', ?_, ?_⟩
    · unfold forD
      simp only [h1, h2]
      exact r1
    · rw [List.length_cons, show i + (ds.length + 1) = i + 1 + ds.length by omega]; exact r2
theorem sFor_inv {gb : FS} {ds : List D} {S1 : Bxs} (J : Nat → DEnv → Bxs → Prop) (hi : fi ε S = some (ds, S1)) (h0 : J 0 ε S1)
    (h : ∀ (j : Nat) (d : D) (ε' : DEnv) (S' : Bxs), ds[j]? = some d → J j ε' S' → ∃ ε1 ε2 S2, hg d ε' = some ε1 ∧ gb ε1 S' = some (.nx ε2 S2) ∧ J (j + 1) ε2 S2) : ∃ ε' S', sFor fi hg gb ε S = some (.nx ε' S') ∧ J ds.length ε' S' := by
  obtain ⟨ε', S', r1, r2⟩ := forD_inv J ds 0 ε S1 h0 fun j d ε' S' hd hj => by
    rw [Nat.zero_add] at hj ⊢
    exact h j d ε' S' hd hj
  refine ⟨ε', S', ?_, by simpa using r2⟩
  unfold sFor
  rw [hi]
  exact r1
end
end DL

set_option linter.all false
set_option maxRecDepth 100000
namespace DL
open PySem PySem.Spec L2
/-! ### drawing -/
theorem atI_int {ns : List D} {i : Int} {d : D} (h0 : 0 ≤ i) (h : ns[i.toNat]? = some d) : atI ns i = some d := by
  have := atI_nat (xs := ns) (j := i.toNat) h
  rw [show ((i.toNat : Nat) : Int) = i by omega] at this
  exact this
theorem gIx_e {S : Bxs} {x : DV} {ds : List D} {i : Int} {d : D} (h : sq S x = some ds) (h0 : 0 ≤ i) (hd : ds[i.toNat]? = some d) : gIx S x (.dat (.int i)) = some (.dat d) := by
  unfold gIx
  simp only [h, rd_dat, atI_int h0 hd, Option.map_some]
def cellI (ns : List Int) (k : Nat) : Int := ns.getD k 0
theorem cell_at_eq (ns : List Int) (k : Nat) (S : Bxs) : sem__law_cell_at [.dat (.list (ns.map .int)), .dat (.int k)] S = some (.dat (.int (cellI ns k)), S) := by
  unfold sem__law_cell_at
  rw [semOf_eq]
  show finOf S (g__law_cell_at [some _, some _] S) = _
  unfold g__law_cell_at
  have test : fCmpT bLt (fVar 1) (fOpN (g1 gLen) (fCons (fVar 0) fNil)) [some (.dat (.list (ns.map .int))), some (.dat (.int k))] S = some (decide ((k : Int) < ns.length), S) := by
    simp [fCmpT, fOpN, fCons, g1, gLen]
  by_cases h : k < ns.length
  · rw [decide_eq_true (by omega)] at test
    have e : fOp2 gIx (fVar 0) (fVar 1) [some (.dat (.list (ns.map .int))), some (.dat (.int k))] S = some (.dat (.int (cellI ns k)), S) := by
      simp only [fOp2, fVar_z, fVar_s]
      rw [gIx_e (d := .int (cellI ns k)) (sq_lst _ _) (by omega) (by simp [cellI, h])]
    rw [sSeq_rt ((sIf_t test).trans (sRet_eq e))]
    exact fin_dat rfl
  · rw [decide_eq_false (by omega)] at test
    rw [sSeq_nx ((sIf_f test).trans rfl), sRet_eq (fC_e _ _ _), fin_dat rfl]
    simp [cellI, List.getD_eq_getElem?_getD, List.getElem?_eq_none (Nat.not_lt.mp h)]
/-- the state of a drawing -/
def StV (v : List D) : Prop := ∃ a b, v = [.int a, .bool b] ∧ 0 ≤ a ∧ (b = false → a < 2147483647)
theorem pow_e (ε : DEnv) (S : Bxs) : fOp2 gPow (fC (.int 10)) (fC (.int 18)) ε S = some (.dat (.int (10 ^ 18)), S) := by
  simp only [fOp2, fC_e]
  rfl
theorem state_ok (ns : List Int) (k : Nat) (S : Bxs) : ∃ v, sem__law_state [.dat (.list (ns.map .int)), .dat (.int k)] S = some (.lst v, S) ∧ StV v := by
  unfold sem__law_state
  rw [semOf_eq]
  show ∃ v, finOf S (g__law_state [some _, some _, none] S) = _ ∧ _
  unfold g__law_state
  have call : fCall 2 sem__law_cell_at (fCons (fVar 0) (fCons (fVar 1) fNil)) [some (.dat (.list (ns.map .int))), some (.dat (.int k)), none] S = some (.dat (.int (cellI ns k)), S) := by
    simp [fCall, fCons, cell_at_eq]
  rw [sSeq_nx (sSet_eq call)]
  simp only [List.set_cons_succ, List.set_cons_zero, norm_dat]
  generalize cellI ns k = c
  have test : fCmpT bGe (fVar 2) (fOp2 gPow (fC (.int 10)) (fC (.int 18))) [some (.dat (.list (ns.map .int))), some (.dat (.int k)), some (.dat (.int c))] S = some (decide (10 ^ 18 ≤ c), S) := by
    simp only [fCmpT, fVar_s, fVar_z, pow_e, bGe_e]
  by_cases h : (10 : Int) ^ 18 ≤ c
  · rw [decide_eq_true h] at test
    refine ⟨[.int (c - 10 ^ 18), .bool true], ?_, _, _, rfl, by omega, fun z => nomatch z⟩
    rw [sSeq_rt ((sIf_t test).trans (sRet_eq (dv := .lst [.int (c - 10 ^ 18), .bool true]) (S1 := S) ?_))]
    · exact fin_lst rfl
    · simp only [fLst, fCons, fNil_e, fOp2, fVar_s, fVar_z, fC_e, gSub_e, show gPow S (.dat (.int 10)) (.dat (.int 18)) = some (.dat (.int (10 ^ 18))) from rfl, toDs, toD_dat]
      rfl
  · rw [decide_eq_false h] at test
    refine ⟨[.int (c % 2147483647), .bool false], ?_, _, _, rfl, Int.emod_nonneg _ (by decide), fun _ => Int.emod_lt_of_pos _ (by decide)⟩
    rw [sSeq_nx ((sIf_f test).trans rfl), sRet_eq (dv := .lst [.int (c % 2147483647), .bool false]) (S1 := S) ?_]
    · exact fin_lst rfl
    · simp only [fLst, fCons, fNil_e, fOp2, fVar_s, fVar_z, fC_e, gMod_e S c 2147483647 (by decide), toDs, toD_dat]
      rfl
theorem ix_box {S : Bxs} {i j : Nat} {ds : List D} {d : D} {ε : DEnv} (hS : S[i]? = some ds) (hd : ds[j]? = some d) (hi : ε[0]? = some (some (.box i))) : fOp2 gIx (fVar 0) (fC (.int j)) ε S = some (.dat d, S) := by
  simp only [fOp2, fVar, hi, fC_e]
  rw [gIx_e (sq_box hS) (by omega) (by simpa using hd)]
theorem take_ok {S : Bxs} {i : Nat} {v : List D} {many : Int} (hS : S[i]? = some v) (hv : StV v) (hm : 0 < many) (hm2 : many < 1073741824) :
    ∃ r v', sem__law_take [.box i, .dat (.int many)] S = some (.dat (.int r), S.set i v') ∧ 0 ≤ r ∧ r < many ∧ StV v' := by
  obtain ⟨a, b, rfl, h0, hb⟩ := hv
  have il : i < S.length := (List.getElem?_eq_some_iff.mp hS).1
  unfold sem__law_take
  simp only [semOf_eq]
  show ∃ r v', finOf S (g__law_take [some _, some _, none, none] S) = _ ∧ _
  unfold g__law_take
  have e0 : ∀ (x y : Option DV), fOp2 gIx (fVar 0) (fC (.int 0)) [some (.box i), some (.dat (.int many)), x, y] S = some (.dat (.int a), S) := fun x y => ix_box (j := 0) hS rfl rfl
  have e1 : ∀ (x y : Option DV), fOp2 gIx (fVar 0) (fC (.int 1)) [some (.box i), some (.dat (.int many)), x, y] S = some (.dat (.bool b), S) := fun x y => ix_box (j := 1) hS rfl rfl
  have test : fTru (fOp2 gIx (fVar 0) (fC (.int 1))) [some (.box i), some (.dat (.int many)), none, none] S = some (b, S) := by
    simp only [fTru, e1, rd_dat, tru]
  -- a store
  have put : ∀ (x y : Option DV) (fe : FE) (z : Int), fe [some (.box i), some (.dat (.int many)), x, y] S = some (.dat (.int z), S) → sPut (fVar 0) (fC (.int 0)) fe [some (.box i), some (.dat (.int many)), x, y] S = some (.nx [some (.box i), some (.dat (.int many)), x, y] (S.set i [.int z, .bool b])) := by
    intro x y fe z hz
    simp only [sPut, hz, toD_dat, fVar_z, fC_e, rd_dat, hS]
    rfl
  have len : ∀ z : List D, (S.set i z).length = S.length := fun z => by simp
  cases b with
  | true =>
    have s1 : sSet 2 (fOp2 gMod (fOp2 gIx (fVar 0) (fC (.int 0))) (fVar 1)) [some (.box i), some (.dat (.int many)), none, none] S = some (.nx [some (.box i), some (.dat (.int many)), some (.dat (.int (a % many))), none] S) := by
      rw [sSet_eq (dv := .dat (.int (a % many))) (S1 := S)]
      · rfl
      · exact op2 (e0 _ _) (vr rfl) (gMod_e S a many hm)
    have s2 := put (some (.dat (.int (a % many)))) none (fOp2 gDiv (fOp2 gIx (fVar 0) (fC (.int 0))) (fVar 1)) (a / many) (op2 (e0 _ _) (vr rfl) (gDiv_e S a many hm hm2))
    refine ⟨a % many, [.int (a / many), .bool true], ?_, Int.emod_nonneg _ (by omega), Int.emod_lt_of_pos _ hm, _, _, rfl, Int.ediv_nonneg h0 (by omega), fun z => nomatch z⟩
    rw [sSeq_rt ((sIf_t test).trans ((sSeq_nx s1).trans ((sSeq_nx s2).trans (sRet_eq (dv := .dat (.int (a % many))) (S1 := S.set i [.int (a / many), .bool true]) (by simp)))))]
    exact fin_dat (len _)
  | false =>
    have ha := hb rfl
    have n0 : 0 ≤ (a * 48271 + 29) % 2147483647 := Int.emod_nonneg _ (by decide)
    have n1 : (a * 48271 + 29) % 2147483647 < 2147483647 := Int.emod_lt_of_pos _ (by decide)
    have s1 := put none none (fOp2 gMod (fOp2 gAdd (fOp2 gMul (fOp2 gIx (fVar 0) (fC (.int 0))) (fC (.int 48271))) (fC (.int 29))) (fC (.int 2147483647))) ((a * 48271 + 29) % 2147483647) (op2 (op2 (op2 (e0 _ _) (fC_e _ _ _) (gMul_e S a 48271 (.inr (by decide)))) (fC_e _ _ _) (gAdd_e _ _ _)) (fC_e _ _ _) (gMod_e S _ 2147483647 (by decide)))
    generalize (a * 48271 + 29) % 2147483647 = c at n0 n1 s1
    have hS2 : (S.set i [.int c, .bool false])[i]? = some [.int c, .bool false] := List.getElem?_set_self il
    have f0 : ∀ (x y : Option DV), fOp2 gIx (fVar 0) (fC (.int 0)) [some (.box i), some (.dat (.int many)), x, y] (S.set i [.int c, .bool false]) = some (.dat (.int c), S.set i [.int c, .bool false]) := fun x y => ix_box (j := 0) hS2 rfl rfl
    have s2 : sSet 3 (fOp2 gMod (fOp2 gAdd (fOp2 gAdd (fOp2 gMul (fOp2 gIx (fVar 0) (fC (.int 0))) (fOp2 gIx (fVar 0) (fC (.int 0)))) (fOp2 gMul (fC (.int 39373)) (fOp2 gIx (fVar 0) (fC (.int 0))))) (fC (.int 7))) (fC (.int 2147483629))) [some (.box i), some (.dat (.int many)), none, none] (S.set i [.int c, .bool false]) =
        some (.nx [some (.box i), some (.dat (.int many)), none, some (.dat (.int ((c * c + 39373 * c + 7) % 2147483629)))] (S.set i [.int c, .bool false])) := by
      rw [sSet_eq (dv := .dat (.int ((c * c + 39373 * c + 7) % 2147483629))) (S1 := S.set i [.int c, .bool false])]
      · rfl
      · exact op2 (op2 (op2 (op2 (f0 _ _) (f0 _ _) (gMul_e _ c c (.inl (by omega)))) (op2 (fC_e _ _ _) (f0 _ _) (gMul_e _ 39373 c (.inl (by decide)))) (gAdd_e _ _ _)) (fC_e _ _ _) (gAdd_e _ _ _)) (fC_e _ _ _) (gMod_e _ _ 2147483629 (by decide))
    have d0 : 0 ≤ (c * c + 39373 * c + 7) % 2147483629 := Int.emod_nonneg _ (by decide)
    have d1 : (c * c + 39373 * c + 7) % 2147483629 < 2147483629 := Int.emod_lt_of_pos _ (by decide)
    generalize (c * c + 39373 * c + 7) % 2147483629 = e at d0 d1 s2
    have s3 : sSet 3 (fOp2 gMod (fOp2 gAdd (fOp2 gMul (fVar 3) (fVar 3)) (fOp2 gMul (fC (.int 16807)) (fVar 3))) (fC (.int 2147483587))) [some (.box i), some (.dat (.int many)), none, some (.dat (.int e))] (S.set i [.int c, .bool false]) =
        some (.nx [some (.box i), some (.dat (.int many)), none, some (.dat (.int ((e * e + 16807 * e) % 2147483587)))] (S.set i [.int c, .bool false])) := by
      rw [sSet_eq (dv := .dat (.int ((e * e + 16807 * e) % 2147483587))) (S1 := S.set i [.int c, .bool false])]
      · rfl
      · exact op2 (op2 (op2 (vr rfl) (vr rfl) (gMul_e _ e e (.inl (by omega)))) (op2 (fC_e _ _ _) (vr rfl) (gMul_e _ 16807 e (.inl (by decide)))) (gAdd_e _ _ _)) (fC_e _ _ _) (gMod_e _ _ 2147483587 (by decide))
    generalize (e * e + 16807 * e) % 2147483587 = q at s3
    refine ⟨q / 8 % many, [.int c, .bool false], ?_, Int.emod_nonneg _ (by omega), Int.emod_lt_of_pos _ hm, _, _, rfl, n0, fun _ => n1⟩
    rw [sSeq_nx ((sIf_f test).trans rfl), sSeq_nx s1, sSeq_nx s2, sSeq_nx s3, sRet_eq (dv := .dat (.int (q / 8 % many))) (S1 := S.set i [.int c, .bool false])]
    · exact fin_dat (len _)
    · exact op2 (op2 (vr rfl) (fC_e _ _ _) (gDiv_e _ q 8 (by decide) (by decide))) (vr rfl) (gMod_e _ _ many hm)
end DL

set_option linter.all false
set_option maxRecDepth 100000
namespace DL
open PySem PySem.Spec L2
/-! ### all pairs -/
def rowP (m a : Nat) : List (List Int) := (List.range (m - (a + 1))).map fun (j : Nat) => [(a : Int), (a : Int) + 1 + (j : Int)]
def allPairs (m : Nat) : List (List Int) := (List.range m).flatMap (rowP m)
/-- a pair of places -/
def TieIn (n : Int) (t : List Int) : Prop := ∃ a b, t = [a, b] ∧ 0 ≤ a ∧ a < b ∧ b < n
theorem mem_rowP {m a : Nat} {t : List Int} : t ∈ rowP m a ↔ ∃ b : Int, t = [(a : Int), b] ∧ (a : Int) < b ∧ b < m := by
  unfold rowP
  rw [List.mem_map]
  constructor
  · rintro ⟨j, hj, rfl⟩
    rw [List.mem_range] at hj
    exact ⟨_, rfl, by omega, by omega⟩
  · rintro ⟨b, rfl, h1, h2⟩
    refine ⟨(b - a - 1).toNat, ?_, ?_⟩
    · rw [List.mem_range]; omega
    · congr 2; omega
theorem mem_allPairs {m : Nat} {t : List Int} : t ∈ allPairs m ↔ TieIn m t := by
  unfold allPairs
  rw [List.mem_flatMap]
  constructor
  · rintro ⟨a, ha, h⟩
    obtain ⟨b, rfl, h1, h2⟩ := mem_rowP.mp h
    exact ⟨a, b, rfl, by omega, h1, h2⟩
  · rintro ⟨a, b, rfl, h0, h1, h2⟩
    refine ⟨a.toNat, by rw [List.mem_range]; omega, mem_rowP.mpr ⟨b, ?_, by omega, h2⟩⟩
    congr 1; omega
theorem rowP_len (m a : Nat) : (rowP m a).length ≤ m := by unfold rowP; simp
theorem flat_len {f : Nat → List (List Int)} {m : Nat} (h : ∀ a, (f a).length ≤ m) : ∀ l : List Nat, (l.flatMap f).length ≤ l.length * m
  | [] => by simp
  | a :: l => by
    rw [List.flatMap_cons, List.length_append, List.length_cons, Nat.succ_mul]
    have := h a; have := flat_len h l; omega
theorem nums_get {lo : Int} {n j : Nat} {d : D} (h : (nums lo n)[j]? = some d) : d = .int (lo + j) ∧ j < n := by
  unfold nums at h
  rw [List.getElem?_map] at h
  by_cases hj : j < n
  · rw [List.getElem?_range hj] at h; cases h; exact ⟨rfl, hj⟩
  · rw [List.getElem?_eq_none (by simpa using hj)] at h; cases h
theorem nums_len (lo : Int) (n : Nat) : (nums lo n).length = n := by simp [nums]
theorem nums_mem {lo : Int} {n : Nat} {d : D} (h : d ∈ nums lo n) : ∃ j : Nat, d = .int (lo + j) ∧ j < n := by
  obtain ⟨j, hj⟩ := List.mem_iff_getElem?.mp h
  obtain ⟨e, l⟩ := nums_get hj
  exact ⟨j, e, l⟩
theorem toDs2 (a b : D) : toDs [.dat a, .dat b] = some [a, b] := rfl
theorem pairs_row (m j : Nat) (hm : m ≤ 100) (hj : j < m) (S : Bxs) (y : Option DV) (A : List D) : fComp [3] (iRange2 (fCons (fOp2 gAdd (fVar 2) (fC (.int 1))) (fCons (fVar 0) fNil))) (hName 3) fYes (fTup (fCons (fVar 2) (fCons (fVar 3) fNil))) [some (.dat (.int m)), y, some (.dat (.int (0 + j))), none] (S ++ [A]) = some (.lst ((rowP m j).map dT), S ++ [A]) := by
  have hi : iRange2 (fCons (fOp2 gAdd (fVar 2) (fC (.int 1))) (fCons (fVar 0) fNil)) [some (.dat (.int m)), y, some (.dat (.int (0 + j))), none] (S ++ [A]) = some (nums (0 + j + 1) ((m : Int) - (0 + j + 1)).toNat, S ++ [A]) := r2 (cns (op2 (vr rfl) (fC_e _ _ _) (gAdd_e _ _ _)) (cns (vr rfl) nl)) (okI_of (by omega) (by omega)) (okI_of (by omega) (by omega))
  have key := fComp_pure (vs := [3]) (hg := hName 3) (ft := fYes) (fe := fTup (fCons (fVar 2) (fCons (fVar 3) fNil))) (fun _ => true) (fun d => match d with | .int b => dT [(j : Int), b] | _ => .none) hi (by rw [nums_len]; omega) (by
    intro d hd
    obtain ⟨b, rfl, hb⟩ := nums_mem hd
    refine ⟨[some (.dat (.int m)), y, some (.dat (.int (0 + j))), some (.dat (.int (0 + j + 1 + b)))], rfl, fun _ => rfl, fun _ acc => ⟨_, tp (cns (vr rfl) (cns (vr rfl) nl)) (toDs2 _ _) (by simp), ?_⟩⟩
    simp [dT])
  rw [key]
  refine congrArg (fun z => some (DV.lst z, S ++ [A])) ?_
  unfold nums rowP
  rw [List.filter_eq_self.mpr (fun _ _ => rfl), List.map_map, List.map_map]
  rw [show ((m : Int) - (0 + j + 1)).toNat = m - (j + 1) by omega]
  simp
theorem pairs_step (m j : Nat) (hm : m ≤ 100) (hj : j < m) (S : Bxs) : sExpr (fExtend (fVar 1) (fCons (fComp [3] (iRange2 (fCons (fOp2 gAdd (fVar 2) (fC (.int 1))) (fCons (fVar 0) fNil))) (hName 3) fYes (fTup (fCons (fVar 2) (fCons (fVar 3) fNil)))) fNil)) [some (.dat (.int m)), some (.box S.length), some (.dat (.int (0 + j))), none] (S ++ [((List.range j).flatMap (rowP m)).map dT]) =
    some (.nx [some (.dat (.int m)), some (.box S.length), some (.dat (.int (0 + j))), none] (S ++ [((List.range (j + 1)).flatMap (rowP m)).map dT])) := by
  have hlen : ((List.range j).flatMap (rowP m)).length ≤ j * m := by
    have := flat_len (rowP_len m) (List.range j)
    rw [List.length_range] at this; exact this
  have h2 : j * m ≤ 100 * 100 := Nat.mul_le_mul (by omega) hm
  have hrow := rowP_len m j
  have e : ((List.range (j + 1)).flatMap (rowP m)).map dT = ((List.range j).flatMap (rowP m)).map dT ++ (rowP m j).map dT := by
    rw [List.range_succ, List.flatMap_append, List.map_append]; simp
  rw [e]
  generalize ((List.range j).flatMap (rowP m)) = A at hlen
  have hs : small ((A.map dT).length + ((rowP m j).map dT).length) = true := small_of (by rw [List.length_map, List.length_map]; omega)
  refine sExpr_eq (dv := .dat .none) ?_
  have ha := cns (pairs_row m j hm hj S (some (.box S.length)) (A.map dT)) nl
  rw [exd (vr (dv := .box S.length) rfl) ha (ds := (rowP m j).map dT) rfl (get_end _ _) hs, set_end]
theorem pairs_eq (m : Nat) (hm : m ≤ 100) (S : Bxs) : sem__law_pairs [.dat (.int m)] S = some (.lst ((allPairs m).map dT), S) := by
  unfold sem__law_pairs
  rw [semOf_eq]
  show finOf S (g__law_pairs [some _, none, none, none] S) = _
  unfold g__law_pairs
  have s1 : sSetB 1 (fLst fNil) [some (.dat (.int m)), none, none, none] S = some (.nx [some (.dat (.int m)), some (.box S.length), none, none] (S ++ [[]])) := sSetB_eq (ls nl rfl (Nat.zero_le _))
  rw [sSeq_nx s1]
  have hi : iRange1 (fCons (fVar 0) fNil) [some (.dat (.int m)), some (.box S.length), none, none] (S ++ [[]]) = some (nums 0 (m : Int).toNat, S ++ [[]]) := r1 (cns (vr rfl) nl) (okI_of (by omega) (by omega))
  obtain ⟨ε', S', h1, x, e1, e2⟩ := sFor_inv (hg := hName 2) (gb := sExpr (fExtend (fVar 1) (fCons (fComp [3] (iRange2 (fCons (fOp2 gAdd (fVar 2) (fC (.int 1))) (fCons (fVar 0) fNil))) (hName 3) fYes (fTup (fCons (fVar 2) (fCons (fVar 3) fNil)))) fNil)))
    (fun j ε S' => ∃ x, ε = [some (.dat (.int m)), some (.box S.length), x, none] ∧ S' = S ++ [((List.range j).flatMap (rowP m)).map dT]) hi ⟨none, rfl, rfl⟩ (by
    rintro j d ε' S' hd ⟨x, rfl, rfl⟩
    obtain ⟨rfl, hj⟩ := nums_get hd
    exact ⟨_, _, _, rfl, pairs_step m j hm (by omega) S, _, rfl, rfl⟩)
  subst e1 e2
  rw [nums_len, show ((m : Int).toNat) = m by omega] at h1
  rw [sSeq_nx h1, sRet_eq (vr (dv := .box S.length) rfl)]
  exact fin_box (T := [(allPairs m).map dT]) rfl (Nat.le_refl _) (get_end _ _)
end DL

set_option linter.all false
set_option maxRecDepth 100000
namespace DL
open PySem PySem.Spec L2
theorem set_app {S T : Bxs} {i : Nat} {v v' : List D} (hi : i < S.length) : (S.set i v ++ T).set i v' = S.set i v' ++ T := by
  rw [List.set_append_left _ _ (by simpa using hi), List.set_set]
theorem get_app {S T : Bxs} {i : Nat} {v : List D} (hi : i < S.length) : (S.set i v ++ T)[i]? = some v := by
  rw [List.getElem?_append_left (by simpa using hi), List.getElem?_set_self hi]
theorem set_self {S : Bxs} {i : Nat} {v : List D} (h : S[i]? = some v) : S.set i v = S := by
  obtain ⟨hi, e⟩ := List.getElem?_eq_some_iff.mp h
  rw [← e]; exact List.set_getElem_self hi
theorem len_e {S : Bxs} {x : DV} {ds : List D} (h : sq S x = some ds) : g1 gLen S [x] = some (.dat (.int ds.length)) := by
  unfold g1 gLen
  simp only [h]
/-- take in a frame -/
theorem tk {ε : DEnv} {X : Bxs} {i : Nat} {v : List D} {fa : FE} {many : Int} (he : ε[0]? = some (some (.box i))) (hX : X[i]? = some v) (hv : StV v) (ha : fa ε X = some (.dat (.int many), X)) (hm : 0 < many) (hm2 : many < 1073741824) :
    ∃ r v', fCall 2 sem__law_take (fCons (fVar 0) (fCons fa fNil)) ε X = some (.dat (.int r), X.set i v') ∧ 0 ≤ r ∧ r < many ∧ StV v' := by
  obtain ⟨r, v', h1, h2, h3, h4⟩ := take_ok hX hv hm hm2
  exact ⟨r, v', cl (cns (vr he) (cns ha nl)) rfl h1, h2, h3, h4⟩
theorem tkS {ε : DEnv} {S T : Bxs} {i : Nat} {v : List D} {fa : FE} {many : Int} (hi : i < S.length) (he : ε[0]? = some (some (.box i))) (hv : StV v) (ha : fa ε (S.set i v ++ T) = some (.dat (.int many), S.set i v ++ T)) (hm : 0 < many) (hm2 : many < 1073741824) :
    ∃ r v', fCall 2 sem__law_take (fCons (fVar 0) (fCons fa fNil)) ε (S.set i v ++ T) = some (.dat (.int r), S.set i v' ++ T) ∧ 0 ≤ r ∧ r < many ∧ StV v' := by
  obtain ⟨r, v', h1, h2, h3, h4⟩ := tk he (get_app hi) hv ha hm hm2
  rw [set_app hi] at h1
  exact ⟨r, v', h1, h2, h3, h4⟩
theorem tkS0 {ε : DEnv} {S : Bxs} {i : Nat} {v : List D} {fa : FE} {many : Int} (hi : i < S.length) (he : ε[0]? = some (some (.box i))) (hv : StV v) (ha : fa ε (S.set i v) = some (.dat (.int many), S.set i v)) (hm : 0 < many) (hm2 : many < 1073741824) :
    ∃ r v', fCall 2 sem__law_take (fCons (fVar 0) (fCons fa fNil)) ε (S.set i v) = some (.dat (.int r), S.set i v') ∧ 0 ≤ r ∧ r < many ∧ StV v' := by
  have := tkS (T := []) hi he hv (by simpa using ha) hm hm2
  simpa using this
/-! ### an order -/
def upto (m : Nat) : List Int := (List.range m).map fun (i : Nat) => (i : Int)
theorem eraseIdx_map {α β : Type} (f : α → β) : ∀ (l : List α) (k : Nat), (l.map f).eraseIdx k = (l.eraseIdx k).map f
  | [], _ => rfl
  | _ :: _, 0 => rfl
  | a :: l, k + 1 => by simp [eraseIdx_map f l k]
theorem perm_erase {α : Type} : ∀ (l : List α) (k : Nat) (x : α), l[k]? = some x → (l.eraseIdx k ++ [x]).Perm l
  | [], _, _, h => by simp at h
  | a :: l, 0, x, h => by simp at h; subst h; exact List.perm_append_singleton a l
  | a :: l, k + 1, x, h => by
    rw [List.eraseIdx_cons_succ, List.cons_append]
    exact (perm_erase l k x (by simpa using h)).cons a
theorem order_ok {S : Bxs} {i : Nat} {v : List D} {m : Nat} (hi : i < S.length) (hv : StV v) (hm : m ≤ 100) :
    ∃ (o : List Int) (v' : List D), sem__law_order [.box i, .dat (.int m)] (S.set i v) = some (.dat (.tuple (o.map .int)), S.set i v') ∧ StV v' ∧ o.Perm (upto m) := by
  unfold sem__law_order
  simp only [semOf_eq]
  show ∃ (o : List Int) (v' : List D), finOf (S.set i v) (g__law_order [some _, some _, none, none] (S.set i v)) = _ ∧ _
  unfold g__law_order
  have hl : (S.set i v).length = S.length := by simp
  have e0 : nums 0 (m : Int).toNat = (upto m).map .int := by
    unfold nums upto
    rw [List.map_map, show ((m : Int).toNat) = m by omega]
    simp
  have s1 : sSetB 2 (fRng (fCons (fVar 1) fNil)) [some (.box i), some (.dat (.int m)), none, none] (S.set i v) = some (.nx [some (.box i), some (.dat (.int m)), some (.box S.length), none] (S.set i v ++ [(upto m).map .int])) := by
    rw [sSetB_eq (ds := (upto m).map .int) (S1 := S.set i v), hl]
    · rfl
    · have hc : (decide ((0 : Int) ≤ m) && decide ((m : Int) ≤ 1000)) = true := by simp; omega
      unfold fRng
      rw [cns (vr (dv := .dat (.int m)) rfl) nl]
      simp only [rd_dat]
      rw [if_pos hc, e0]
  simp only [sSeq_nx s1]
  have hfi : iRange1 (fCons (fVar 1) fNil) [some (.box i), some (.dat (.int m)), some (.box S.length), none] (S.set i v ++ [(upto m).map .int]) = some (nums 0 (m : Int).toNat, S.set i v ++ [(upto m).map .int]) := r1 (cns (vr rfl) nl) (okI_of (by omega) (by omega))
  obtain ⟨S', acc, h1, h2, h3, v', left, acc0, rfl, hv', rfl, hlen, hp⟩ := fComp_inv (vs := [3]) (hg := hName 3) (ft := fYes) (fe := fPopAt (fVar 2) (fCons (fCall 2 sem__law_take (fCons (fVar 0) (fCons (fOpN (g1 gLen) (fCons (fVar 2) fNil)) fNil))) fNil))
    (fun j S' a => ∃ (v' : List D) (left acc0 : List Int), S' = S.set i v' ++ [left.map .int] ∧ StV v' ∧ a = acc0.map .int ∧ acc0.length = j ∧ (left ++ acc0).Perm (upto m)) hfi (by rw [nums_len]; omega) ⟨v, upto m, [], rfl, hv, rfl, rfl, by simp⟩ (by
    rintro j d S2 a hd hS2 ⟨v', left, acc0, rfl, hv', rfl, hlen, hp⟩
    obtain ⟨rfl, hj⟩ := nums_get hd
    have hj : j < m := by omega
    have hll : left.length + j = m := by
      have := hp.length_eq
      simp [upto] at this
      omega
    refine ⟨_, true, _, rfl, rfl, hS2, (fun z => nomatch z), fun _ => ?_⟩
    have hln : ((S.set i v' ++ [left.map PyData.int]) ++ [acc0.map PyData.int])[S.length]? = some (left.map .int) := by
      rw [List.append_assoc, ← (by simp : (S.set i v').length = S.length), List.getElem?_append_right (Nat.le_refl _)]
      simp
    have hn : fOpN (g1 gLen) (fCons (fVar 2) fNil) [some (.box i), some (.dat (.int m)), some (.box S.length), some (.dat (.int (0 + j)))] ((S.set i v' ++ [left.map PyData.int]) ++ [acc0.map PyData.int]) = some (.dat (.int left.length), (S.set i v' ++ [left.map PyData.int]) ++ [acc0.map PyData.int]) := by
      refine opN (cns (vr (dv := .box S.length) rfl) nl) ?_
      exact (len_e (sq_box hln)).trans (by rw [List.length_map])
    rw [List.append_assoc] at hn
    obtain ⟨r, v'', t1, t2, t3, t4⟩ := tkS (S := S) (T := [left.map PyData.int] ++ [acc0.map PyData.int]) (v := v') (many := left.length) hi rfl hv' hn (by omega) (by omega)
    rw [← List.append_assoc, ← List.append_assoc] at t1
    have hr : r.toNat < left.length := by omega
    have hln2 : ((S.set i v'' ++ [left.map PyData.int]) ++ [acc0.map PyData.int])[S.length]? = some (left.map .int) := by
      rw [List.append_assoc, ← (by simp : (S.set i v'').length = S.length), List.getElem?_append_right (Nat.le_refl _)]
      simp
    have pop := ppa (fa := fVar 2) (j := r.toNat) (d := .int left[r.toNat]) (vr (ε := [some (.box i), some (.dat (.int m)), some (.box S.length), some (.dat (.int (0 + j)))]) (dv := .box S.length) rfl) (cns t1 nl) hln2 (okI_of (by omega) (by omega)) (by rw [List.length_map]; exact seqIndex_of t2 (by omega)) (by simp [hr])
    refine ⟨.dat (.int left[r.toNat]), .int left[r.toNat], S.set i v'' ++ [(left.eraseIdx r.toNat).map .int], ?_, by simp, rfl, v'', left.eraseIdx r.toNat, acc0 ++ [left[r.toNat]], rfl, t4, by simp, by simp [hlen], ?_⟩
    · refine pop.trans ?_
      rw [eraseIdx_map]
      refine congrArg (fun z => some (DV.dat (.int left[r.toNat]), z)) ?_
      rw [List.append_assoc, List.append_assoc, ← (by simp : (S.set i v'').length = S.length), List.set_append_right _ _ (Nat.le_refl _)]
      simp
    · refine List.Perm.trans ?_ hp
      have := perm_erase left r.toNat left[r.toNat] (by simp [hr])
      refine List.Perm.trans ?_ (this.append_right acc0)
      rw [List.append_assoc]
      exact List.Perm.append_left _ List.perm_append_comm)
  rw [nums_len] at hlen
  have hle : left.length = 0 := by
    have := hp.length_eq
    simp [upto] at this
    omega
  have : left = [] := List.eq_nil_of_length_eq_zero hle
  subst this
  refine ⟨acc0, v', ?_, hv', by simpa using hp⟩
  rw [sRet_eq (opN (dv := .dat (.tuple (acc0.map .int))) (cns h1 nl) rfl)]
  exact fin_dat' (by simp)
end DL

set_option linter.all false
set_option maxRecDepth 100000
namespace DL
open PySem PySem.Spec L2
/-! ### a web is drawn -/
abbrev EW (i : Nat) (lo hi n kd : Int) (o : List Int) (fl : Int) (t : List (List Int)) : DEnv :=
  [some (.box i), some (.dat (.int lo)), some (.dat (.int hi)), some (.dat (.int n)), some (.dat (.int kd)), some (.dat (.tuple (o.map .int))), some (.dat (.int fl)), some (.dat (.list (t.map dT))), none, none, none, none, none]
theorem allPairs_len (m : Nat) : (allPairs m).length ≤ m * m := by
  have := flat_len (rowP_len m) (List.range m)
  rw [List.length_range] at this; exact this
section
variable {S : Bxs} {i : Nat} {lo hi' kd fl : Int} {o : List Int} {m : Nat}
theorem pairs_it {ε : DEnv} {X : Bxs} (hm : m ≤ 8) (he : ε[3]? = some (some (.dat (.int m)))) : iD (fCall 1 sem__law_pairs (fCons (fVar 3) fNil)) ε X = some ((allPairs m).map dT, X) :=
  it (cl (cns (vr he) nl) rfl (pairs_eq m (by omega) X)) rfl rfl
theorem sieve {ε : DEnv} {v : List D} {ft : FT} (hm : m ≤ 8) (he : ε[3]? = some (some (.dat (.int m)))) (hl : 9 < ε.length) (hi : i < S.length) (hv : StV v)
    (ht : ∀ (d : D) (v : List D) (T : Bxs), StV v → ∃ bb v', ft ((ε.set 9 none).set 9 (some (.dat d))) (S.set i v ++ T) = some (bb, S.set i v' ++ T) ∧ StV v') :
    ∃ (l : List (List Int)) (v' : List D), fComp [9] (iD (fCall 1 sem__law_pairs (fCons (fVar 3) fNil))) (hName 9) ft (fVar 9) ε (S.set i v) = some (.lst (l.map dT), S.set i v') ∧ StV v' ∧ (∀ t ∈ l, TieIn m t) ∧ l.length ≤ 64 := by
  have hA : (allPairs m).length ≤ 64 := Nat.le_trans (allPairs_len m) (Nat.mul_le_mul hm hm)
  obtain ⟨S', acc, h1, h2, h3, v', l, rfl, hv', rfl, hl'⟩ := fComp_inv (vs := [9]) (hg := hName 9) (ft := ft) (fe := fVar 9)
    (fun j S' a => ∃ (v' : List D) (l : List (List Int)), S' = S.set i v' ∧ StV v' ∧ a = l.map dT ∧ ∀ t ∈ l, TieIn m t) (pairs_it (X := S.set i v) hm he) (by rw [List.length_map]; omega) ⟨v, [], rfl, hv, rfl, fun _ h => absurd h List.not_mem_nil⟩ (by
    rintro j d S2 a hd hS2 ⟨v', l, rfl, hv', rfl, hl'⟩
    rw [List.getElem?_map] at hd
    obtain ⟨t, ht', rfl⟩ := Option.map_eq_some_iff.mp hd
    have htm : TieIn m t := mem_allPairs.mp (List.mem_of_getElem? ht')
    obtain ⟨bb, v'', e1, hv''⟩ := ht (dT t) v' [l.map dT] hv'
    refine ⟨_, bb, S.set i v'', rfl, e1, by simp, fun _ => ⟨v'', l, rfl, hv'', rfl, hl'⟩, fun _ => ⟨.dat (dT t), dT t, S.set i v'', ?_, by simp, rfl, v'', l ++ [t], rfl, hv'', by simp, ?_⟩⟩
    · exact vr (List.getElem?_set_self (by simpa [wipeE] using hl))
    · intro x hx
      rcases List.mem_append.mp hx with z | z
      · exact hl' x z
      · rw [List.mem_singleton.mp z]; exact htm)
  rw [List.length_map, List.length_map] at h3
  exact ⟨l, v', h1, hv', hl', by omega⟩
theorem tree_ok {v : List D} {t : List (List Int)} (hm : m ≤ 8) (hi : i < S.length) (hv : StV v) :
    ∃ (l : List (List Int)) (v' : List D), fComp [10] (iRange2 (fCons (fC (.int 1)) (fCons (fVar 3) fNil))) (hName 10) fYes (fTup (fCons (fCall 2 sem__law_take (fCons (fVar 0) (fCons (fVar 10) fNil))) (fCons (fVar 10) fNil))) (EW i lo hi' m kd o fl t) (S.set i v) = some (.lst (l.map dT), S.set i v') ∧ StV v' ∧ (∀ t ∈ l, TieIn m t) ∧ l.length ≤ 64 := by
  have hfi : iRange2 (fCons (fC (.int 1)) (fCons (fVar 3) fNil)) (EW i lo hi' m kd o fl t) (S.set i v) = some (nums 1 ((m : Int) - 1).toNat, S.set i v) := r2 (cns (fC_e _ _ _) (cns (vr rfl) nl)) (okI_of (by omega) (by omega)) (okI_of (by omega) (by omega))
  obtain ⟨S', acc, h1, h2, h3, v', l, rfl, hv', rfl, hl'⟩ := fComp_inv (vs := [10]) (hg := hName 10) (ft := fYes) (fe := fTup (fCons (fCall 2 sem__law_take (fCons (fVar 0) (fCons (fVar 10) fNil))) (fCons (fVar 10) fNil)))
    (fun j S' a => ∃ (v' : List D) (l : List (List Int)), S' = S.set i v' ∧ StV v' ∧ a = l.map dT ∧ ∀ t ∈ l, TieIn m t) hfi (by rw [nums_len]; omega) ⟨v, [], rfl, hv, rfl, fun _ h => absurd h List.not_mem_nil⟩ (by
    rintro j d S2 a hd hS2 ⟨v', l, rfl, hv', rfl, hl'⟩
    obtain ⟨rfl, hj⟩ := nums_get hd
    obtain ⟨r, v'', t1, t2, t3, t4⟩ := tkS (S := S) (T := [l.map dT]) (v := v') (fa := fVar 10) (ε := [some (.box i), some (.dat (.int lo)), some (.dat (.int hi')), some (.dat (.int m)), some (.dat (.int kd)), some (.dat (.tuple (o.map .int))), some (.dat (.int fl)), some (.dat (.list (t.map dT))), none, none, some (.dat (.int (1 + j))), none, none]) (many := 1 + j) hi rfl hv' (vr rfl) (by omega) (by omega)
    refine ⟨_, true, S.set i v', rfl, rfl, by simp, (fun z => nomatch z), fun _ => ⟨.dat (dT [r, 1 + j]), dT [r, 1 + j], S.set i v'', ?_, by simp, rfl, v'', l ++ [[r, 1 + j]], rfl, t4, by simp, ?_⟩⟩
    · exact tp (cns t1 (cns (vr rfl) nl)) (toDs2 _ _) (by simp)
    · intro x hx
      rcases List.mem_append.mp hx with z | z
      · exact hl' x z
      · rw [List.mem_singleton.mp z]; exact ⟨r, 1 + j, rfl, t2, t3, by omega⟩)
  rw [List.length_map, nums_len] at h3
  exact ⟨l, v', h1, hv', hl', by omega⟩
theorem in123 {X : Bxs} {ε : DEnv} (he : ε[4]? = some (some (.dat (.int kd)))) : fCmpT (bIn false) (fVar 4) (fTup (fCons (fC (.int 1)) (fCons (fC (.int 2)) (fCons (fC (.int 3)) fNil)))) ε X = some (decide (kd ∈ [1, 2, 3]), X) :=
  cmT (vr he) (tp (cns (fC_e _ _ _) (cns (fC_e _ _ _) (cns (fC_e _ _ _) nl))) rfl (by simp)) (bIn_int _ _ [1, 2, 3] _ rfl)
theorem cat_e {X : Bxs} {x y : DV} {a b : List (List Int)} (hx : rd X x = some (.list (a.map dT))) (hy : rd X y = some (.list (b.map dT))) (h : a.length + b.length ≤ 100000) : gCat X x y = some (.lst ((a ++ b).map dT)) := by
  unfold gCat
  simp only [hx, hy]
  rw [if_pos (small_of (by rw [List.length_map, List.length_map]; exact h)), List.map_append]
/-- kinds 1, 2, 3 -/
theorem step6 {v : List D} {t : List (List Int)} (hm : m ≤ 8) (hi : i < S.length) (hv : StV v) (ht : ∀ x ∈ t, TieIn m x) (htl : t.length ≤ 200) :
    ∃ (l : List (List Int)) (v' : List D), sIf (fCmpT (bIn false) (fVar 4) (fTup (fCons (fC (.int 1)) (fCons (fC (.int 2)) (fCons (fC (.int 3)) fNil))))) (sSeq (sSet 7 (fComp [10] (iRange2 (fCons (fC (.int 1)) (fCons (fVar 3) fNil))) (hName 10) fYes (fTup (fCons (fCall 2 sem__law_take (fCons (fVar 0) (fCons (fVar 10) fNil))) (fCons (fVar 10) fNil)))))
  (sIf (fCmpT bEq (fVar 4) (fC (.int 2))) (sSet 7 (fOp2 gCat (fVar 7) (fComp [9] (iD (fCall 1 sem__law_pairs (fCons (fVar 3) fNil))) (hName 9) (fCmpT bEq (fCall 2 sem__law_take (fCons (fVar 0) (fCons (fC (.int 6)) fNil))) (fC (.int 0))) (fVar 9)))) sNil)) sNil (EW i lo hi' m kd o fl t) (S.set i v) = some (.nx (EW i lo hi' m kd o fl l) (S.set i v')) ∧ StV v' ∧ (∀ x ∈ l, TieIn m x) ∧ l.length ≤ 200 := by
  rw [sIf_b (in123 (kd := kd) rfl)]
  split
  · obtain ⟨l1, v1, e1, w1, a1, b1⟩ := tree_ok (lo := lo) (hi' := hi') (kd := kd) (fl := fl) (o := o) (t := t) hm hi hv
    have s1 : sSet 7 _ (EW i lo hi' m kd o fl t) (S.set i v) = some (.nx (EW i lo hi' m kd o fl l1) (S.set i v1)) := sSet_eq e1
    rw [sSeq_nx s1, sIf_b (cmT (vr (dv := .dat (.int kd)) rfl) (fC_e _ _ _) (bEq_int _ _ _))]
    split
    · obtain ⟨l2, v2, e2, w2, a2, b2⟩ := sieve (ε := EW i lo hi' m kd o fl l1) (ft := fCmpT bEq (fCall 2 sem__law_take (fCons (fVar 0) (fCons (fC (.int 6)) fNil))) (fC (.int 0))) hm rfl (by simp) hi w1 (fun d v T hv => by
        obtain ⟨r, v', t1, t2, t3, t4⟩ := tkS (S := S) (T := T) (fa := fC (.int 6)) (ε := ((EW i lo hi' m kd o fl l1).set 9 none).set 9 (some (.dat d))) hi rfl hv (fC_e _ _ _) (by decide) (by decide)
        exact ⟨_, v', cmT t1 (fC_e _ _ _) (bEq_int _ _ _), t4⟩)
      refine ⟨l1 ++ l2, v2, sSet_eq (op2 (vr rfl) e2 (cat_e (a := l1) (b := l2) rfl rfl (by omega))), w2, fun x hx => ?_, by simp; omega⟩
      rcases List.mem_append.mp hx with z | z
      · exact a1 x z
      · exact a2 x z
    · exact ⟨l1, v1, rfl, w1, a1, by omega⟩
  · exact ⟨t, v, rfl, hv, ht, htl⟩
/-- a ring -/
def ringP (m : Nat) : List (List Int) := (List.range (m - 1)).map fun (j : Nat) => [(j : Int), (j : Int) + 1]
theorem ring_e {X : Bxs} {t : List (List Int)} (hm1 : 1 ≤ m) (hm : m ≤ 8) : fComp [10] (iRange1 (fCons (fOp2 gSub (fVar 3) (fC (.int 1))) fNil)) (hName 10) fYes (fTup (fCons (fVar 10) (fCons (fOp2 gAdd (fVar 10) (fC (.int 1))) fNil))) (EW i lo hi' m kd o fl t) X = some (.lst ((ringP m).map dT), X) := by
  have hfi : iRange1 (fCons (fOp2 gSub (fVar 3) (fC (.int 1))) fNil) (EW i lo hi' m kd o fl t) X = some (nums 0 ((m : Int) - 1).toNat, X) := r1 (cns (op2 (vr rfl) (fC_e _ _ _) (gSub_e _ _ _)) nl) (okI_of (by omega) (by omega))
  have key := fComp_pure (vs := [10]) (hg := hName 10) (ft := fYes) (fe := fTup (fCons (fVar 10) (fCons (fOp2 gAdd (fVar 10) (fC (.int 1))) fNil))) (fun _ => true) (fun d => match d with | .int b => dT [b, b + 1] | _ => .none) hfi (by rw [nums_len]; omega) (by
    intro d hd
    obtain ⟨b, rfl, hb⟩ := nums_mem hd
    exact ⟨_, rfl, fun _ => rfl, fun _ acc => ⟨_, tp (cns (vr rfl) (cns (op2 (vr rfl) (fC_e _ _ _) (gAdd_e _ _ _)) nl)) (toDs2 _ _) (by simp), rfl⟩⟩)
  rw [key]
  refine congrArg (fun z => some (DV.lst z, X)) ?_
  unfold nums ringP
  rw [List.filter_eq_self.mpr (fun _ _ => rfl), List.map_map, List.map_map, show ((m : Int) - 1).toNat = m - 1 by omega]
  simp
theorem step7 {v : List D} {t : List (List Int)} (hm1 : 1 ≤ m) (hm : m ≤ 8) (hi : i < S.length) (ht : ∀ x ∈ t, TieIn m x) (htl : t.length ≤ 200) :
    ∃ (l : List (List Int)), sIf (fAndT (fCmpT bEq (fVar 4) (fC (.int 4))) (fCmpT bGt (fVar 3) (fC (.int 2)))) (sSet 7 (fOp2 gCat (fComp [10] (iRange1 (fCons (fOp2 gSub (fVar 3) (fC (.int 1))) fNil)) (hName 10) fYes (fTup (fCons (fVar 10) (fCons (fOp2 gAdd (fVar 10) (fC (.int 1))) fNil)))) (fLst (fCons (fTup (fCons (fC (.int 0)) (fCons (fOp2 gSub (fVar 3) (fC (.int 1))) fNil))) fNil)))) sNil
      (EW i lo hi' m kd o fl t) (S.set i v) = some (.nx (EW i lo hi' m kd o fl l) (S.set i v)) ∧ (∀ x ∈ l, TieIn m x) ∧ l.length ≤ 200 := by
  have c1 : fCmpT bEq (fVar 4) (fC (.int 4)) (EW i lo hi' m kd o fl t) (S.set i v) = some (decide (kd = 4), S.set i v) := cmT (vr rfl) (fC_e _ _ _) (bEq_int _ _ _)
  have c2 : fCmpT bGt (fVar 3) (fC (.int 2)) (EW i lo hi' m kd o fl t) (S.set i v) = some (decide ((2 : Int) < m), S.set i v) := cmT (vr rfl) (fC_e _ _ _) (bGt_e _ _ _)
  have c3 : fAndT (fCmpT bEq (fVar 4) (fC (.int 4))) (fCmpT bGt (fVar 3) (fC (.int 2))) (EW i lo hi' m kd o fl t) (S.set i v) = some (decide (kd = 4) && decide ((2 : Int) < m), S.set i v) := by
    unfold fAndT
    rw [c1]
    cases decide (kd = 4)
    · rfl
    · simp only [c2, Bool.true_and]
  rw [sIf_b c3]
  split
  · rename_i h
    simp only [Bool.and_eq_true, decide_eq_true_eq] at h
    have e2 : fLst (fCons (fTup (fCons (fC (.int 0)) (fCons (fOp2 gSub (fVar 3) (fC (.int 1))) fNil))) fNil) (EW i lo hi' m kd o fl t) (S.set i v) = some (.lst ([[0, (m : Int) - 1]].map dT), S.set i v) := ls (cns (tp (cns (fC_e _ _ _) (cns (op2 (vr rfl) (fC_e _ _ _) (gSub_e _ _ _)) nl)) (toDs2 _ _) (by simp)) nl) rfl (by simp)
    have hr : (ringP m).length ≤ 8 := by unfold ringP; simp; omega
    refine ⟨ringP m ++ [[0, (m : Int) - 1]], sSet_eq (op2 (ring_e hm1 hm) e2 (cat_e (a := ringP m) (b := [[0, (m : Int) - 1]]) rfl rfl (by simp; omega))), fun x hx => ?_, by simp; omega⟩
    rcases List.mem_append.mp hx with z | z
    · unfold ringP at z
      obtain ⟨j, hj, rfl⟩ := List.mem_map.mp z
      rw [List.mem_range] at hj
      exact ⟨_, _, rfl, by omega, by omega, by omega⟩
    · rw [List.mem_singleton.mp z]
      exact ⟨_, _, rfl, by omega, by omega, by omega⟩
  · exact ⟨t, rfl, ht, htl⟩
/-- a star -/
def starP (m : Nat) : List (List Int) := (List.range (m - 1)).map fun (j : Nat) => [(0 : Int), 1 + (j : Int)]
theorem star_e {X : Bxs} {t : List (List Int)} (hm1 : 1 ≤ m) (hm : m ≤ 8) : fComp [10] (iRange2 (fCons (fC (.int 1)) (fCons (fVar 3) fNil))) (hName 10) fYes (fTup (fCons (fC (.int 0)) (fCons (fVar 10) fNil))) (EW i lo hi' m kd o fl t) X = some (.lst ((starP m).map dT), X) := by
  have hfi : iRange2 (fCons (fC (.int 1)) (fCons (fVar 3) fNil)) (EW i lo hi' m kd o fl t) X = some (nums 1 ((m : Int) - 1).toNat, X) := r2 (cns (fC_e _ _ _) (cns (vr rfl) nl)) (okI_of (by omega) (by omega)) (okI_of (by omega) (by omega))
  have key := fComp_pure (vs := [10]) (hg := hName 10) (ft := fYes) (fe := fTup (fCons (fC (.int 0)) (fCons (fVar 10) fNil))) (fun _ => true) (fun d => match d with | .int b => dT [0, b] | _ => .none) hfi (by rw [nums_len]; omega) (by
    intro d hd
    obtain ⟨b, rfl, hb⟩ := nums_mem hd
    exact ⟨_, rfl, fun _ => rfl, fun _ acc => ⟨_, tp (cns (fC_e _ _ _) (cns (vr rfl) nl)) (toDs2 _ _) (by simp), rfl⟩⟩)
  rw [key]
  refine congrArg (fun z => some (DV.lst z, X)) ?_
  unfold nums starP
  rw [List.filter_eq_self.mpr (fun _ _ => rfl), List.map_map, List.map_map, show ((m : Int) - 1).toNat = m - 1 by omega]
  simp
theorem step8 {v : List D} {t : List (List Int)} (hm1 : 1 ≤ m) (hm : m ≤ 8) (hi : i < S.length) (hv : StV v) (ht : ∀ x ∈ t, TieIn m x) (htl : t.length ≤ 200) :
    ∃ (l : List (List Int)) (v' : List D), sIf (fCmpT bEq (fVar 4) (fC (.int 5))) (sSet 7 (fOp2 gIx (fLst (fCons (fComp [10] (iRange2 (fCons (fC (.int 1)) (fCons (fVar 3) fNil))) (hName 10) fYes (fTup (fCons (fC (.int 0)) (fCons (fVar 10) fNil)))) (fCons (fCall 1 sem__law_pairs (fCons (fVar 3) fNil)) fNil))) (fCall 2 sem__law_take (fCons (fVar 0) (fCons (fC (.int 2)) fNil))))) sNil
      (EW i lo hi' m kd o fl t) (S.set i v) = some (.nx (EW i lo hi' m kd o fl l) (S.set i v')) ∧ StV v' ∧ (∀ x ∈ l, TieIn m x) ∧ l.length ≤ 200 := by
  rw [sIf_b (cmT (vr (dv := .dat (.int kd)) rfl) (fC_e _ _ _) (bEq_int _ _ _))]
  split
  · have e1 : fLst (fCons (fComp [10] (iRange2 (fCons (fC (.int 1)) (fCons (fVar 3) fNil))) (hName 10) fYes (fTup (fCons (fC (.int 0)) (fCons (fVar 10) fNil)))) (fCons (fCall 1 sem__law_pairs (fCons (fVar 3) fNil)) fNil)) (EW i lo hi' m kd o fl t) (S.set i v) = some (.lst [.list ((starP m).map dT), .list ((allPairs m).map dT)], S.set i v) :=
      ls (cns (star_e hm1 hm) (cns (cl (cns (vr rfl) nl) rfl (pairs_eq m (by omega) _)) nl)) rfl (by simp)
    obtain ⟨r, v', t1, t2, t3, t4⟩ := tkS0 (S := S) (fa := fC (.int 2)) (ε := EW i lo hi' m kd o fl t) hi rfl hv (fC_e _ _ _) (by decide) (by decide)
    have hA : (allPairs m).length ≤ 64 := Nat.le_trans (allPairs_len m) (Nat.mul_le_mul hm hm)
    rcases (show r = 0 ∨ r = 1 by omega) with rfl | rfl
    · refine ⟨starP m, v', sSet_eq (op2 e1 t1 (gIx_e (d := .list ((starP m).map dT)) rfl (by decide) rfl)), t4, fun x hx => ?_, by unfold starP; simp; omega⟩
      unfold starP at hx
      obtain ⟨j, hj, rfl⟩ := List.mem_map.mp hx
      rw [List.mem_range] at hj
      exact ⟨_, _, rfl, by omega, by omega, by omega⟩
    · exact ⟨allPairs m, v', sSet_eq (op2 e1 t1 (gIx_e (d := .list ((allPairs m).map dT)) rfl (by decide) rfl)), t4, fun x hx => mem_allPairs.mp hx, by omega⟩
  · exact ⟨t, v, rfl, hv, ht, htl⟩
end
end DL

set_option linter.all false
set_option maxRecDepth 100000
namespace DL
open PySem PySem.Spec L2
/-- a web -/
structure Web (n : Int) (ties : List (List Int)) : Prop where
  up : Up ties
  mem : ∀ t ∈ ties, TieIn n t
def webD (n : Int) (ties : List (List Int)) : D := .tuple [.int n, .tuple (ties.map dT)]
theorem upto_mem {m : Nat} {x : Int} : x ∈ upto m ↔ 0 ≤ x ∧ x < m := by
  unfold upto
  rw [List.mem_map]
  constructor
  · rintro ⟨j, hj, rfl⟩
    rw [List.mem_range] at hj
    omega
  · rintro ⟨h1, h2⟩
    exact ⟨x.toNat, by rw [List.mem_range]; omega, by omega⟩
theorem upto_nodup (m : Nat) : (upto m).Nodup := by
  unfold upto
  rw [List.Nodup, List.pairwise_map]
  exact List.nodup_range.imp fun {a b} h e => h (by omega)
/-- a tie under an order -/
def ordT (o : List Int) (t : List Int) : List Int := let a := o.getD (t.getD 0 0).toNat 0; let b := o.getD (t.getD 1 0).toNat 0; [if b < a then b else a, if b > a then b else a]
theorem ordT_tie {m : Nat} {o t : List Int} (ho : o.Perm (upto m)) (h : TieIn m t) : TieIn m (ordT o t) := by
  obtain ⟨a, b, rfl, h0, h1, h2⟩ := h
  have hl : o.length = m := by rw [ho.length_eq]; simp [upto]
  have ha : a.toNat < o.length := by omega
  have hb : b.toNat < o.length := by omega
  have ga : o.getD a.toNat 0 = o[a.toNat] := by simp [List.getD_eq_getElem?_getD, ha]
  have gb : o.getD b.toNat 0 = o[b.toNat] := by simp [List.getD_eq_getElem?_getD, hb]
  have ma := upto_mem.mp (ho.mem_iff.mp (List.getElem_mem ha))
  have mb := upto_mem.mp (ho.mem_iff.mp (List.getElem_mem hb))
  have nd : o.Nodup := ho.nodup_iff.mpr (upto_nodup m)
  have ne : o[a.toNat] ≠ o[b.toNat] := fun e => by
    have := (List.getElem_inj nd).mp e
    omega
  unfold ordT
  simp only [List.getD_cons_zero, List.getD_cons_succ, ga, gb]
  by_cases c : o[b.toNat] < o[a.toNat]
  · rw [if_pos c, if_neg (by omega)]
    exact ⟨_, _, rfl, mb.1, c, ma.2⟩
  · rw [if_neg c, if_pos (by omega)]
    exact ⟨_, _, rfl, ma.1, by omega, mb.2⟩
theorem tie_ne {n : Int} {t : List Int} (h : TieIn n t) : t ≠ [] := by
  obtain ⟨a, b, rfl, _⟩ := h
  simp
theorem tie_le {n n' : Int} {t : List Int} (h : TieIn n t) (hn : n ≤ n') : TieIn n' t := by
  obtain ⟨a, b, rfl, h0, h1, h2⟩ := h
  exact ⟨a, b, rfl, h0, h1, by omega⟩
theorem card_ties {l : List (List Int)} (h : ∀ t ∈ l, TieIn 8 t) : (dd l).length ≤ 62 := by
  have : (dd l).length ≤ (allPairs 8).length := (dd_nodup l).length_le_of_subset fun t ht => mem_allPairs.mpr (h t (dd_mem.mp ht))
  exact Nat.le_trans this (by decide +kernel)
theorem okTups_e {S : Bxs} {x : DV} {l : List (List Int)} (hx : sq S x = some (l.map dT)) (h : ∀ t ∈ l, t ≠ []) : okTups S x = some l := by
  unfold okTups
  simp only [hx, tupsD_map]
  rw [if_pos]
  rw [List.all_eq_true]
  intro t ht
  have := h t ht
  cases t with
  | nil => exact absurd rfl this
  | cons _ _ => rfl
theorem ss_e {fa : FE} {ε : DEnv} {S S1 : Bxs} {x : DV} {l : List (List Int)} (ha : fa ε S = some (x, S1)) (hx : sq S1 x = some (l.map dT)) (h : ∀ t ∈ l, TieIn 8 t) : fSS fa ε S = some (.lst ((usort l).map dT), S1) := by
  unfold fSS
  rw [ha]
  simp only [okTups_e hx fun t ht => tie_ne (h t ht)]
  rw [if_pos (decide_eq_true (card_ties h))]
theorem ix_o {m : Nat} {o : List Int} (ho : o.length = m) {ε : DEnv} {X : Bxs} {k : Nat} {a : Int} (he : ε[5]? = some (some (.dat (.tuple (o.map .int))))) (hk : ε[k]? = some (some (.dat (.int a)))) (h0 : 0 ≤ a) (h1 : a < m) : fOp2 gIx (fVar 5) (fVar k) ε X = some (.dat (.int (o.getD a.toNat 0)), X) := by
  refine op2 (vr he) (vr hk) (gIx_e (sq_tup _ _) h0 ?_)
  have : a.toNat < o.length := by omega
  simp [List.getD_eq_getElem?_getD, this]
theorem found_e {S : Bxs} {i : Nat} {lo hi' kd fl : Int} {o : List Int} {m : Nat} {X : Bxs} {t : List (List Int)} (hm : m ≤ 8) (ho : o.Perm (upto m)) (ht : ∀ x ∈ t, TieIn m x) (htl : t.length ≤ 200) :
    fComp [11, 12] (iD (fVar 7)) (hTup 2 (hCons (hName 11) (hCons (hName 12) hNil))) fYes (fTup (fCons (fOpN (g2 gMin) (fCons (fOp2 gIx (fVar 5) (fVar 11)) (fCons (fOp2 gIx (fVar 5) (fVar 12)) fNil))) (fCons (fOpN (g2 gMax) (fCons (fOp2 gIx (fVar 5) (fVar 11)) (fCons (fOp2 gIx (fVar 5) (fVar 12)) fNil))) fNil))) (EW i lo hi' m kd o fl t) X = some (.lst ((t.map (ordT o)).map dT), X) := by
  have hfi : iD (fVar 7) (EW i lo hi' m kd o fl t) X = some (t.map dT, X) := it (vr rfl) rfl rfl
  have hl : o.length = m := by rw [ho.length_eq]; simp [upto]
  have key := fComp_pure (vs := [11, 12]) (hg := hTup 2 (hCons (hName 11) (hCons (hName 12) hNil))) (ft := fYes) (fe := fTup (fCons (fOpN (g2 gMin) (fCons (fOp2 gIx (fVar 5) (fVar 11)) (fCons (fOp2 gIx (fVar 5) (fVar 12)) fNil))) (fCons (fOpN (g2 gMax) (fCons (fOp2 gIx (fVar 5) (fVar 11)) (fCons (fOp2 gIx (fVar 5) (fVar 12)) fNil))) fNil))) (fun _ => true) (fun d => match tupD d with | some t => dT (ordT o t) | _ => .none) hfi (by rw [List.length_map]; omega) (by
    intro d hd
    obtain ⟨x, hx, rfl⟩ := List.mem_map.mp hd
    obtain ⟨a, b, rfl, h0, h1, h2⟩ := ht x hx
    refine ⟨_, rfl, fun _ => rfl, fun _ acc => ⟨_, tp (cns (opN (cns (ix_o hl (a := a) rfl rfl h0 (by omega)) (cns (ix_o hl (a := b) rfl rfl (by omega) h2) nl)) (gMin_e _ _ _)) (cns (opN (cns (ix_o hl (a := a) rfl rfl h0 (by omega)) (cns (ix_o hl (a := b) rfl rfl (by omega) h2) nl)) (gMax_e _ _ _)) nl)) (toDs2 _ _) (by simp), ?_⟩⟩
    simp only [tupD_dT]
    rfl)
  rw [key]
  refine congrArg (fun z => some (DV.lst z, X)) ?_
  rw [List.filter_eq_self.mpr (fun _ _ => rfl), List.map_map, List.map_map]
  refine List.map_congr_left fun x hx => ?_
  simp [tupD_dT]
theorem web_ok {S : Bxs} {i : Nat} {v : List D} {lo hi' : Int} (hS : S[i]? = some v) (hv : StV v) (h1 : 1 ≤ lo) (h2 : lo ≤ hi') (h3 : hi' ≤ 8) :
    ∃ (n : Int) (ties : List (List Int)) (v' : List D), sem__law_web [.box i, .dat (.int lo), .dat (.int hi')] S = some (.dat (webD n ties), S.set i v') ∧ StV v' ∧ lo ≤ n ∧ n ≤ hi' ∧ Web n ties := by
  have hi : i < S.length := (List.getElem?_eq_some_iff.mp hS).1
  unfold sem__law_web
  simp only [semOf_eq]
  show ∃ (n : Int) (ties : List (List Int)) (v' : List D), finOf S (g__law_web [some (.box i), some (.dat (.int lo)), some (.dat (.int hi')), none, none, none, none, none, none, none, none, none, none] S) = _ ∧ _
  rw [show g__law_web [some (.box i), some (.dat (.int lo)), some (.dat (.int hi')), none, none, none, none, none, none, none, none, none, none] S = g__law_web [some (.box i), some (.dat (.int lo)), some (.dat (.int hi')), none, none, none, none, none, none, none, none, none, none] (S.set i v) by rw [set_self hS]]
  unfold g__law_web
  -- places
  obtain ⟨r1, v1, t1, a1, b1, w1⟩ := tkS0 (S := S) (fa := fOp2 gAdd (fOp2 gSub (fVar 2) (fVar 1)) (fC (.int 1))) (ε := [some (.box i), some (.dat (.int lo)), some (.dat (.int hi')), none, none, none, none, none, none, none, none, none, none]) (many := hi' - lo + 1) hi rfl hv (op2 (op2 (vr rfl) (vr rfl) (gSub_e _ _ _)) (fC_e _ _ _) (gAdd_e _ _ _)) (by omega) (by omega)
  obtain ⟨m, hm⟩ : ∃ m : Nat, lo + r1 = m := ⟨(lo + r1).toNat, by omega⟩
  have s1 : sSet 3 _ _ (S.set i v) = some (.nx [some (.box i), some (.dat (.int lo)), some (.dat (.int hi')), some (.dat (.int (lo + r1))), none, none, none, none, none, none, none, none, none] (S.set i v1)) := sSet_eq (op2 (vr (i := 1) (dv := .dat (.int lo)) rfl) t1 (gAdd_e _ _ _))
  simp only [sSeq_nx s1]
  rw [hm]
  -- kind
  obtain ⟨kd, v2, t2, a2, b2, w2⟩ := tkS0 (S := S) (fa := fC (.int 8)) (ε := [some (.box i), some (.dat (.int lo)), some (.dat (.int hi')), some (.dat (.int m)), none, none, none, none, none, none, none, none, none]) hi rfl w1 (fC_e _ _ _) (by decide) (by decide)
  have s2 : sSet 4 _ _ (S.set i v1) = some (.nx [some (.box i), some (.dat (.int lo)), some (.dat (.int hi')), some (.dat (.int m)), some (.dat (.int kd)), none, none, none, none, none, none, none, none] (S.set i v2)) := sSet_eq t2
  simp only [sSeq_nx s2]
  -- order
  obtain ⟨o, v3, t3, w3, hp⟩ := order_ok (S := S) (m := m) hi w2 (by omega)
  have s3 : sSet 5 (fCall 2 sem__law_order (fCons (fVar 0) (fCons (fVar 3) fNil))) [some (.box i), some (.dat (.int lo)), some (.dat (.int hi')), some (.dat (.int m)), some (.dat (.int kd)), none, none, none, none, none, none, none, none] (S.set i v2) = some (.nx [some (.box i), some (.dat (.int lo)), some (.dat (.int hi')), some (.dat (.int m)), some (.dat (.int kd)), some (.dat (.tuple (o.map .int))), none, none, none, none, none, none, none] (S.set i v3)) := sSet_eq (dv := .dat (.tuple (o.map .int))) (cl (cns (vr (dv := .box i) rfl) (cns (vr (dv := .dat (.int m)) rfl) nl)) rfl t3)
  simp only [sSeq_nx s3]
  -- full
  obtain ⟨r4, v4, t4, a4, b4, w4⟩ := tkS0 (S := S) (fa := fC (.int 4)) (ε := [some (.box i), some (.dat (.int lo)), some (.dat (.int hi')), some (.dat (.int m)), some (.dat (.int kd)), some (.dat (.tuple (o.map .int))), none, none, none, none, none, none, none]) hi rfl w3 (fC_e _ _ _) (by decide) (by decide)
  obtain ⟨fl, hfl⟩ : ∃ fl : Int, [PyData.int 2, .int 3, .int 5, .int 7][r4.toNat]? = some (.int fl) := by
    rcases (show r4 = 0 ∨ r4 = 1 ∨ r4 = 2 ∨ r4 = 3 by omega) with rfl | rfl | rfl | rfl
    · exact ⟨2, rfl⟩
    · exact ⟨3, rfl⟩
    · exact ⟨5, rfl⟩
    · exact ⟨7, rfl⟩
  have s4 : sSet 6 (fOp2 gIx (fLst (fCons (fC (.int 2)) (fCons (fC (.int 3)) (fCons (fC (.int 5)) (fCons (fC (.int 7)) fNil))))) (fCall 2 sem__law_take (fCons (fVar 0) (fCons (fC (.int 4)) fNil)))) [some (.box i), some (.dat (.int lo)), some (.dat (.int hi')), some (.dat (.int m)), some (.dat (.int kd)), some (.dat (.tuple (o.map .int))), none, none, none, none, none, none, none] (S.set i v3) = some (.nx [some (.box i), some (.dat (.int lo)), some (.dat (.int hi')), some (.dat (.int m)), some (.dat (.int kd)), some (.dat (.tuple (o.map .int))), some (.dat (.int fl)), none, none, none, none, none, none] (S.set i v4)) :=
    sSet_eq (op2 (ls (cns (fC_e _ _ _) (cns (fC_e _ _ _) (cns (fC_e _ _ _) (cns (fC_e _ _ _) nl)))) rfl (by simp)) t4 (gIx_e (d := .int fl) rfl a4 hfl))
  simp only [sSeq_nx s4]
  -- ties
  obtain ⟨l5, v5, t5, w5, a5, b5⟩ := sieve (S := S) (i := i) (m := m) (ε := [some (.box i), some (.dat (.int lo)), some (.dat (.int hi')), some (.dat (.int m)), some (.dat (.int kd)), some (.dat (.tuple (o.map .int))), some (.dat (.int fl)), none, none, none, none, none, none]) (ft := fCmpT bLt (fCall 2 sem__law_take (fCons (fVar 0) (fCons (fC (.int 8)) fNil))) (fVar 6)) (by omega) rfl (by simp) hi w4 (fun d v T hv => by
    obtain ⟨r, v', t1, t2, t3, t4⟩ := tkS (S := S) (T := T) (fa := fC (.int 8)) (ε := ([some (.box i), some (.dat (.int lo)), some (.dat (.int hi')), some (.dat (.int m)), some (.dat (.int kd)), some (.dat (.tuple (o.map .int))), some (.dat (.int fl)), none, none, none, none, none, none].set 9 none).set 9 (some (.dat d))) hi rfl hv (fC_e _ _ _) (by decide) (by decide)
    exact ⟨_, v', cmT t1 (vr rfl) (bLt_e _ _ _), t4⟩)
  have s5 : sSet 7 _ _ (S.set i v4) = some (.nx (EW i lo hi' m kd o fl l5) (S.set i v5)) := sSet_eq t5
  simp only [sSeq_nx s5]
  obtain ⟨l6, v6, s6, w6, a6, b6⟩ := step6 (S := S) (i := i) (lo := lo) (hi' := hi') (kd := kd) (fl := fl) (o := o) (m := m) (t := l5) (by omega) hi w5 a5 (by omega)
  simp only [sSeq_nx s6]
  obtain ⟨l7, s7, a7, b7⟩ := step7 (S := S) (i := i) (v := v6) (lo := lo) (hi' := hi') (kd := kd) (fl := fl) (o := o) (m := m) (t := l6) (by omega) (by omega) hi a6 b6
  simp only [sSeq_nx s7]
  obtain ⟨l8, v8, s8, w8, a8, b8⟩ := step8 (S := S) (i := i) (lo := lo) (hi' := hi') (kd := kd) (fl := fl) (o := o) (m := m) (t := l7) (by omega) (by omega) hi w6 a7 b7
  simp only [sSeq_nx s8]
  have s9 := sSet_eq (i := 8) (found_e (S := S) (i := i) (lo := lo) (hi' := hi') (kd := kd) (fl := fl) (m := m) (X := S.set i v8) (by omega) hp a8 b8)
  simp only [sSeq_nx s9]
  have hT : ∀ t ∈ l8.map (ordT o), TieIn m t := fun t ht => by
    obtain ⟨x, hx, rfl⟩ := List.mem_map.mp ht
    exact ordT_tie hp (a8 x hx)
  have hT8 : ∀ t ∈ l8.map (ordT o), TieIn 8 t := fun t ht => tie_le (hT t ht) (by omega)
  refine ⟨m, usort (l8.map (ordT o)), v8, ?_, w8, by omega, by omega, ⟨usort_up _, fun t ht => hT t (usort_mem.mp ht)⟩⟩
  rw [sRet_eq (tp (cns (vr (dv := .dat (.int m)) rfl) (cns (opN (cns (ss_e (vr (dv := .dat (.list ((l8.map (ordT o)).map dT))) rfl) rfl hT8) nl) (dv := .dat (.tuple ((usort (l8.map (ordT o))).map dT))) rfl) nl)) (toDs2 _ _) (by simp))]
  exact fin_dat (by simp)
end DL

set_option linter.all false
set_option maxRecDepth 100000
namespace DL
open PySem PySem.Spec L2
/-! ### comprehensions over what is known -/
theorem fComp_map {α : Type} {vs : List Nat} {fi : FI} {hg : FG} {ft : FT} {fe : FE} {ε : DEnv} {S S0 : Bxs} (f : α → D) (g : D → Option α) (fg : ∀ a, g (f a) = some a) {l : List α} (b : α → Bool) (r : α → D) (hi : fi ε S0 = some (l.map f, S)) (hl : l.length ≤ 100000)
    (h : ∀ a ∈ l, ∃ ε1, hg (f a) (wipeE ε vs) = some ε1 ∧ (∀ acc, ft ε1 (S ++ [acc]) = some (b a, S ++ [acc])) ∧ (b a = true → ∀ acc, ∃ y, fe ε1 (S ++ [acc]) = some (y, S ++ [acc]) ∧ toD y = some (r a))) :
    fComp vs fi hg ft fe ε S0 = some (.lst ((l.filter b).map r), S) := by
  unfold fComp
  rw [hi]
  simp only
  have key := compD_pure (hg := hg) (ft := ft) (fe := fe) (ε0 := wipeE ε vs) (S := S) (fun d => match g d with | some a => b a | none => false) (fun d => match g d with | some a => r a | none => .none) (l.map f) [] (by simpa using hl) (by
    intro d hd
    obtain ⟨a, ha, rfl⟩ := List.mem_map.mp hd
    simp only [fg]
    exact h a ha)
  rw [key]
  simp only [List.nil_append, get_end]
  have e1 : ((l.map f).filter fun d => match g d with | some a => b a | none => false).map (fun d => match g d with | some a => r a | none => .none) = (l.filter b).map r := by
    rw [List.filter_map, List.map_map]
    have e2 : ((fun d => match g d with | some a => b a | none => false) ∘ f) = b := by
      funext a; simp [fg]
    rw [e2]
    refine List.map_congr_left fun a _ => ?_
    simp [fg]
  rw [e1]
  simp
def lowT (t : List Int) : Int := t.getD 0 0
def highT (t : List Int) : Int := t.getD 1 0
theorem Web.len {n : Int} {ties : List (List Int)} (h : Web n ties) (hn : n ≤ 8) : ties.length ≤ 28 := by
  have : ties.length ≤ (allPairs 8).length := h.up.nodup.length_le_of_subset fun t ht => mem_allPairs.mpr (tie_le (h.mem t ht) hn)
  exact Nat.le_trans this (by decide +kernel)
theorem web_ties {ε : DEnv} {S : Bxs} {n : Int} {ties : List (List Int)} {k : Nat} (he : ε[k]? = some (some (.dat (webD n ties)))) : fOp2 gIx (fVar k) (fC (.int 1)) ε S = some (.dat (.tuple (ties.map dT)), S) := op2 (vr he) (fC_e _ _ _) (gIx_e (ds := [.int n, .tuple (ties.map dT)]) rfl (by decide) rfl)
theorem web_places {ε : DEnv} {S : Bxs} {n : Int} {ties : List (List Int)} {k : Nat} (he : ε[k]? = some (some (.dat (webD n ties)))) : fOp2 gIx (fVar k) (fC (.int 0)) ε S = some (.dat (.int n), S) := op2 (vr he) (fC_e _ _ _) (gIx_e (ds := [.int n, .tuple (ties.map dT)]) rfl (by decide) rfl)
/-! ### what is near, by the order of ties -/
end DL

set_option linter.all false
set_option maxRecDepth 100000
namespace DL
open PySem PySem.Spec L2
theorem tup_e {S : Bxs} {x : DV} {ds : List D} (h : sq S x = some ds) : g1 gTup1 S [x] = some (.dat (.tuple ds)) := by
  unfold g1 gTup1
  simp only [h]
/-! ### a web turned -/
/-! ### the law's own turn -/
instance (l : List (List Int)) : Decidable (Up l) := by unfold Up; infer_instance
/-! ### the same compared -/
theorem bNe_same {S : Bxs} {d : D} (h : SeqAt.shaped d = true) : bNe S (.dat d) (.dat d) = some false := by
  unfold bNe
  simp only [rd_dat]
  rw [if_pos (by rw [h]; rfl), SeqAt.eqv_refl d (SeqAt.canLay_of_shaped h)]
  rfl
theorem shaped_web (n : Int) (ties : List (List Int)) : SeqAt.shaped (webD n ties) = true := by
  have h1 : PyData.canLayAll0 (ties.map dT) = true := canAll_map can_dT ties
  have h2 : PyData.depthAll (ties.map dT) ≤ 1 := depthAll_map depth_dT ties
  unfold SeqAt.shaped webD
  rw [Bool.and_eq_true]
  constructor
  · simp [PyData.canLay0, PyData.canLayAll0, h1]
  · refine decide_eq_true ?_
    simp only [PyData.depth, PyData.depthAll]
    omega
end DL

set_option linter.all false
set_option maxRecDepth 100000
namespace DL
open PySem PySem.Spec L2
/-! ### tests in short -/
theorem tru_b {fa : FE} {ε : DEnv} {S S1 : Bxs} {b : Bool} (h : fa ε S = some (.dat (.bool b), S1)) : fTru fa ε S = some (b, S1) := by simp [fTru, h, tru]
theorem is_e {q : D → Bool} {fa : FE} {ε : DEnv} {S S1 : Bxs} {d : D} (h : fa ε S = some (.dat d, S1)) : fIs q fa ε S = some (.dat (.bool (q d)), S1) := by simp [fIs, h]
theorem not_e {ft : FT} {ε : DEnv} {S S1 : Bxs} {b : Bool} (h : ft ε S = some (b, S1)) : fNotT ft ε S = some (!b, S1) := by simp [fNotT, h]
theorem notv {fa : FE} {ε : DEnv} {S S1 : Bxs} {b : Bool} (h : fa ε S = some (.dat (.bool b), S1)) : fNot fa ε S = some (.dat (.bool (!b)), S1) := by simp [fNot, h]
theorem or_f {ft fu : FT} {ε : DEnv} {S S1 S2 : Bxs} {b : Bool} (h : ft ε S = some (false, S1)) (h' : fu ε S1 = some (b, S2)) : fOrT ft fu ε S = some (b, S2) := by simp [fOrT, h, h']
theorem or_t {ft fu : FT} {ε : DEnv} {S S1 : Bxs} (h : ft ε S = some (true, S1)) : fOrT ft fu ε S = some (true, S1) := by simp [fOrT, h]
theorem and_f {fa fb : FE} {ε : DEnv} {S S1 : Bxs} (h : fa ε S = some (.dat (.bool false), S1)) : fAnd fa fb ε S = some (.dat (.bool false), S1) := by simp [fAnd, h]
theorem and_t {fa fb : FE} {ε : DEnv} {S S1 S2 : Bxs} {x : DV} (h : fa ε S = some (.dat (.bool true), S1)) (h' : fb ε S1 = some (x, S2)) : fAnd fa fb ε S = some (x, S2) := by simp [fAnd, h, h']
theorem and_b {fa fb : FE} {ε : DEnv} {S : Bxs} {b c : Bool} (h : fa ε S = some (.dat (.bool b), S)) (h' : b = true → fb ε S = some (.dat (.bool c), S)) : fAnd fa fb ε S = some (.dat (.bool (b && c)), S) := by
  cases b with
  | false => rw [and_f h]; rfl
  | true => rw [and_t h (h' rfl)]; rfl
theorem chain_e {g g' : Int → Int → Bool} {fa fb fc : FE} {ε : DEnv} {S : Bxs} {i j l : Int} (ha : fa ε S = some (.dat (.int i), S)) (hb : fb ε S = some (.dat (.int j), S)) (hc : fc ε S = some (.dat (.int l), S)) : fChain g g' fa fb fc ε S = some (.dat (.bool (g i j && g' j l)), S) := by
  unfold fChain
  rw [ha]
  simp only [hb, rd_dat]
  cases g i j with
  | false => rfl
  | true => simp only [hc, if_true, rd_dat, Bool.true_and]
theorem all_e {S : Bxs} {x : DV} {bs : List Bool} (h : rd S x = some (.list (bs.map .bool))) : g1 gAll S [x] = some (.dat (.bool (bs.all id))) := by
  unfold g1 gAll
  simp only [h, boolsD_map]
/-- all([q(x) for x in ds]) -/
theorem allc_e {vs : List Nat} {fi : FI} {hg : FG} {fe : FE} {ε : DEnv} {S : Bxs} {ds : List D} (q : D → Bool) (hi : fi ε S = some (ds, S)) (hl : ds.length ≤ 100000)
    (h : ∀ d ∈ ds, ∃ ε1, hg d (wipeE ε vs) = some ε1 ∧ ∀ acc, fe ε1 (S ++ [acc]) = some (.dat (.bool (q d)), S ++ [acc])) :
    fOpN (g1 gAll) (fCons (fComp vs fi hg fYes fe) fNil) ε S = some (.dat (.bool (ds.all q)), S) := by
  have key := fComp_pure (vs := vs) (hg := hg) (ft := fYes) (fe := fe) (fun _ => true) (fun d => .bool (q d)) hi hl fun d hd => by
    obtain ⟨ε1, h1, h2⟩ := h d hd
    exact ⟨ε1, h1, fun _ => rfl, fun _ acc => ⟨_, h2 acc, rfl⟩⟩
  refine opN (cns key nl) ?_
  rw [List.filter_eq_self.mpr (fun _ _ => rfl)]
  rw [show ds.map (fun d => PyData.bool (q d)) = (ds.map q).map .bool by rw [List.map_map]; rfl]
  rw [all_e rfl]
  simp
/-! ### rows -/
/-! ### looking at things -/
def isWh : D → Bool
  | .int _ => true
  | _ => false
theorem is_whole_eq (d : D) (S : Bxs) : sem_is_whole [.dat d] S = some (.dat (.bool (isWh d)), S) := by
  unfold sem_is_whole
  rw [semOf_eq]
  show finOf S (g_is_whole [some _] S) = _
  unfold g_is_whole
  rw [sRet_eq (and_b (is_e (d := d) (vr rfl)) (fun _ => notv (is_e (d := d) (vr rfl)))), fin_dat rfl]
  cases d <;> rfl
/-! ### slices, +, * -/
section
variable {fa f : FE} {fl fu : FO} {ε : DEnv} {S : Bxs} {ds es : List D} {lo hi : Option Int} {i k : Int}
theorem pt_e (h : f ε S = some (.dat (.int i), S)) : fPart f ε S = some (some i, S) := by simp [fPart, h]
theorem np_e : fNoP ε S = some (none, S) := rfl
theorem catL_e {x y : DV} (hx : rd S x = some (.list ds)) (hy : rd S y = some (.list es)) (h : ds.length + es.length ≤ 100000) : gCat S x y = some (.lst (ds ++ es)) := by
  unfold gCat
  simp only [hx, hy]
  rw [if_pos (small_of h)]
theorem neg_e (h : f ε S = some (.dat (.int i), S)) : fOp1 gNeg f ε S = some (.dat (.int (-i)), S) := by simp [fOp1, h, gNeg]
end
/-- how many cells are asked -/
theorem cells_e {k : Int} (ns : List Int) {ε : DEnv} {S : Bxs} (h1 : 1 ≤ k) (h2 : k ≤ 1000) (he : ε[0]? = some (some (.dat (.list (ns.map .int))))) :
    ∃ c : Int, 0 ≤ c ∧ c ≤ k ∧ iRange1 (fCons (fOpN (g2 gMax) (fCons (fC (.int 1)) (fCons (fOpN (g2 gMin) (fCons (fOpN (g1 gLen) (fCons (fVar 0) fNil)) (fCons (fC (.int k)) fNil))) fNil))) fNil) ε S = some (nums 0 c.toNat, S) := by
  refine ⟨if (if k < (ns.length : Int) then k else (ns.length : Int)) > 1 then (if k < (ns.length : Int) then k else (ns.length : Int)) else 1, by split <;> (try split) <;> omega, by split <;> (try split) <;> omega, ?_⟩
  refine r1 (cns (opN (cns (fC_e _ _ _) (cns (opN (cns (opN (cns (vr he) nl) (len_e rfl)) (cns (fC_e _ _ _) nl)) (gMin_e _ _ _)) nl)) ?_) nl) (okI_of ?_ ?_)
  · rw [List.length_map]
    exact gMax_e _ _ _
  · split <;> (try split) <;> omega
  · split <;> (try split) <;> omega
end DL

set_option linter.all false
set_option maxRecDepth 100000
namespace DL
open PySem PySem.Spec L2
/-! ### named anew -/
end DL

set_option linter.all false
set_option maxRecDepth 100000
namespace DL
open PySem PySem.Spec L2
/-! ### what ties join -/
section
variable {n : Int} {ties : List (List Int)}
/-! ### marks -/
/-! ### the pieces -/
section
variable {m : Nat} (hw : ∀ t ∈ ties, TieIn m t)
include hw
end
end
end DL

set_option linter.all false
set_option maxRecDepth 100000
namespace DL
open PySem PySem.Spec L2
/-! ### running what is new -/
section
variable {fa fo fi fe : FE} {ε : DEnv} {S S1 : Bxs} {hg : FG} {ft : FT} {vs : List Nat}
end
/-! ### one piece -/
section
variable {m : Nat} {ties : List (List Int)} {p : Int}
end
end DL

set_option linter.all false
set_option maxRecDepth 100000
namespace DL
open PySem PySem.Spec L2
/-! ### all pieces -/
section
variable {m : Nat} {ties : List (List Int)}
/-! ### the law's pieces -/
end
end DL

set_option linter.all false
set_option maxRecDepth 100000
namespace DL
open PySem PySem.Spec L2
/-! ### a tie -/
def tieB (n : Int) : D → Bool
  | .tuple [.int a, .int b] => decide (0 ≤ a) && decide (a < b) && decide (b < n)
  | _ => false
def tupOf (d : D) : List Int := (tupD d).getD []
def scanD (n : Int) : List Int → List D → Bool
  | _, [] => true
  | last, d :: ds => tieB n d && (HT.lexLt last (tupOf d) && scanD n (tupOf d) ds)
theorem tieB_ex {n : Int} {d : D} (h : tieB n d = true) : ∃ a b, d = dT [a, b] ∧ 0 ≤ a ∧ a < b ∧ b < n := by
  unfold tieB at h
  split at h
  · rename_i a b
    simp only [Bool.and_eq_true, decide_eq_true_eq] at h
    exact ⟨a, b, rfl, h.1.1, h.1.2, h.2⟩
  · cases h
theorem tieB_dT (n a b : Int) : tieB n (dT [a, b]) = (decide (0 ≤ a) && decide (a < b) && decide (b < n)) := rfl
theorem chain3_e {g g' g'' : Int → Int → Bool} {fa fb fc fd : FE} {ε : DEnv} {S : Bxs} {i j l q : Int} (ha : fa ε S = some (.dat (.int i), S)) (hb : fb ε S = some (.dat (.int j), S)) (hc : fc ε S = some (.dat (.int l), S)) (hd : fd ε S = some (.dat (.int q), S)) : fChain3 g g' g'' fa fb fc fd ε S = some (.dat (.bool (g i j && g' j l && g'' l q)), S) := by
  unfold fChain3
  rw [ha]
  simp only [hb, rd_dat]
  cases g i j with
  | false => rfl
  | true =>
    simp only [hc, if_true, rd_dat, Bool.true_and]
    cases g' j l with
    | false => rfl
    | true => simp only [hd, if_true, rd_dat, Bool.true_and]
/-- a tuple of two -/
def twoD : D → Bool
  | .tuple [_, _] => true
  | _ => false
/-- not a tuple, or not of two -/
theorem head2 {fx : FE} {ε : DEnv} {S : Bxs} {d : D} (hx : fx ε S = some (.dat d, S)) : fOrT (fNotT (fTru (fIs isTupD fx))) (fCmpT bNe (fOpN (g1 gLen) (fCons fx fNil)) (fC (.int 2))) ε S = some (!twoD d, S) := by
  have c1 := not_e (tru_b (is_e (q := isTupD) hx))
  by_cases h : ∃ ds, d = .tuple ds
  · obtain ⟨ds, rfl⟩ := h
    have := or_f c1 (cmT (opN (cns hx nl) (len_e rfl)) (fC_e _ _ _) (bNe_int _ (ds.length : Int) 2))
    rw [this]
    match ds with
    | [] => rfl
    | [_] => rfl
    | [_, _] => rfl
    | _ :: _ :: _ :: l =>
      have : decide (((l.length + 1 + 1 + 1 : Nat) : Int) = 2) = false := decide_eq_false (by omega)
      simp only [List.length_cons, this]
      rfl
  · have e : isTupD d = false := by cases d <;> first | rfl | exact absurd ⟨_, rfl⟩ h
    rw [e] at c1
    rw [or_t c1]
    cases d <;> first | rfl | exact absurd ⟨_, rfl⟩ h
theorem two_ex {d : D} (h : twoD d = true) : ∃ x y, d = .tuple [x, y] := by
  unfold twoD at h
  split at h
  · exact ⟨_, _, rfl⟩
  · cases h
theorem tieB_two {n : Int} {d : D} (h : twoD d = false) : tieB n d = false := by
  unfold tieB
  split
  · cases h
  · rfl
theorem is_tie_eq (n : Int) (d : D) (S : Bxs) : sem_is_tie [.dat (.int n), .dat d] S = some (.dat (.bool (tieB n d)), S) := by
  unfold sem_is_tie
  rw [semOf_eq]
  show finOf S (g_is_tie [some (.dat (.int n)), some (.dat d), none, none] S) = _
  unfold g_is_tie
  have c1 := head2 (fx := fVar 1) (ε := [some (.dat (.int n)), some (.dat d), none, none]) (S := S) (d := d) (vr rfl)
  by_cases h : twoD d = true
  · obtain ⟨x, y, rfl⟩ := two_ex h
    rw [h] at c1
    have s2 : sAsg (fVar 1) (hTup 2 (hCons (hName 2) (hCons (hName 3) hNil))) [some (.dat (.int n)), some (.dat (.tuple [x, y])), none, none] S = some (.nx [some (.dat (.int n)), some (.dat (.tuple [x, y])), some (.dat x), some (.dat y)] S) := rfl
    rw [sSeq_nx ((sIf_f c1).trans rfl), sSeq_nx s2]
    have c2 : fCall 1 sem_is_whole (fCons (fVar 2) fNil) [some (.dat (.int n)), some (.dat (.tuple [x, y])), some (.dat x), some (.dat y)] S = some (.dat (.bool (isWh x)), S) := cl (cns (vr (dv := .dat x) rfl) nl) rfl (is_whole_eq x S)
    have c3 : fCall 1 sem_is_whole (fCons (fVar 3) fNil) [some (.dat (.int n)), some (.dat (.tuple [x, y])), some (.dat x), some (.dat y)] S = some (.dat (.bool (isWh y)), S) := cl (cns (vr (dv := .dat y) rfl) nl) rfl (is_whole_eq y S)
    by_cases hx : ∃ a, x = .int a
    · obtain ⟨a, rfl⟩ := hx
      by_cases hy : ∃ b, y = .int b
      · obtain ⟨b, rfl⟩ := hy
        rw [sRet_eq (and_t c2 (and_t c3 (chain3_e (fC_e _ _ _) (vr (dv := .dat (.int a)) rfl) (vr (dv := .dat (.int b)) rfl) (vr (dv := .dat (.int n)) rfl)))), fin_dat rfl]
        rfl
      · have e : isWh y = false := by cases y <;> first | rfl | exact absurd ⟨_, rfl⟩ hy
        rw [e] at c3
        rw [sRet_eq (and_t c2 (and_f c3)), fin_dat rfl]
        cases y <;> first | rfl | exact absurd ⟨_, rfl⟩ hy
    · have e : isWh x = false := by cases x <;> first | rfl | exact absurd ⟨_, rfl⟩ hx
      rw [e] at c2
      rw [sRet_eq (and_f c2), fin_dat rfl]
      cases x <;> first | rfl | exact absurd ⟨_, rfl⟩ hx
  · have e : twoD d = false := by simpa using h
    rw [e] at c1
    rw [sSeq_rt ((sIf_t c1).trans (sRet_eq (fC_e _ _ _))), fin_dat rfl, tieB_two e]
/-! ### ties -/
theorem scan_all {n : Int} : ∀ {ds : List D} {last : List Int}, scanD n last ds = true → ds.all (tieB n) = true
  | [], _, _ => rfl
  | d :: ds, last, h => by
    unfold scanD at h
    simp only [Bool.and_eq_true] at h
    rw [List.all_cons, h.1, scan_all h.2.2]; rfl
def chainB : List (List Int) → Bool
  | a :: b :: r => HT.lexLt a b && chainB (b :: r)
  | _ => true
theorem scan_chain {n : Int} : ∀ {tl : List (List Int)} {last : List Int}, (tl.map dT).all (tieB n) = true → scanD n last (tl.map dT) = chainB (last :: tl)
  | [], _, _ => rfl
  | t :: tl, last, h => by
    rw [List.map_cons, List.all_cons, Bool.and_eq_true] at h
    rw [List.map_cons]
    unfold scanD chainB
    rw [h.1]
    have e : tupOf (dT t) = t := by unfold tupOf; rw [tupD_dT]; rfl
    rw [e, scan_chain h.2]
    rfl
theorem ties_tl {n : Int} : ∀ {ds : List D}, ds.all (tieB n) = true → ∃ tl : List (List Int), ds = tl.map dT ∧ ∀ t ∈ tl, TieIn n t
  | [], _ => ⟨[], rfl, fun _ h => absurd h List.not_mem_nil⟩
  | d :: ds, h => by
    rw [List.all_cons, Bool.and_eq_true] at h
    obtain ⟨tl, rfl, ht⟩ := ties_tl h.2
    obtain ⟨a, b, rfl, h0, h1, h2⟩ := tieB_ex h.1
    refine ⟨[a, b] :: tl, rfl, fun t hm => ?_⟩
    rcases List.mem_cons.mp hm with rfl | hm
    · exact ⟨a, b, rfl, h0, h1, h2⟩
    · exact ht t hm
theorem first_lt {n : Int} {tl : List (List Int)} (h : ∀ t ∈ tl, TieIn n t) : chainB ([-1, -1] :: tl) = chainB tl := by
  cases tl with
  | nil => rfl
  | cons t tl =>
    obtain ⟨a, b, rfl, h0, _⟩ := h t List.mem_cons_self
    show (HT.lexLt [-1, -1] [a, b] && chainB ([a, b] :: tl)) = _
    have : HT.lexLt [-1, -1] [a, b] = true := by
      rw [HT.lexLt_cons, if_neg (by omega)]
      exact decide_eq_true (by omega)
    rw [this]; rfl
theorem chain_range : ∀ tl : List (List Int), ((List.range (tl.length - 1)).all fun k => HT.lexLt (tl.getD k []) (tl.getD (k + 1) [])) = chainB tl
  | [] => rfl
  | [_] => rfl
  | a :: b :: r => by
    have ih := chain_range (b :: r)
    have e : (a :: b :: r).length - 1 = (b :: r).length - 1 + 1 := by simp
    rw [e, List.range_succ_eq_map, List.all_cons, List.all_map]
    unfold chainB
    rw [← ih]
    congr 1
theorem bLtT_e {S : Bxs} {a b : List Int} : bLtT S (.dat (dT a)) (.dat (dT b)) = some (HT.lexLt a b) := by
  unfold bLtT
  simp only [rd_dat, tupD_dT]
def areB (n : Int) : D → Bool
  | .tuple ts => scanD n [-1, -1] ts
  | _ => false
theorem are_ties_eq {n : Int} {d : D} (hs : ∀ ts, d = .tuple ts → ts.length ≤ 1000) (S : Bxs) : sem_are_ties [.dat (.int n), .dat d] S = some (.dat (.bool (areB n d)), S) := by
  unfold sem_are_ties
  rw [semOf_eq]
  show finOf S (g_are_ties [some (.dat (.int n)), some (.dat d), none, none] S) = _
  unfold g_are_ties
  have c1 := not_e (tru_b (is_e (q := isTupD) (d := d) (fa := fVar 1) (ε := [some (.dat (.int n)), some (.dat d), none, none]) (S := S) (vr rfl)))
  by_cases h : ∃ ts, d = .tuple ts
  · obtain ⟨ts, rfl⟩ := h
    have hl := hs ts rfl
    have c2 := allc_e (vs := [2]) (fi := iD (fVar 1)) (hg := hName 2) (fe := fCall 2 sem_is_tie (fCons (fVar 0) (fCons (fVar 2) fNil))) (ε := [some (.dat (.int n)), some (.dat (.tuple ts)), none, none]) (S := S) (tieB n) (it (vr rfl) rfl rfl) (by omega)
      (fun d hd => ⟨_, rfl, fun acc => cl (cns (vr (dv := .dat (.int n)) rfl) (cns (vr (dv := .dat d) rfl) nl)) rfl (is_tie_eq n d _)⟩)
    have c3 := not_e (tru_b c2)
    rw [sSeq_nx ((sIf_f c1).trans rfl)]
    by_cases ha : ts.all (tieB n) = true
    · rw [ha] at c3
      rw [sSeq_nx ((sIf_f c3).trans rfl)]
      obtain ⟨tl, rfl, ht⟩ := ties_tl ha
      rw [List.length_map] at hl
      have hfi : iRange1 (fCons (fOp2 gSub (fOpN (g1 gLen) (fCons (fVar 1) fNil)) (fC (.int 1))) fNil) [some (.dat (.int n)), some (.dat (.tuple (tl.map dT))), none, none] S = some (nums 0 ((((tl.map dT).length : Nat) : Int) - 1).toNat, S) := r1 (cns (op2 (opN (cns (vr rfl) nl) (len_e rfl)) (fC_e _ _ _) (gSub_e _ _ _)) nl) (okI_of (by omega) (by rw [List.length_map]; omega))
      have c4 := allc_e (vs := [3]) (hg := hName 3) (fe := fOp2 (gB bLtT) (fOp2 gIx (fVar 1) (fVar 3)) (fOp2 gIx (fVar 1) (fOp2 gAdd (fVar 3) (fC (.int 1))))) (fun d => match d with | .int k => HT.lexLt (tl.getD k.toNat []) (tl.getD (k.toNat + 1) []) | _ => false) hfi (by rw [nums_len, List.length_map]; omega) (by
        intro d hd
        obtain ⟨k, rfl, hk⟩ := nums_mem hd
        rw [List.length_map] at hk
        have k1 : k < tl.length := by omega
        have k2 : k + 1 < tl.length := by omega
        refine ⟨_, rfl, fun acc => ?_⟩
        have e1 : (tl.map dT)[(0 + (k : Int)).toNat]? = some (dT (tl.getD (0 + (k : Int)).toNat [])) := by
          rw [show (0 + (k : Int)).toNat = k by omega, List.getElem?_map, List.getElem?_eq_getElem k1]
          simp [List.getD_eq_getElem?_getD, k1]
        have e2 : (tl.map dT)[(0 + (k : Int) + 1).toNat]? = some (dT (tl.getD ((0 + (k : Int)).toNat + 1) [])) := by
          rw [show (0 + (k : Int) + 1).toNat = k + 1 by omega, show (0 + (k : Int)).toNat + 1 = k + 1 by omega, List.getElem?_map, List.getElem?_eq_getElem k2]
          simp [List.getD_eq_getElem?_getD, k2]
        exact cmE (op2 (vr rfl) (vr rfl) (gIx_e rfl (by omega) e1)) (op2 (vr rfl) (op2 (vr rfl) (fC_e _ _ _) (gAdd_e _ _ _)) (gIx_e rfl (by omega) e2)) bLtT_e)
      rw [sRet_eq c4, fin_dat rfl]
      have : areB n (.tuple (tl.map dT)) = chainB tl := by
        show scanD n [-1, -1] (tl.map dT) = _
        rw [scan_chain ha, first_lt ht]
      rw [this, ← chain_range tl]
      unfold nums
      rw [List.all_map, List.length_map, show (((tl.length : Nat) : Int) - 1).toNat = tl.length - 1 by omega]
      refine congrArg (fun b => some (DV.dat (.bool b), S)) ?_
      congr 1
      funext k
      simp
    · have ha' : ts.all (tieB n) = false := by simpa using ha
      rw [ha'] at c3
      rw [sSeq_rt ((sIf_t c3).trans (sRet_eq (fC_e _ _ _))), fin_dat rfl]
      have : areB n (.tuple ts) = false := by
        show scanD n [-1, -1] ts = false
        cases q : scanD n [-1, -1] ts with
        | false => rfl
        | true => exact absurd (scan_all q) ha
      rw [this]
  · have e : isTupD d = false := by cases d <;> first | rfl | exact absurd ⟨_, rfl⟩ h
    rw [e] at c1
    rw [sSeq_rt ((sIf_t c1).trans (sRet_eq (fC_e _ _ _))), fin_dat rfl]
    cases d <;> first | rfl | exact absurd ⟨_, rfl⟩ h
/-! ### a web -/
def webB : D → Bool
  | .tuple [.int n, t] => decide (1 ≤ n) && decide (n ≤ 8) && areB n t
  | _ => false
/-- not too long -/
def Sm (d : D) : Prop := ∀ x ts, d = .tuple [x, .tuple ts] → ts.length ≤ 1000
theorem webB_two {d : D} (h : twoD d = false) : webB d = false := by
  unfold webB
  split
  · cases h
  · rfl
theorem is_web_eq {d : D} (hs : Sm d) (S : Bxs) : sem_is_web [.dat d] S = some (.dat (.bool (webB d)), S) := by
  unfold sem_is_web
  rw [semOf_eq]
  show finOf S (g_is_web [some (.dat d), none, none] S) = _
  unfold g_is_web
  have c1 := head2 (fx := fVar 0) (ε := [some (.dat d), none, none]) (S := S) (d := d) (vr rfl)
  by_cases h : twoD d = true
  · obtain ⟨x, y, rfl⟩ := two_ex h
    rw [h] at c1
    have s2 : sAsg (fVar 0) (hTup 2 (hCons (hName 1) (hCons (hName 2) hNil))) [some (.dat (.tuple [x, y])), none, none] S = some (.nx [some (.dat (.tuple [x, y])), some (.dat x), some (.dat y)] S) := rfl
    rw [sSeq_nx ((sIf_f c1).trans rfl), sSeq_nx s2]
    have c2 : fCall 1 sem_is_whole (fCons (fVar 1) fNil) [some (.dat (.tuple [x, y])), some (.dat x), some (.dat y)] S = some (.dat (.bool (isWh x)), S) := cl (cns (vr (dv := .dat x) rfl) nl) rfl (is_whole_eq x S)
    by_cases hx : ∃ a, x = .int a
    · obtain ⟨a, rfl⟩ := hx
      have c3 : fCall 2 sem_are_ties (fCons (fVar 1) (fCons (fVar 2) fNil)) [some (.dat (.tuple [.int a, y])), some (.dat (.int a)), some (.dat y)] S = some (.dat (.bool (areB a y)), S) := cl (cns (vr (dv := .dat (.int a)) rfl) (cns (vr (dv := .dat y) rfl) nl)) rfl (are_ties_eq (fun ts e => hs (.int a) ts (by rw [e])) S)
      rw [sRet_eq (and_t c2 (and_b (chain_e (fC_e _ _ _) (vr (dv := .dat (.int a)) rfl) (fC_e _ _ _)) (fun _ => c3))), fin_dat rfl]
      rfl
    · have e : isWh x = false := by cases x <;> first | rfl | exact absurd ⟨_, rfl⟩ hx
      rw [e] at c2
      rw [sRet_eq (and_f c2), fin_dat rfl]
      cases x <;> first | rfl | exact absurd ⟨_, rfl⟩ hx
  · have e : twoD d = false := by simpa using h
    rw [e] at c1
    rw [sSeq_rt ((sIf_t c1).trans (sRet_eq (fC_e _ _ _))), fin_dat rfl, webB_two e]
end DL

set_option linter.all false
set_option maxRecDepth 100000
namespace DL
open PySem PySem.Spec L2
/-! ### turns, by which places are tied -/
section
variable {n : Int} {ties : List (List Int)}
/-! ### pieces stay -/
end
/-! ### as many places in the pieces as there are -/
/-! ### named anew and turned -/
section
variable {m : Nat} {ties : List (List Int)} {o : List Int}
end
end DL

set_option linter.all false
set_option maxRecDepth 100000
namespace L2
open PySem PySem.Spec PyProof.Rows
section
variable {X : Cx}
end
end L2
namespace DL
open PySem PySem.Spec L2
variable {K : PySem.W.Frag}
/-- a statement that is never reached -/
def sNever : FS := fun _ _ => none
theorem ds_never {X : Cx} {st : Stmt} : DS X st sNever := ⟨fun pins s σ H E I ⟨ρ, ε, S, o, M, h, k⟩ => nomatch h⟩
section
variable {X : Cx} {o e : Expr} {fo : FE} {fr : FA} {p pos apos cpos : Pos}
end
end DL

set_option linter.all false
set_option maxRecDepth 100000
/-! zip of two tuples -/
namespace ZT
open PySem PySem.Spec L2 PyProof.Rows
section
variable {prog : Program} {w : World} {A : Around} {E : Value → Shared → Prop} {s : Shared}
variable {z TI TO p q a b : Addr} {i j : Nat} {xs ys : Array Value}
end
end ZT

set_option linter.all false
set_option maxRecDepth 100000
namespace DL
open PySem PySem.Spec L2
variable {K : PySem.W.Frag}
section
variable {X : Cx} {elt iter e e2 : Expr} {ifs : List Expr} {scope : Scope} {own : List (Str × Nat)} {is : List Nat} {p pos tp : Pos} {fi : FI} {hg : FG} {ft : FT} {fe : FE} {fr : FA} {es : List Expr} {kk : Nat}
end
end DL

set_option linter.all false
set_option maxRecDepth 100000
/-! what is shown of webs -/
namespace DL
open PySem PySem.Spec L2
theorem fin_ret {f : FE} {ε : DEnv} {S0 S S' : Bxs} {d : D} (h : f ε S = some (.dat d, S')) (hl : S'.length = S0.length) : finOf S0 (sRet f ε S) = some (.dat d, S') := by rw [sRet_eq h]; exact fin_dat hl
end DL

set_option linter.all false
set_option maxRecDepth 100000
/-! papers: the defs of the program and of the laws, as functions of data -/
namespace DL
open PySem PySem.Spec L2
end DL

set_option linter.all false
set_option maxRecDepth 100000
/-! papers, as lists of fours -/
namespace DL
open PySem PySem.Spec L2
end DL

set_option linter.all false
set_option maxRecDepth 100000
/-! the laws' own papers -/
namespace DL
open PySem PySem.Spec L2
end DL

set_option linter.all false
set_option maxRecDepth 100000
/-! whether a thing is a paper -/
namespace DL
open PySem PySem.Spec L2
end DL

set_option linter.all false
set_option maxRecDepth 100000
/-! the laws' own look at papers -/
namespace DL
open PySem PySem.Spec L2
section
variable {m : Nat} {t1 t2 P : List (List Int)}
end
end DL

set_option linter.all false
set_option maxRecDepth 100000
namespace L2
open PySem PySem.Spec PyProof.Rows ST SE
section
variable {X : Cx}
end
end L2
namespace DL
open PySem PySem.Spec L2
section
variable {X : Cx} {e : Expr} {fr : FA} {p pos : Pos}
end
end DL

set_option linter.all false
set_option maxRecDepth 100000
/-! ### kept lists lent to a def that changes none; a list just made kept for a call; xs.remove; a store of a walk over a kept list -/
namespace L2
open PySem PySem.Spec PyProof.Rows
section
variable {X : Cx}
end
end L2
namespace DL
open PySem PySem.Spec L2
variable {K : PySem.W.Frag}
section
variable {X : Cx} {o e : Expr} {es : List Expr} {fo fa : FE} {fr : FA} {apos cpos : Pos}
/-! lending -/
variable {x : Str} {p pos : Pos}
end
section
variable {X : Cx} {y : Str} {py : Pos} {i : Nat} {spos : Pos} {elt tg iter : Expr} {ifs : List Expr} {scope : Scope} {own : List (Str × Nat)} {is : List Nat} {pos : Pos} {fa : FE} {hg : FG} {ft : FT} {fe : FE}
end
end DL

set_option linter.all false
set_option maxRecDepth 100000
/-! places peeled off, places left out: the laws, as functions of data -/
namespace DL
open PySem PySem.Spec L2
end DL

set_option linter.all false
set_option maxRecDepth 100000
/-! places peeled off -/
namespace DL
open PySem PySem.Spec L2
section
variable {m : Nat} {ties : List (List Int)}
end
end DL

set_option linter.all false
set_option maxRecDepth 100000
/-! close places; the greatest place first -/
namespace DL
open PySem PySem.Spec L2
section
variable {m : Nat} {ties : List (List Int)}
/-! ### the greatest place that can goes -/
end
end DL

set_option linter.all false
set_option maxRecDepth 100000
/-! places peeled off: the program -/
namespace DL
open PySem PySem.Spec L2
section
variable {m : Nat} {ties : List (List Int)}
end
end DL

set_option linter.all false
set_option maxRecDepth 100000
/-! small things, and that they are shown alike -/
namespace DL
open PySem PySem.Spec L2
end DL

set_option linter.all false
set_option maxRecDepth 100000
/-! a web is peeled: the program -/
namespace DL
open PySem PySem.Spec L2
section
variable {m : Nat} {ties : List (List Int)}
end
end DL

set_option linter.all false
set_option maxRecDepth 100000
/-! places left out: the program and the laws -/
namespace DL
open PySem PySem.Spec L2
section
variable {n p : Int} {ties : List (List Int)}
end
end DL

set_option linter.all false
set_option maxRecDepth 100000
/-! ### tuples of whole numbers and of such tuples, as keys -/
namespace DWK
open PySem PySem.Spec PyProof.Rows L2 DL
abbrev D := PyData
@[inline] def here : Unit := ()
mutual
def isK : D → Bool
  | .int _ => true
  | .tuple ds => isKs ds
  | _ => false
def isKs : List D → Bool
  | [] => true
  | d :: ds => isK d && isKs ds
end
section
variable {prog : Program} {w : World} {E : Value → Shared → Prop}
end
end DWK

set_option linter.all false
set_option maxRecDepth 100000
/-! ### dicts, on data -/
namespace DL
open PySem PySem.Spec L2 DWK
variable {K : PySem.W.Frag}
/-! ### the heap's side -/
section
variable {X : Cx} {pins : List (Addr × Obj)} {σ : St} {ρ : List Addr} {H : Hp} {s : Shared} {a : Addr} {ds : List D}
variable {b : Bool} {y : V} {u : Value} {kd : D} {A : Around} {E : Value → Shared → Prop}
end
end DL

set_option linter.all false
set_option maxRecDepth 100000
/-! ### dicts: the rules -/
namespace DL
open PySem PySem.Spec L2 DWK
variable {K : PySem.W.Frag}
/-! k in d, k not in d -/
section
variable {X : Cx} {a b o i e : Expr} {fa fb fo fi fe : FE} {fr : FA} {pos : Pos}
/-! d[k] -/
/-! d[k] = v -/
/-! a dict just made is kept by a name -/
/-! {} -/
end
end DL

set_option linter.all false
set_option maxRecDepth 100000
namespace DL
open PySem PySem.Spec L2 DWK
variable {K : PySem.W.Frag}
end DL

set_option linter.all false
set_option maxRecDepth 100000
namespace L2
open PySem PySem.Spec PyProof.Rows
section
variable {X : Cx}
end
end L2

set_option linter.all false
set_option maxRecDepth 100000
namespace DL
open PySem PySem.Spec L2 DWK
variable {K : PySem.W.Frag}
/-! ### << and ^ of whole numbers -/
section
variable {X : Cx} {a b : Expr} {fa fb : FE} {pos : Pos}
end
/-! ### list(d), len(d) -/
section
variable {X : Cx} {e a : Expr} {fr : FA} {pos p : Pos}
end
end DL

set_option linter.all false
set_option maxRecDepth 100000
namespace DL
open PySem PySem.Spec L2 DWK
variable {K : PySem.W.Frag}
section
variable {X : Cx} {e k v o : Expr} {fr : FA} {fo fe : FE} {pos p apos cpos : Pos}
/-! ### {web: ()} -/
/-! d.get(k) -/
end
end DL

set_option linter.all false
set_option maxRecDepth 100000
/-! ways: the defs of the program and of the laws, as functions of data -/
namespace DL
open PySem PySem.Spec L2
end DL

set_option linter.all false
set_option maxRecDepth 100000
/-! ### walking along turns: what is found, with the rows -/
namespace DL
open PySem PySem.Spec L2
abbrev TL := List (List Int)
/-! one place, all places -/
section
variable {m : Nat} {t0 k : TL} {s : EWs × List TL} {p : Int}
end
end DL

set_option linter.all false
set_option maxRecDepth 100000
namespace DL
open PySem PySem.Spec L2
section
variable {m : Nat} {S : Bxs} {b l : Nat} {s s' : EWs × List TL}
end
section
variable {m : Nat} {S : Bxs} {b l : Nat} {s s' : EWs × List TL} {t0 k : TL} {p : Int} {semT : Sem0} {fk : FE} {pl f lt : Nat}
end
end DL

set_option linter.all false
set_option maxRecDepth 100000
namespace DL
open PySem PySem.Spec L2
/-! ### the program -/
section
variable {m : Nat} {U : Bxs} {b l k2 : Nat} {t0 : TL}
end
end DL

set_option linter.all false
set_option maxRecDepth 100000
namespace DL
open PySem PySem.Spec L2
/-! ### the law's way -/
section
variable {m : Nat} {U : Bxs} {b l : Nat} {t0 : TL}
end
end DL

set_option linter.all false
set_option maxRecDepth 100000
namespace DL
open PySem PySem.Spec L2
section
variable {m : Nat} {t u : TL} {n : Int}
end
end DL

set_option linter.all false
set_option maxRecDepth 100000
/-! papers go together -/
namespace DL
open PySem PySem.Spec L2
/-! ### bits -/
/-! ### papers, place by place -/
/-! ### sums by evens and odds -/
/-! ### fits -/
/-! ### the bits of papers -/
/-! ### what fits -/
end DL

set_option linter.all false
set_option maxRecDepth 100000
/-! ### papers lead to rows -/
namespace DL
open PySem PySem.Spec L2
section
variable {m : Nat} {t1 t2 : TL} {P : List (List Int)}
end
/-! ### what is found is all -/
section
variable {m : Nat} {t0 : TL}
end
end DL

set_option linter.all false
set_option maxRecDepth 100000
/-! ### webs that can be peeled down: by a tree whose cuts have rank 1 at most -/
namespace DL
open PySem PySem.Spec L2
namespace BT
end BT
section
variable {t : TL} {L : List Int}
end
end DL

set_option linter.all false
set_option maxRecDepth 100000
namespace DL
open PySem PySem.Spec L2
section
variable {t : TL}
end
/-! ### turns -/
section
variable {m : Nat} {t : TL}
/-! ### other names -/
end
end DL

set_option linter.all false
set_option maxRecDepth 100000
/-! ranks, trees: the defs of the program, as functions of data -/
namespace DL
open PySem PySem.Spec L2
end DL

set_option linter.all false
set_option maxRecDepth 100000
namespace DL
open PySem PySem.Spec L2
namespace RK
/-! ### bits -/
/-! the law's sums -/
section
variable {m : Nat} {ties : List (List Int)} {sd : List Int}
/-! ### the program's rank -/
end
end RK
end DL

set_option linter.all false
set_option maxRecDepth 100000
namespace DL
open PySem PySem.Spec L2
/-! ### close places -/
section
variable {m : Nat} {t : TL} {L : List Int}
end
/-! ### ranks of two places -/
section
variable {m : Nat} {t : TL}
end
end DL

set_option linter.all false
set_option maxRecDepth 100000
namespace DL
open PySem PySem.Spec L2
/-! ### trees -/
section
variable {m : Nat} {t : TL}
end
end DL

set_option linter.all false
set_option maxRecDepth 100000
namespace L2
open PySem PySem.Spec PyProof.Rows
section
variable {X : Cx}
end
end L2
namespace DL
open PySem PySem.Spec L2
section
variable {X : Cx} {e : Expr} {fr : FA} {p pos : Pos}
end
end DL

set_option linter.all false
set_option maxRecDepth 100000
namespace DL
open PySem PySem.Spec L2
namespace PK
section
variable {m : Nat} {ties : List (List Int)} {th : D}
end
end PK
end DL

set_option linter.all false
set_option maxRecDepth 100000
/-! ### the sort of any number of things: the order, the questions, runs, insertion -/
namespace TS
open PySem PyProof.Rows
structure Ord (lt : Keyed → Keyed → Bool) : Prop where
  irr : ∀ a, lt a a = false
  tr : ∀ a b c, lt a b = true → lt b c = true → lt a c = true
  nt : ∀ a b c, lt a c = true → lt a b = true ∨ lt b c = true
section
variable {lt : Keyed → Keyed → Bool} (O : Ord lt)
include O
end
/-- the questions are answered by one order -/
def Asks (prog : Program) (w : World) (A : Around) (E : Value → Shared → Prop) (s : Shared) (κ : SortKind) (a₀ : Array Keyed) (lt : Keyed → Keyed → Bool) : Prop :=
  ∀ (x y : Keyed) (st : SortSt) (Q : Option Bool → SortSt → Prop), x ∈ a₀.toList → y ∈ a₀.toList → kindOf st = κ → Q (some (lt x y)) st → wpS (model prog w) A E s (lt' x y) Q st
section
variable {prog : Program} {w : World} {A : Around} {E : Value → Shared → Prop} {s : Shared} {a₀ : Array Keyed} {κ : SortKind} {lt : Keyed → Keyed → Bool} {p : Array (Nat × Nat × Nat)}
variable (O : Ord lt) (hA : Asks prog w A E s κ a₀ lt)
include O hA
omit hA in
omit hA in
end
end TS

set_option linter.all false
set_option maxRecDepth 100000
/-! ### gallop: how many lie ahead of a key -/
namespace TS
open PySem PyProof.Rows
section
variable {prog : Program} {w : World} {A : Around} {E : Value → Shared → Prop} {s : Shared} {a₀ : Array Keyed} {κ : SortKind} {lt : Keyed → Keyed → Bool}
end
end TS

set_option linter.all false
set_option maxRecDepth 100000
/-! ### two runs become one, from below -/
namespace TS
open PySem PyProof.Rows
section
variable {lt : Keyed → Keyed → Bool} {a b out out' : Array Keyed} {ia ib k : Nat}
end
section
variable {M : Model} {A : Around} {E : Value → Shared → Prop} {s : Shared} {σ α : Type}
end
section
variable {prog : Program} {w : World} {A : Around} {E : Value → Shared → Prop} {s : Shared} {a₀ : Array Keyed} {κ : SortKind} {lt : Keyed → Keyed → Bool}
end
end TS

set_option linter.all false
set_option maxRecDepth 100000
/-! ### two runs become one, from above -/
namespace TS
open PySem PyProof.Rows
section
variable {lt : Keyed → Keyed → Bool} {a b out out' : Array Keyed} {na nb n : Nat}
end
section
variable {prog : Program} {w : World} {A : Around} {E : Value → Shared → Prop} {s : Shared} {a₀ : Array Keyed} {κ : SortKind} {lt : Keyed → Keyed → Bool}
end
end TS

set_option linter.all false
set_option maxRecDepth 100000
/-! ### the runs that wait, and the whole sort -/
namespace TS
open PySem PyProof.Rows
/-! #### a stretch is written back -/
section
variable {prog : Program} {w : World} {A : Around} {E : Value → Shared → Prop} {s : Shared} {a₀ : Array Keyed} {κ : SortKind} {lt : Keyed → Keyed → Bool}
end
end TS

set_option linter.all false
set_option maxRecDepth 100000
namespace TS
open PySem PyProof.Rows
section
variable {prog : Program} {w : World} {A : Around} {E : Value → Shared → Prop} {s : Shared} {a₀ : Array Keyed} {κ : SortKind} {lt : Keyed → Keyed → Bool}
end
end TS


set_option linter.all false
set_option maxRecDepth 100000
/-! ### webs in order -/
namespace TW
open PySem PySem.Spec PyProof.Rows DL DWK SE
/-! #### the machine's side -/
section
open PySem.SeqAt
open PySem.AutoSeq1 (wpAny_loadPart')
open PySem.MeetsSeq PySem.MeetsSeq2 PySem.MeetsSeq3
end
section
variable {prog : Program} {w : World} {A : Around} {E : Value → Shared → Prop} {s : Shared}
end
end TW

set_option linter.all false
set_option maxRecDepth 100000
/-! ### walking a dict whose keys are webs -/
namespace TW
open PySem PySem.Spec PyProof.Rows DL DWK SE
section
variable {prog : Program} {w : World} {A : Around} {E : Value → Shared → Prop} {s : Shared} {d it : Addr} {es : Array DictEntry} {ep i : Nat}
end
end TW

set_option linter.all false
set_option maxRecDepth 100000
/-! ### webs sorted, as many as there are -/
namespace TW
open PySem PySem.Spec PyProof.Rows DL DWK SE
open Classical in
section
variable {prog : Program} {w : World} {A : Around} {E : Value → Shared → Prop} {s : Shared}
end
end TW

set_option linter.all false
set_option maxRecDepth 100000
/-! ### sorted(d), the keys of d being webs -/
namespace DL
open PySem PySem.Spec PyProof.Rows L2 DWK
section
variable {X : Cx}
end
section
variable {X : Cx} {e : Expr} {fr : FA} {p pos : Pos}
end
end DL

set_option linter.all false
set_option maxRecDepth 100000
/-! ### all that are alike, sorted -/
namespace DL
open PySem PySem.Spec L2
end DL

set_option linter.all false
set_option maxRecDepth 100000
/-! ### least rows are least; no row need be long -/
namespace DL
open PySem PySem.Spec L2
section
variable {m : Nat} {t0 : TL}
end
end DL

set_option linter.all false
set_option maxRecDepth 100000
/-! ### ways between alike webs; the alike webs of a web under other names -/
namespace DL
open PySem PySem.Spec L2
section
variable {m : Nat} {t u : TL}
/-! #### other names -/
variable {o : List Int}
end
end DL

set_option linter.all false
set_option maxRecDepth 100000
/-! ### pairs of a whole number and a tuple of whole numbers, sorted -/
namespace TW
open PySem PySem.Spec PyProof.Rows DL DWK SE
section
variable {prog : Program} {w : World} {A : Around} {E : Value → Shared → Prop} {s : Shared}
end
open Classical in
section
variable {prog : Program} {w : World} {A : Around} {E : Value → Shared → Prop} {s : Shared}
end
end TW

set_option linter.all false
set_option maxRecDepth 100000
/-! ### max(t, default=d) -/
namespace MX
open PySem PySem.Spec PyProof.Rows
section
variable {prog : Program} {w : World} {A : Around} {E : Value → Shared → Prop} {R : Result → Shared → Prop} {I : Addr} {fp wr : List Addr} {n : Nat} {P : Nat → Value → Prop} {St : Nat → Heap → Prop}
end
section
variable {prog : Program} {w : World} {A : Around} {E : Value → Shared → Prop} {s : Shared} {l : Addr} {xs : Array (Int × Tok)}
end
end MX

set_option linter.all false
set_option maxRecDepth 100000
namespace DL
open PySem PySem.Spec PyProof.Rows L2
section
variable {X : Cx} {e v : Expr} {te tv : TE} {fe fv : FE} {p pos kp : Pos}
end
end DL

set_option linter.all false
set_option maxRecDepth 100000
/-! ### max(xs), abs(i), xs.count(i) -/
namespace L2
open PySem PySem.Spec PyProof.Rows
section
variable {X : Cx}
end
end L2
namespace DL
open PySem PySem.Spec PyProof.Rows L2
variable {K : PySem.W.Frag}
section
variable {X : Cx} {o e : Expr} {fo fe : FE} {fr : FA} {p pos apos cpos : Pos}
end
end DL

set_option linter.all false
set_option maxRecDepth 100000
/-! ### sorted([(n, t) ..]); >> -/
namespace DL
open PySem PySem.Spec PyProof.Rows L2 DWK
section
variable {X : Cx}
end
section
variable {X : Cx} {e a b : Expr} {fr : FA} {fa fb : FE} {p pos : Pos}
end
end DL

set_option linter.all false
set_option maxRecDepth 100000
/-! ### xs.extend(a list that is data) -/
namespace L2
open PySem PySem.Spec PyProof.Rows
section
variable {X : Cx}
end
end L2
namespace DL
open PySem PySem.Spec L2
section
variable {X : Cx} {o e : Expr} {fo : FE} {fr : FA} {apos cpos : Pos}
end
end DL

set_option linter.all false
set_option maxRecDepth 100000
/-! all sides, their ranks: the defs, as functions of data -/
namespace DL
open PySem PySem.Spec L2
end DL

set_option linter.all false
set_option maxRecDepth 100000
namespace DL
open PySem PySem.Spec L2
namespace RK
section
variable {m : Nat} {ties : List (List Int)} {sd : List Int}
end
end RK
end DL

set_option linter.all false
set_option maxRecDepth 100000
/-! ### all sides, level by level -/
namespace DL
open PySem PySem.Spec L2
end DL

set_option linter.all false
set_option maxRecDepth 100000
namespace DL
open PySem PySem.Spec L2
/-! ranks -/
section
variable {m : Nat} {t : TL}
end
end DL

set_option linter.all false
set_option maxRecDepth 100000
namespace DL
open PySem PySem.Spec L2
end DL

set_option linter.all false
set_option maxRecDepth 100000
/-! ### sum(a tuple of whole numbers) -/
namespace L2
open PySem PySem.Spec PyProof.Rows
section
variable {prog : Program} {w : World} {A : Around} {E : Value → Shared → Prop} {s : Shared} {l : Addr} {xs : Array (Int × Tok)}
end
section
variable {X : Cx}
end
end L2
namespace DL
open PySem PySem.Spec PyProof.Rows L2
variable {K : PySem.W.Frag}
section
variable {X : Cx} {e : Expr} {fr : FA} {p pos : Pos}
end
end DL

set_option linter.all false
set_option maxRecDepth 100000
/-! ### texts: str(i), int(x), x + y, sep.join(xs), x.split(sep), x.endswith(y) -/
namespace DL
open PySem PySem.Spec L2
variable {K : PySem.W.Frag}
def gStrI : Bxs → DV → Option DV := fun S x => match rd S x with
  | some (.int i) => if i.natAbs.log2 < 1920 then some (.dat (.str (toString i))) else none
  | _ => none
theorem op_strI : OpN K (fun xs H Q => ∃ i, xs = [.int i] ∧ i.natAbs.log2 < 1920 ∧ Q (.str (toString i)) H) (g1 gStrI) := opN1 (by
  intro ρ S H0 H v x dv Q st fr r1 h k
  unfold gStrI at h
  split at h
  · rename_i i e1
    split at h
    · rename_i hi
      cases h
      have := rd_int r1 e1
      subst this
      exact ⟨i, rfl, hi, k _ _ (.dat st (.str _)) (Ext.refl _ _)⟩
    · cases h
  · cases h)
def gIntS : Bxs → DV → Option DV := fun S x => match rd S x with
  | some (.str a) => if a.length ≤ 640 then (PySem.intText? a).map fun n => .dat (.int n) else none
  | _ => none
theorem op_intS : OpN K (fun xs H Q => ∃ a n, xs = [.str a] ∧ PySem.intText? a = some n ∧ a.length ≤ 640 ∧ Q (.int n) H) (g1 gIntS) := opN1 (by
  intro ρ S H0 H v x dv Q st fr r1 h k
  unfold gIntS at h
  split at h
  · rename_i a e1
    split at h
    · rename_i hi
      obtain ⟨n, hn, rfl⟩ := Option.map_eq_some_iff.mp h
      have := rd_str r1 e1
      subst this
      exact ⟨a, n, rfl, hn, hi, k _ _ (.dat st (.int _)) (Ext.refl _ _)⟩
    · cases h
  · cases h)
def gAddS : Bxs → DV → DV → Option DV := fun S x y => match rd S x, rd S y with
  | some (.str a), some (.str b) => if a.length + b.length ≤ sizeLine then some (.dat (.str (a ++ b))) else none
  | _, _ => none
theorem op2_addS : Op2 K (fun x y H Q => ∃ i j, x = .str i ∧ y = .str j ∧ i.length + j.length ≤ sizeLine ∧ Q (.str (i ++ j)) H) gAddS := by
  intro ρ S H0 H v u x y dv Q st fr r1 r2 h k
  unfold gAddS at h
  split at h
  · rename_i a b e1 e2
    split at h
    · rename_i hc
      cases h
      have h1 := rd_str r1 e1
      have h2 := rd_str r2 e2
      subst h1 h2
      exact ⟨a, b, rfl, rfl, hc, k _ _ (.dat st (.str _)) (Ext.refl _ _)⟩
    · cases h
  · cases h
/-- the texts of a list -/
def strsD : List D → Option (List Str)
  | [] => some []
  | .str a :: ds => (strsD ds).map (a :: ·)
  | _ :: _ => none
theorem strsD_eq : ∀ {ds : List D} {ys : List Str}, strsD ds = some ys → ds = ys.map .str
  | [], _, h => by cases h; rfl
  | .str a :: ds, _, h => by
    obtain ⟨zs, hz, rfl⟩ := Option.map_eq_some_iff.mp h
    rw [strsD_eq hz]; rfl
  | .int _ :: _, _, h => by cases h
  | .bool _ :: _, _, h => by cases h
  | .none :: _, _, h => by cases h
  | .list _ :: _, _, h => by cases h
  | .tuple _ :: _, _, h => by cases h
  | .dict _ :: _, _, h => by cases h
theorem strsD_map : ∀ ys : List Str, strsD (ys.map .str) = some ys
  | [] => rfl
  | a :: ys => by rw [List.map_cons]; unfold strsD; rw [strsD_map ys]; rfl
theorem RpA.strs {ρ : List Addr} {H : Hp} : ∀ {ys : List Str} {xs : List V}, RpA K ρ H xs (ys.map .str) → xs = ys.map V.str
  | [], _, h => by cases h; rfl
  | y :: ys, _, h => by
    cases h with
    | cons a b => cases a; rw [RpA.strs b]; rfl
theorem RpA.ofStrs {ρ : List Addr} {H : Hp} : ∀ ys : List Str, RpA K ρ H (ys.map V.str) (ys.map .str)
  | [] => .nil
  | y :: ys => .cons (.str y) (RpA.ofStrs ys)
def fJoin (fo fe : FE) : FE := fun ε S => match fo ε S with
  | some (.dat (.str a), S1) => (match fe ε S1 with
    | some (x, S2) => (match rd S2 x with
      | some (.list ds) => (match strsD ds with
        | some ys => if (ys.map (·.length)).sum + ys.length * a.length ≤ 16777216 then some (.dat (.str (Txt.join a ys)), S2) else none
        | none => none)
      | _ => none)
    | none => none)
  | _ => none
def fSplit (fo fe : FE) : FE := fun ε S => match fo ε S with
  | some (.dat (.str a), S1) => (match fe ε S1 with
    | some (.dat (.str b), S2) => if ((b.length == 0) = false ∧ a.length + 2 ≤ sizeLine) then some (.lst ((Txt.split a b).map .str), S2) else none
    | _ => none)
  | _ => none
def fEndsW (fo fe : FE) : FE := fun ε S => match fo ε S with
  | some (.dat (.str a), S1) => (match fe ε S1 with
    | some (.dat (.str b), S2) => some (.dat (.bool (Txt.endswith a b)), S2)
    | _ => none)
  | _ => none
section
variable {X : Cx} {o e a b : Expr} {fo fe fa fb : FE} {fr : FA} {p pos apos : Pos}
theorem e_strI (hm : X.mg "str" = none) (hg : Gl X "str") (ha : DA X [e] fr) (he : starEach [e] X.env = (false, eval e X.env) :: starEach [] X.env := by rfl) (hpl : (backTo pos (starEach [] X.env)).any (·.1) = false := by rfl) :
    DE X (.Call (.Name "str" p) [e] [] pos) (fOpN (g1 gStrI) fr) := de_callTy call_str_int op_strI hg hm rfl ha (by decide) (by decide) he hpl
theorem e_intS (hm : X.mg "int" = none) (hg : Gl X "int") (ha : DA X [e] fr) (he : starEach [e] X.env = (false, eval e X.env) :: starEach [] X.env := by rfl) (hpl : (backTo pos (starEach [] X.env)).any (·.1) = false := by rfl) :
    DE X (.Call (.Name "int" p) [e] [] pos) (fOpN (g1 gIntS) fr) := de_callTy call_int_str op_intS hg hm rfl ha (by decide) (by decide) he hpl
theorem e_addS (ha : DE X a fa) (hb : DE X b fb) : DE X (.BinOp a .Add b pos) (fOp2 gAddS fa fb) := de_bin op_add_str op2_addS ha hb
theorem de_endsW (ho : DE X o fo) (he : DE X e fe) (hs : starEach [e] X.env = [(false, eval e X.env)] := by rfl) (hbase : attributeBase o "endswith" X.env (eval o X.env) = eval o X.env := by rfl) (hline : (apos.endLine == pos.line) = true := by rfl) :
    DE X (.Call (.Attribute o "endswith" apos) [e] [] pos) (fEndsW fo fe) := ⟨PE.imp (pe_m1 PySem.F.slot_str_endswith PySem.F.type_str_endswith mt_endswith ho.pe he.pe hs hbase hline) fun σ H Q ⟨ρ, ε, S, dv, S', M, h, k⟩ => by
  unfold fEndsW at h
  split at h
  · rename_i a S1 h1
    split at h
    · rename_i b S2 h2
      cases h
      refine ⟨ρ, ε, S, _, S1, M, h1, fun v H1 ⟨st1, r1, _⟩ x1 => ?_⟩
      have := rd_str (S := S1) r1 rfl
      subst this
      refine ⟨⟨a, rfl⟩, ρ, ε, S1, _, S', M.next x1 st1, h2, fun u H2 ⟨st2, r2, _⟩ x2 => ?_⟩
      have := rd_str (S := S') r2 rfl
      subst this
      exact ⟨a, b, rfl, rfl, k _ _ (.dat st2 (.bl _)) (x1.trans x2)⟩
    · cases h
  · cases h⟩
theorem de_split (ho : DE X o fo) (he : DE X e fe) (hs : starEach [e] X.env = [(false, eval e X.env)] := by rfl) (hbase : attributeBase o "split" X.env (eval o X.env) = eval o X.env := by rfl) (hline : (apos.endLine == pos.line) = true := by rfl) :
    DE X (.Call (.Attribute o "split" apos) [e] [] pos) (fSplit fo fe) := ⟨PE.imp (pe_split ho.pe he.pe hs hbase hline) fun σ H Q ⟨ρ, ε, S, dv, S', M, h, k⟩ => by
  unfold fSplit at h
  split at h
  · rename_i a S1 h1
    split at h
    · rename_i b S2 h2
      split at h
      · rename_i hc
        cases h
        refine ⟨ρ, ε, S, _, S1, M, h1, fun v H1 ⟨st1, r1, _⟩ x1 => ?_⟩
        have := rd_str (S := S1) r1 rfl
        subst this
        refine ⟨⟨a, rfl⟩, ρ, ε, S1, _, S', M.next x1 st1, h2, fun u H2 ⟨st2, r2, _⟩ x2 => ?_⟩
        have := rd_str (S := S') r2 rfl
        subst this
        refine ⟨a, b, rfl, rfl, hc.1, hc.2, fun q hq => ?_⟩
        obtain ⟨a1, a3⟩ := new_lst (H0 := H) st2 (fun z hz => x1.free (x2.free hz)) hq (RpA.ofStrs (K := X.K) (ρ := ρ) (Txt.split a b))
        exact k _ _ a1 ((x1.trans x2).trans a3)
      · cases h
    · cases h
  · cases h⟩
theorem de_join (ho : DE X o fo) (he : DE X e fe) (hs : starEach [e] X.env = [(false, eval e X.env)] := by rfl) (hbase : attributeBase o "join" X.env (eval o X.env) = eval o X.env := by rfl) (hline : (apos.endLine == pos.line) = true := by rfl) :
    DE X (.Call (.Attribute o "join" apos) [e] [] pos) (fJoin fo fe) := ⟨PE.imp (pe_join ho.pe he.pe hs hbase hline) fun σ H Q ⟨ρ, ε, S, dv, S', M, h, k⟩ => by
  unfold fJoin at h
  split at h
  · rename_i a S1 h1
    split at h
    · rename_i x S2 h2
      split at h
      · rename_i ds e1
        split at h
        · rename_i ys e2
          split at h
          · rename_i hc
            cases h
            refine ⟨ρ, ε, S, _, S1, M, h1, fun v H1 ⟨st1, r1, _⟩ x1 => ?_⟩
            have := rd_str (S := S1) r1 rfl
            subst this
            refine ⟨⟨a, rfl⟩, ρ, ε, S1, _, S', M.next x1 st1, h2, fun u H2 ⟨st2, r2, _⟩ x2 => ?_⟩
            obtain ⟨q, xs, rfl, hz, rz⟩ := rd_lst (S := S') st2 r2 e1
            have := strsD_eq e2
            subst this
            have := RpA.strs rz
            subst this
            exact ⟨a, q, ys, rfl, rfl, .inl hz, hc, k _ _ (.dat st2 (.str _)) (x1.trans x2)⟩
          · cases h
        · cases h
      · cases h
    · cases h
  · cases h⟩
end
end DL

set_option linter.all false
set_option maxRecDepth 100000
/-! ### refusals: an error that is under way, and the frames that it leaves -/
namespace XR
open PySem PySem.Spec L2
section
variable {M : Model} {A : Around} {E : Value → Shared → Prop} {s : Shared} {env : Env} {outer : List Env} {L e : Addr} {cls : Value} {B : Heap} {Q : Unit → Shared → Prop}
end
end XR

set_option linter.all false
set_option maxRecDepth 100000
namespace XR
open PySem PySem.Spec L2
section
variable {X : Cx} {E : XK} {pins : List (Addr × Obj)} {σ : St} {H : Hp} {s : Shared}
end
/-! ### raise C("..") -/
section
variable {X : Cx} {E : XK} {C : Addr} {x : Str} {e : Expr} {t : TA} {np cpos pos : Pos}
end
end XR

set_option linter.all false
set_option maxRecDepth 100000
/-! ### lambda: the function object, and its code in the table of the def around it -/
namespace XR
open PySem PySem.Spec L2 DL
section
variable {X : Cx} {pins : List (Addr × Obj)} {σ : St} {H : Hp} {s : Shared} {c P : Addr} {q : Str}
end
end XR

set_option linter.all false
set_option maxRecDepth 100000
/-! ### a lambda is made, and called -/
namespace XR
open PySem PySem.Spec L2 DL
section
variable {P : Program} {w : World} {K : PySem.W.Frag} {mg : Str → Option Value} {base : Heap} {N : List Str} {q : Str} {scope : Scope} {a c' : Addr} {clos : List (Str × Addr)} {A : Around} {outer : List Env} {s : Shared} {H : Hp} {E : XK}
end
end XR

set_option linter.all false
set_option maxRecDepth 100000
/-! ### isinstance of an error -/
namespace XR
open PySem PySem.Spec L2
section
variable {prog : Program} {w : World} {A : Around} {E : Value → Shared → Prop} {s : Shared} {K : PySem.W.Frag} {x D : Addr} {ox : Obj}
end
/-! an error that is kept -/
end XR

set_option linter.all false
set_option maxRecDepth 100000
/-! ### try: f(); except C as e: y = e -/
namespace XR
open PySem PySem.Spec L2
section
variable {X : Cx} {pins : List (Addr × Obj)} {σ : St} {H H' : Hp} {s s' : Shared} {e : Addr} {o : HO} {A' : Around}
end
section
variable {prog : Program} {w : World} {A : Around} {E : Value → Shared → Prop} {K : PySem.W.Frag} {h : Heap} {g : Array GenState} {d : Drawn} {tk : Nat} {os : OsState}
end
end XR

set_option linter.all false
set_option maxRecDepth 100000
namespace XR
open PySem PySem.Spec L2
section
variable {X : Cx} {i0 iy ie : Nat} {x0 y n cx : Str} {CT : Addr} {p0 cp ep np yp np2 ap hp pos : Pos}
end
end XR

set_option linter.all false
set_option maxRecDepth 100000
/-! ### what is refused: readings that end with an error of a class -/
namespace DL
open PySem PySem.Spec L2 XR
section
variable {X : Cx} {E : XK} {cls : Nat → Addr} {st : Stmt} {rest : List Stmt} {g : FS} {gx gy : FX} {e : Expr} {es : List Expr} {fr : FA} {pos : Pos}
end
section
variable {P : Program} {w : World} {K : PySem.W.Frag} {mg : Str → Option Value} {base : Heap}
end
end DL

set_option linter.all false
set_option maxRecDepth 100000
/-! ### the law's own look at a refusal -/
namespace DL
open PySem PySem.Spec L2 XR
section
variable {X : Cx}
end
section
variable {X : Cx} {cls : Nat → Addr} {CT a : Addr} {g6 : FS} {H : Hp} {Q : VK}
end
end DL

set_option linter.all false
set_option maxRecDepth 100000
namespace DL
open PySem PySem.Spec L2 XR
section
variable {X : Cx} {args : Arguments} {body : Expr} {scope : Scope} {lpos pos p : Pos} {cls : Nat → Addr} {CT : Addr} {gx : FX} {f : FE} {c P : Addr} {q : Str} {k : Nat}
end
end DL

set_option linter.all false
set_option maxRecDepth 100000
/-! ### the start of a law in which lambdas stand -/
namespace DL
open PySem PySem.Spec L2 XR
/-! the written part with a mark behind it -/
section
variable {K : PySem.W.Frag} {P : Addr} {q : Str} (h3 : (K.lookup mainGlobals).isSome = true)
include h3
end
end DL

set_option linter.all false
set_option maxRecDepth 100000
namespace DL
open PySem PySem.Spec L2 XR PyProof.Rows
section
variable {Pg : Program} {w : World} {K : PySem.W.Frag} {mg mb : Str → Option Value} {base : Heap}
end
end DL
namespace DL
open PySem PySem.Spec L2 XR
end DL

set_option linter.all false
set_option maxRecDepth 100000
namespace L2
open PySem PySem.Spec PyProof.Rows
section
variable {X : Cx} {e : Expr} {te : TE} {a b : Str} {j1 j2 : Nat} {p1 p2 p3 pos : Pos}
end
end L2
namespace DL
open PySem PySem.Spec L2
section
variable {X : Cx} {e : Expr} {fa : FE} {a b : Str} {j1 j2 : Nat} {p1 p2 p3 pos : Pos}
end
end DL

set_option linter.all false
set_option maxRecDepth 100000
namespace L2
open PySem PySem.Spec PyProof.Rows
/-! ### f'{i}b', f'a{i}b{j}' -/
def fmtE (b : Str) (i : Int) : Str := (Str.empty ++ (toString i : Str)) ++ b
def fmtEOk (b : Str) (i : Int) : Bool := decide (i.natAbs.log2 < 1920) && decide ((Str.empty ++ (toString i : Str)).length ≤ sizeLine) && decide ((fmtE b i).length ≤ sizeLine)
def rFmtE (b : Str) : V → Hp → VK → Prop := fun x H Q => ∃ i, x = .int i ∧ fmtEOk b i = true ∧ Q (.str (fmtE b i)) H
def fmtT (a b : Str) (i j : Int) : Str := (((Str.empty ++ a) ++ (toString i : Str)) ++ b) ++ (toString j : Str)
def fmtAOk (a b : Str) (i : Int) : Bool := decide (i.natAbs.log2 < 1920) && decide (((Str.empty ++ a) ++ (toString i : Str)).length ≤ sizeLine) && decide ((((Str.empty ++ a) ++ (toString i : Str)) ++ b).length ≤ sizeLine)
def fmtBOk (a b : Str) (i j : Int) : Bool := decide (j.natAbs.log2 < 1920) && decide ((fmtT a b i j).length ≤ sizeLine)
def tFmtT (a b : Str) (t1 t2 : TE) : TE := fun σ H Q => t1 σ H fun x H1 => ∃ i, x = .int i ∧ fmtAOk a b i = true ∧ t2 σ H1 fun y H2 => ∃ j, y = .int j ∧ fmtBOk a b i j = true ∧ Q (.str (fmtT a b i j)) H2
section
variable {X : Cx} {e f : Expr} {te tf : TE} {a b : Str} {j1 j2 : Nat} {p1 p2 p3 p4 pos : Pos}
theorem pe_fmtE (he : PE X e te) : PE X (.JoinedStr [.FormattedValue e (-1) none p2, .Constant (.str b) j2 p3] pos) (tUn (rFmtE b) te) := by
  intro pins s σ H Q I h
  refine JoinedStr_many (joinParts_cons (FormattedValue_plain ?_))
  refine wpAny_mono (he pins _ σ H _ I h) (fun u s2 z => ?_) fun _ _ z => z
  obtain ⟨v, H1, I1, r, i, rfl, ok, q⟩ := z
  unfold fmtEOk at ok
  rw [Bool.and_eq_true, Bool.and_eq_true, decide_eq_true_eq, decide_eq_true_eq, decide_eq_true_eq] at ok
  obtain ⟨⟨o1, o2⟩, o3⟩ := ok
  obtain ⟨t, rfl⟩ : ∃ t, u = .int i t := r
  refine formatField_int_small o1 ⟨o2, joinParts_cons (Calls.Constant_str ⟨o3, joinParts_nil ?_ o3⟩)⟩
  exact ⟨.str (fmtE b i), H1, ((I1.tok _).tok _).tok _, ⟨_, rfl⟩, q⟩
theorem pe_fmtT (he : PE X e te) (hf : PE X f tf) (ha : (Str.empty ++ a).length ≤ sizeLine) : PE X (.JoinedStr [.Constant (.str a) j1 p1, .FormattedValue e (-1) none p2, .Constant (.str b) j2 p3, .FormattedValue f (-1) none p4] pos) (tFmtT a b te tf) := by
  intro pins s σ H Q I h
  refine JoinedStr_many (joinParts_cons (Calls.Constant_str ⟨ha, joinParts_cons (FormattedValue_plain ?_)⟩))
  refine wpAny_mono (he pins _ σ H _ (I.tok _) h) (fun u s2 z => ?_) fun _ _ z => z
  obtain ⟨v, H1, I1, r, i, rfl, ok, q⟩ := z
  obtain ⟨t, rfl⟩ : ∃ t, u = .int i t := r
  unfold fmtAOk at ok
  rw [Bool.and_eq_true, Bool.and_eq_true, decide_eq_true_eq, decide_eq_true_eq, decide_eq_true_eq] at ok
  obtain ⟨⟨o1, o2⟩, o3⟩ := ok
  refine formatField_int_small o1 ⟨o2, joinParts_cons (Calls.Constant_str ⟨o3, joinParts_cons (FormattedValue_plain ?_)⟩)⟩
  refine wpAny_mono (hf pins _ σ H1 _ ((I1.tok _).tok _) q) (fun u s2 z => ?_) fun _ _ z => z
  obtain ⟨v, H2, I2, r, j, rfl, ok, q2⟩ := z
  obtain ⟨t', rfl⟩ : ∃ t', u = .int j t' := r
  unfold fmtBOk at ok
  rw [Bool.and_eq_true, decide_eq_true_eq, decide_eq_true_eq] at ok
  refine formatField_int_small ok.1 ⟨ok.2, joinParts_nil ?_ ok.2⟩
  exact ⟨.str (fmtT a b i j), H2, (I2.tok _).tok _, ⟨_, rfl⟩, q2⟩
end
end L2
namespace DL
open PySem PySem.Spec L2
def gFmtE (b : Str) : Bxs → DV → Option DV := fun S x => match rd S x with
  | some (.int i) => if fmtEOk b i = true then some (.dat (.str (fmtE b i))) else none
  | _ => none
theorem op_fmtE {K : PySem.W.Frag} {b : Str} : Op1 K (rFmtE b) (gFmtE b) := by
  intro ρ S H0 H v x dv Q st fr r1 h k
  unfold gFmtE at h
  split at h
  · rename_i i e1
    split at h
    · rename_i hc
      cases h
      exact ⟨i, rd_int r1 e1, hc, same_end st (.str _) k⟩
    · cases h
  · cases h
def fFmtT (a b : Str) (fa fb : FE) : FE := fun ε S => match fa ε S with
  | some (.dat (.int i), S1) => if fmtAOk a b i = true then (match fb ε S1 with
    | some (.dat (.int j), S2) => if fmtBOk a b i j = true then some (.dat (.str (fmtT a b i j)), S2) else none
    | _ => none) else none
  | _ => none
section
variable {X : Cx} {e f : Expr} {fa fb : FE} {a b : Str} {j1 j2 : Nat} {p1 p2 p3 p4 pos : Pos}
theorem e_fmtE (he : DE X e fa) : DE X (.JoinedStr [.FormattedValue e (-1) none p2, .Constant (.str b) j2 p3] pos) (fOp1 (gFmtE b) fa) := op1_tD op_fmtE (pe_fmtE he.pe)
theorem e_fmtT (he : DE X e fa) (hf : DE X f fb) (ha : (Str.empty ++ a).length ≤ sizeLine := by decide) : DE X (.JoinedStr [.Constant (.str a) j1 p1, .FormattedValue e (-1) none p2, .Constant (.str b) j2 p3, .FormattedValue f (-1) none p4] pos) (fFmtT a b fa fb) := ⟨PE.imp (pe_fmtT he.pe hf.pe ha) fun σ H Q ⟨ρ, ε, S, dv, S', M, h, k⟩ => by
  unfold fFmtT at h
  split at h
  · rename_i i S1 h1
    split at h
    · rename_i hc
      split at h
      · rename_i j S2 h2
        split at h
        · rename_i hd
          cases h
          refine ⟨ρ, ε, S, _, S1, M, h1, fun v H1 ⟨st1, r1, _⟩ x1 => ?_⟩
          refine ⟨i, rd_int (S := S1) r1 rfl, hc, ρ, ε, S1, _, S', M.next x1 st1, h2, fun u H2 ⟨st2, r2, _⟩ x2 => ?_⟩
          exact ⟨j, rd_int (S := S') r2 rfl, hd, k _ _ (.dat st2 (.str _)) (x1.trans x2)⟩
        · cases h
      · cases h
    · cases h
  · cases h⟩
end
end DL

set_option linter.all false
set_option maxRecDepth 100000
/-! ### texts: slices; a, *b = xs; a tuple of texts that the module keeps -/
namespace L2
open PySem PySem.Spec PyProof.Rows
variable {X : Cx}
/-- (a, *b) = a list -/
def gStar (K : PySem.W.Frag) (t : TGs) : TG := fun v σ H Q => ∃ a x xs, v = .ref a ∧ SqL K H a (x :: xs) ∧ xs.length + 1 ≤ 16384 ∧ ∀ p, H p = none → t [x, .ref p] σ (upd H p (.lst xs)) Q
theorem pgs_star {e : Expr} {es : List Expr} {p : Pos} {t : TG} {u : TGs} (h1 : PG X e t) (h2 : PGs X es u)
    (hs : (assignEach (.Starred e p :: es) X.env).map (·.2) = assign e X.env :: (assignEach es X.env).map (·.2) := by rfl) : PGs X (.Starred e p :: es) (gCons t u) := by
  intro pins s σ H vs us Q I r h
  obtain ⟨v, vs', e1, h⟩ := h
  subst e1
  cases r with
  | cons r rr =>
    rw [hs]
    refine assignInOrder_cons (thn (h1 pins s σ H _ _ _ I r h) fun _ s1 ⟨σ1, H1, I1, q1⟩ => ?_)
    exact h2 pins s1 σ1 H1 _ _ Q I1 rr q1
theorem pg_star {es : List Expr} {k : Nat} {pos : Pos} {t : TGs} (hc : X.calm = true) (h : PGs X es t)
    (hn : (assignEach es X.env).length = 2 := by rfl) (hst : (assignEach es X.env).findIdx? (·.1) = some 1 := by rfl) : PG X (.Tuple es k pos) (gStar X.K t) := by
  intro pins s σ H v u Q I r hw
  obtain ⟨a, x, xs, e1, hq, hl, hw⟩ := hw
  subst e1
  cases r
  obtain ⟨its, rv, hp, hz⟩ := I.list hq
  obtain ⟨y, ys, rfl⟩ : ∃ y ys, its = y :: ys := by cases rv with | cons _ _ => exact ⟨_, _, rfl⟩
  have hli : s.heap.IsList a (y :: ys).toArray := by
    obtain ⟨o, n, e, c1, c2, c3⟩ := hp
    exact ⟨o, e, c1, ⟨n, c3⟩⟩
  have hlt : a ≠ s.heap.objs.size := by obtain ⟨o, ho, _⟩ := hli; exact Nat.ne_of_lt (Heap.lt_size ho)
  rw [assign_Tuple]
  refine wpAny_bind (wpAny_standAt ?_)
  unfold unpack
  rw [hn, hst]
  refine wpAny_bind (wpAny_holding ?_)
  unfold unpackItems
  refine wpAny_bind ?_
  unfold notIterableAtAll
  refine wpAny_bind (wpAny_specialOf hli.typeIs slot_list_iter.lookup ?_)
  refine wpAny_pure ?_
  simp only [Bool.false_eq_true, if_false]
  refine wpAny_bind (wpAny_holding (wpAny_pyIter_list hli ?_))
  refine wpAny_bind (wpAny_holding (PySem.W.kun_draw hlt 1 0 _ _ ⟨_, Heap.get?_push_size _ rfl, rfl, rfl⟩ (hli.push _) (by simp) fun h₁ hit₁ hs₁ => ?_))
  have hl₁ : h₁.IsList a (y :: ys).toArray := (hli.push _).extBut hs₁.extBut hlt
  rw [Nat.zero_add] at hit₁
  have hit₁' := hit₁
  obtain ⟨oi, hoi, _⟩ := hit₁'
  have hl₁' := hl₁
  obtain ⟨ol, hol, _⟩ := hl₁'
  have hsz : ((y :: ys).toArray).size = xs.length + 1 := by
    have := rv.length
    simpa using this.symm
  refine wpAny_bind (wpAny_holding (PySem.W.kun_collect (s := { s with heap := h₁ }) (T := "list_iterator") (.inr (.inr (.inl rfl))) (Walks.list (A := X.A.in1) (I.ok.hd hc) s.heap.objs.size a hlt (y :: ys).toArray) (fun j u st => st.1.typeIs) (k := 1) (by rw [hsz]; omega) ⟨hit₁, hl₁⟩ (Heap.lt_size hoi) (Heap.lt_size hol) (fun h₂ tk hk => ?_) (by rw [hsz]; exact Nat.le_trans hl (by decide))))
  have he : ∀ b u, s.heap.get? b = some u → h₂.get? b = some u := fun b u e => hk b u (Nat.ne_of_lt (Heap.lt_size e)) (hs₁.extBut b u (Nat.ne_of_lt (Heap.lt_size e)) (Heap.get?_push_of_some _ e))
  have I2 : Inv X pins σ H { s with heap := h₂, toks := tk } := I.kept (t' := tk) he
  show wpAny _ _ (newList (ys.take (ys.length - 0)) >>= fun d => pure ([y] ++ [d] ++ ys.drop (ys.length - 0))) _ _ _
  refine wpAny_bind (PySem.wpAny_newList ?_)
  have I3 : Inv X pins σ (upd H h₂.objs.size (.lst xs)) { s with heap := h₂.push { cls := .type "list", data := .seq (ys.take (ys.length - 0)).toArray }, toks := tk } := by
    refine I2.laid (t' := tk) (fun b u q => Heap.get?_push_of_some _ q) (Nat.le_refl _) ?_
    rw [Nat.sub_zero, List.take_length]
    exact ⟨by have : (16384 : Nat) ≤ sizeLine := by decide
              omega, ys, 0, by cases rv with | cons _ b => exact b, Heap.get?_push_size _ rfl⟩
  refine wpAny_pure ?_
  rw [Nat.sub_zero, List.drop_length]
  exact h pins _ σ _ [x, V.ref h₂.objs.size] _ Q I3 (.cons (by cases rv with | cons a _ => exact a) (.cons rfl .nil)) (hw _ (I2.hok.fresh (Nat.le_refl _)))
end L2

set_option linter.all false
set_option maxRecDepth 100000
/-! ### on data: slices of texts; a, *b = xs; a tuple of texts that the module keeps; [] of texts -/
namespace DL
open PySem PySem.Spec L2
variable {K : PySem.W.Frag}
def fSlS (fa : FE) (fl fu : FO) : FE := fun ε S => match fa ε S with
  | some (x, S1) => (match fl ε S1 with
    | some (lo, S2) => (match fu ε S2 with
      | some (hi, S3) => (match rd S3 x with
        | some (.str z) => if z.length ≤ sizeLine then some (.dat (.str (cutS z lo hi)), S3) else none
        | _ => none)
      | none => none)
    | none => none)
  | none => none
/-- a, *b = a list -/
def sStar (i j : Nat) (f : FE) : FS := fun ε S => match f ε S with
  | some (x, S1) => (match rd S1 x with
    | some (.list (d :: ds)) => if ds.length + 1 ≤ 16384 then some (.nx ((ε.set i (some (.dat d))).set j (some (.dat (.list ds)))) S1) else none
    | _ => none)
  | none => none
/-- a tuple of texts that the module keeps -/
def StrC (K : PySem.W.Frag) (mg : Str → Option Value) (x : Str) (ns : List Str) : Prop := ∃ (a : Addr) (o : Obj) (its : Array Value) (n : Nat), mg x = some (.ref a) ∧ K.lookup a = some o ∧ o.cls = .type "tuple" ∧ o.dict = none ∧ o.data = .seq its n ∧ its.size ≤ sizeLine ∧ Vals (ns.map V.str) its.toList
section
variable {X : Cx} {a e : Expr} {fa f : FE} {pos p2 : Pos} {lo hi : Option Expr} {fl fu : FO}
theorem de_sliceS (ha : DE X a fa) (hl : DO X lo fl) (hu : DO X hi fu) : DE X (.Subscript a (.Slice lo hi none p2) pos) (fSlS fa fl fu) := ⟨PE.imp (pe_slice sl_str ha.pe hl.po hu.po) fun σ H Q ⟨ρ, ε, S, dv, S', M, h, k⟩ => by
  unfold fSlS at h
  split at h
  · rename_i x S1 h1
    split at h
    · rename_i l S2 h2
      split at h
      · rename_i u S3 h3
        refine ⟨ρ, ε, S, x, S1, M, h1, fun v H1 ⟨st1, r1, _⟩ x1 => ?_⟩
        have M1 := M.next x1 st1
        refine ⟨ρ, ε, S1, l, S2, M1, h2, fun H2 st2 x2 => ?_⟩
        have M2 := M1.next x2 st2
        refine ⟨ρ, ε, S2, u, S3, M2, h3, fun H3 st3 x3 => ?_⟩
        have r3 : RV X.K ρ H H3 v x := (r1.ext x2 st1.bx).ext x3 st2.bx
        have xx := (x1.trans x2).trans x3
        split at h
        · rename_i z h4
          split at h
          · rename_i hz
            cases h
            exact ⟨z, rd_str r3 h4, hz, k _ _ (.dat st3 (.str _)) xx⟩
          · cases h
        · cases h
      · cases h
    · cases h
  · cases h⟩
theorem e_constS {x : Str} {ns : List Str} {ds : List D} (C : StrC X.K X.mg x ns) (hg : Gl X x) (hds : ns.map PyData.str = ds := by rfl) (hd : (x == ("__debug__" : Str)) = false := by decide) : DE X (.Name x pos) (fC (.tuple ds)) := by
  subst hds
  obtain ⟨a, o, its, n, h, hk, hc, hdn, hda, hz, hv⟩ := C
  exact de_glob (v := .ref a) hg h rfl (fun ρ H => .tup (.inr ⟨o, its, n, hk, hc, hdn, hda, hz, hv⟩) (RpA.ofStrs ns)) hd
theorem ds_star {i j : Nat} {x y : Str} {px py pst pt : Pos} {kt : Nat} (hc : X.calm = true) (hN : X.N.Nodup) (hi : X.N[i]? = some x) (hx : Loc X.env.scope x) (hj : X.N[j]? = some y) (hy : Loc X.env.scope y) (he : DE X e f)
    (hfx : X.fn x = true ∨ X.env.scope.names.lookup x = some .local := by first | exact .inl rfl | exact .inr rfl | assumption) (hfy : X.fn y = true ∨ X.env.scope.names.lookup y = some .local := by first | exact .inl rfl | exact .inr rfl | assumption)
    (hs : swapsWithSole [.Tuple [.Name x px, .Starred (.Name y py) pst] kt pt] e pos.line X.env = pure false := by rfl) (hw : swappedStores [.Tuple [.Name x px, .Starred (.Name y py) pst] kt pt] e X.env = pure none := by rfl) :
    DS X (.Assign [.Tuple [.Name x px, .Starred (.Name y py) pst] kt pt] e pos) (sStar i j f) := ⟨fun pins s σ H E I ⟨ρ, ε, S, o, M, h, k⟩ =>
  ps_asg he.pe (pg_star hc (pgs_cons (pg_name hN hi hx hfx) (pgs_star (pg_name hN hj hy hfy) pgs_nil))) hs hw rfl pins s σ H E I (by
    unfold sStar at h
    split at h
    · rename_i x1 S1 h1
      split at h
      · rename_i d ds e1
        split at h
        · rename_i hz
          cases h
          refine ⟨ρ, ε, S, x1, S1, M, h1, fun v H1 ⟨st1, r1, _⟩ xx => ?_⟩
          obtain ⟨p, xs, rfl, q, rr⟩ := rd_lst st1 r1 e1
          cases rr with
          | @cons v0 vs _ _ ra rb =>
            refine ⟨p, v0, vs, rfl, q, by rw [rb.length]; exact hz, fun p' hp => ⟨v0, _, rfl, ⟨_, _, rfl, ⟨rfl, ?_⟩⟩⟩⟩
            have x2 : Ext X.K ρ H1 ρ (upd H1 p' (.lst vs)) := Ext.upd hp
            have M2 := (M.next xx st1).next x2 (st1.upd hp)
            refine k _ _ ρ (xx.trans x2) ((M2.set (i := i) (v := v0) (.dat (Rp.keep x2 st1.bx _ _ ra))).set (i := j) (v := .ref p') (.dat (.lst (.inl ⟨st1.notin hp, .inl upd_same⟩) (RpA.keep x2 st1.bx _ _ rb))))
        · cases h
      · cases h
    · cases h)⟩
end
end DL

set_option linter.all false
set_option maxRecDepth 100000
/-! webs and rows as texts: the defs, as functions of data -/
namespace DL
open PySem PySem.Spec L2
/-- web_text: ['web', 'places', 'ties', 'low', 'high'] kept: [] -/
def g_web_text : FS := (sSeq (sAsg (fVar 0) (hTup 2 (hCons (hName 1) (hCons (hName 2) hNil))))
  (sRet (fOp2 gAddS (fOp1 (gFmtE ":") (fVar 1)) (fJoin (fC (.str "")) (fComp [3, 4] (iD (fVar 2)) (hTup 2 (hCons (hName 3) (hCons (hName 4) hNil))) fYes (fFmtT " " "-" (fVar 3) (fVar 4)))))))
def sem_web_text : Sem0 := semOf 5 g_web_text
/-- row_text: ['row', 'place'] kept: [] -/
def g_row_text : FS := (sRet (fIf (fTru (fVar 0)) (fJoin (fC (.str " ")) (fComp [1] (iD (fVar 0)) (hName 1) fYes (fOpN (g1 gStrI) (fCons (fVar 1) fNil)))) (fC (.str "none"))))
def sem_row_text : Sem0 := semOf 2 g_row_text
/-- number_read: ['word'] kept: [] -/
def g_number_read : FS := (sSeq (sIf (fCmpT (bIn true) (fVar 0) (fC (.tuple [(.str "0"), (.str "1"), (.str "2"), (.str "3"), (.str "4"), (.str "5"), (.str "6"), (.str "7"), (.str "8")]))) sNever sNil)
  (sRet (fOpN (g1 gIntS) (fCons (fVar 0) fNil))))
def sem_number_read : Sem0 := semOf 1 g_number_read
/-- place_read: ['word', 'number'] kept: [] -/
def g_place_read : FS := (sSeq (sSet 1 (fCall 1 sem_number_read (fCons (fVar 0) fNil)))
  (sSeq (sIf (fCmpT bGe (fVar 1) (fC (.int 8))) sNever sNil)
  (sRet (fVar 1))))
def sem_place_read : Sem0 := semOf 2 g_place_read
/-- tie_read: ['word', 'end'] kept: [] -/
def g_tie_read : FS := (sRet (fOpN (g1 gTup1) (fCons (fComp [1] (iD (fSplit (fVar 0) (fC (.str "-")))) (hName 1) fYes (fCall 1 sem_number_read (fCons (fVar 1) fNil))) fNil)))
def sem_tie_read : Sem0 := semOf 2 g_tie_read
/-- refuse_other: ['thing'] kept: [] -/
def g_refuse_other : FS := (sIf (fNotT (fTru (fIs isStrD (fVar 0)))) sNever sNil)
def sem_refuse_other : Sem0 := semOf 1 g_refuse_other
/-- web_read: ['text', 'head', 'words', 'web', 'word'] kept: [] -/
def g_web_read : FS := (sSeq (sExpr (fCall 1 sem_refuse_other (fCons (fVar 0) fNil)))
  (sSeq (sStar 1 2 (fSplit (fVar 0) (fC (.str " "))))
  (sSeq (sIf (fNotT (fTru (fEndsW (fVar 1) (fC (.str ":"))))) sNever sNil)
  (sSeq (sSet 3 (fTup (fCons (fCall 1 sem_number_read (fCons (fSlS (fVar 1) fNoP (fPart (fOp1 gNeg (fC (.int 1))))) fNil)) (fCons (fOpN (g1 gTup1) (fCons (fComp [4] (iD (fVar 2)) (hName 4) fYes (fCall 1 sem_tie_read (fCons (fVar 4) fNil))) fNil)) fNil))))
  (sSeq (sIf (fNotT (fTru (fCall 1 sem_is_web (fCons (fVar 3) fNil)))) sNever sNil)
  (sRet (fVar 3)))))))
def sem_web_read : Sem0 := semOf 5 g_web_read
/-- row_read: ['text', 'row', 'word'] kept: [] -/
def g_row_read : FS := (sSeq (sExpr (fCall 1 sem_refuse_other (fCons (fVar 0) fNil)))
  (sSeq (sIf (fCmpT bEq (fVar 0) (fC (.str "none"))) (sRet (fTup fNil)) sNil)
  (sSeq (sSet 1 (fOpN (g1 gTup1) (fCons (fComp [2] (iD (fSplit (fVar 0) (fC (.str " ")))) (hName 2) fYes (fCall 1 sem_place_read (fCons (fVar 2) fNil))) fNil)))
  (sSeq (sIf (fCmpT bGt (fOpN (g1 gLen) (fCons (fVar 1) fNil)) (fC (.int 40))) sNever sNil)
  (sRet (fVar 1))))))
def sem_row_read : Sem0 := semOf 3 g_row_read
/-- _law_web_text: ['_law_web_here', '_law_a', '_law_b'] kept: [] -/
def g__law_web_text : FS := (sRet (fJoin (fC (.str " ")) (fOp2 gCat (fLst (fCons (fOp2 gAddS (fOpN (g1 gStrI) (fCons (fOp2 gIx (fVar 0) (fC (.int 0))) fNil)) (fC (.str ":"))) fNil)) (fComp [1, 2] (iD (fOp2 gIx (fVar 0) (fC (.int 1)))) (hTup 2 (hCons (hName 1) (hCons (hName 2) hNil))) fYes (fOp2 gAddS (fOp2 gAddS (fOpN (g1 gStrI) (fCons (fVar 1) fNil)) (fC (.str "-"))) (fOpN (g1 gStrI) (fCons (fVar 2) fNil)))))))
def sem__law_web_text : Sem0 := semOf 3 g__law_web_text
/-- _law_row_text: ['_law_row', '_law_place'] kept: [] -/
def g__law_row_text : FS := (sRet (fIf (fCmpT bEq (fVar 0) (fTup fNil)) (fC (.str "none")) (fJoin (fC (.str " ")) (fComp [1] (iD (fVar 0)) (hName 1) fYes (fOpN (g1 gStrI) (fCons (fVar 1) fNil))))))
def sem__law_row_text : Sem0 := semOf 2 g__law_row_text
end DL

set_option linter.all false
set_option maxRecDepth 100000
/-! webs and rows as texts: what is written, what is read -/
namespace DL
open PySem PySem.Spec L2 TL
namespace TT
abbrev fg (i : Int) : Str := Str.ofString (toString i)
theorem str_ext {x y : Str} (h : tl x = tl y) : x = y := by
  have := map_tl_inj (l := [x]) (m := [y]) (by simp [h])
  simpa using this
theorem len_tl (x : Str) : x.length = (tl x).length := (Array.length_toList).symm
theorem fig_cases {i : Int} (h0 : 0 ≤ i) (h8 : i ≤ 8) : i = 0 ∨ i = 1 ∨ i = 2 ∨ i = 3 ∨ i = 4 ∨ i = 5 ∨ i = 6 ∨ i = 7 ∨ i = 8 := by omega
theorem tl_fg {i : Int} (h0 : 0 ≤ i) (h8 : i ≤ 8) : tl (fg i) = [48 + i.toNat] := by
  rcases fig_cases h0 h8 with h | h | h | h | h | h | h | h | h <;> subst h <;> decide +kernel
theorem log_fig {i : Int} (h0 : 0 ≤ i) (h8 : i ≤ 8) : i.natAbs.log2 < 1920 := by
  rcases fig_cases h0 h8 with h | h | h | h | h | h | h | h | h <;> subst h <;> decide +kernel
theorem strI_e {i : Int} {S : Bxs} (h0 : 0 ≤ i) (h8 : i ≤ 8) : g1 gStrI S [.dat (.int i)] = some (.dat (.str (fg i))) := by
  show gStrI S (.dat (.int i)) = _
  unfold gStrI
  simp only [rd_dat]
  rw [if_pos (log_fig h0 h8)]
theorem addS_e {a b : Str} {S : Bxs} (h : a.length + b.length ≤ sizeLine) : gAddS S (.dat (.str a)) (.dat (.str b)) = some (.dat (.str (a ++ b))) := by
  unfold gAddS
  simp only [rd_dat]
  rw [if_pos h]
theorem line_le {n : Nat} (h : n ≤ 100000) : n ≤ sizeLine := Nat.le_trans h (by decide)
theorem join_e {fo fe : FE} {ε : DEnv} {S S1 S2 : Bxs} {a : Str} {x : DV} {ys : List Str} (ho : fo ε S = some (.dat (.str a), S1)) (he : fe ε S1 = some (x, S2)) (hx : rd S2 x = some (.list (ys.map .str))) (hl : (ys.map (·.length)).sum + ys.length * a.length ≤ 100000) :
    fJoin fo fe ε S = some (.dat (.str (Txt.join a ys)), S2) := by
  unfold fJoin
  rw [ho]; dsimp only
  rw [he]; dsimp only
  rw [hx]; dsimp only
  rw [strsD_map]; dsimp only
  rw [if_pos (Nat.le_trans hl (by decide))]
theorem sum_le {ys : List Str} {k : Nat} (h : ∀ y ∈ ys, y.length ≤ k) : (ys.map (·.length)).sum ≤ ys.length * k := by
  induction ys with
  | nil => simp
  | cons y ys ih =>
    rw [List.map_cons, List.sum_cons, List.length_cons, Nat.succ_mul]
    have := ih fun z hz => h z (List.mem_cons_of_mem _ hz)
    have := h y (List.mem_cons_self)
    omega
theorem joinL_nil : ∀ l : List (List Nat), joinL [] l = l.flatten
  | [] => rfl
  | [p] => by simp [joinL]
  | p :: q :: r => by simp [joinL, joinL_nil (q :: r)]
theorem joinL_cons (S : List Nat) : ∀ (p : List Nat) (l : List (List Nat)), joinL S (p :: l) = p ++ (l.map fun q => S ++ q).flatten
  | p, [] => by simp [joinL]
  | p, q :: r => by simp [joinL, joinL_cons S q r]
theorem tl_txt (y : Str) (parts : List Str) : tl (Txt.join y parts) = joinL (tl y) (parts.map tl) := by rw [join_eq, tl_join]
def tieS (t : List Int) : Str := (fg (lowT t) ++ ("-" : Str)) ++ fg (highT t)
def webS (m : Int) (ties : List (List Int)) : Str := Txt.join (" " : Str) ((fg m ++ (":" : Str)) :: ties.map tieS)
def rowS (row : List Int) : Str := if row = [] then ("none" : Str) else Txt.join (" " : Str) (row.map fg)
theorem tl_dash : tl ("-" : Str) = [45] := by decide +kernel
theorem tl_colon : tl (":" : Str) = [58] := by decide +kernel
theorem tl_blank : tl (" " : Str) = [32] := by decide +kernel
theorem tl_none : tl ("none" : Str) = [110, 111, 110, 101] := by decide +kernel
theorem tl_empty : tl ("" : Str) = [] := by decide +kernel
theorem tl_emp : tl Str.empty = [] := rfl
theorem tie_fig {m : Int} {t : List Int} (h : TieIn m t) (hm : m ≤ 8) : 0 ≤ lowT t ∧ lowT t ≤ 8 ∧ 0 ≤ highT t ∧ highT t ≤ 8 := by
  obtain ⟨a, b, rfl, h0, h1, h2⟩ := h
  show 0 ≤ a ∧ a ≤ 8 ∧ 0 ≤ b ∧ b ≤ 8
  omega
theorem tl_tie {m : Int} {t : List Int} (h : TieIn m t) (hm : m ≤ 8) : tl (tieS t) = [48 + (lowT t).toNat, 45, 48 + (highT t).toNat] := by
  obtain ⟨h1, h2, h3, h4⟩ := tie_fig h hm
  unfold tieS
  rw [tl_append, tl_append, tl_fg h1 h2, tl_fg h3 h4, tl_dash]
  rfl
theorem webS_len {m : Int} {ties : List (List Int)} (w : Web m ties) (h1 : 1 ≤ m) (hm : m ≤ 8) : (((fg m ++ (":" : Str)) :: ties.map tieS).map (·.length)).sum + ((fg m ++ (":" : Str)) :: ties.map tieS).length * (" " : Str).length ≤ 200 := by
  have hl := w.len hm
  have e := sum_le (ys := (fg m ++ (":" : Str)) :: ties.map tieS) (k := 3) (by
    intro y hy
    rcases List.mem_cons.mp hy with rfl | hy
    · rw [len_tl, tl_append, tl_fg (by omega) hm, tl_colon]; show 2 ≤ 3; decide
    · obtain ⟨t, ht, rfl⟩ := List.mem_map.mp hy
      rw [len_tl, tl_tie (w.mem t ht) hm]; exact Nat.le_refl _)
  have e2 : (" " : Str).length = 1 := by decide +kernel
  rw [e2]
  rw [List.length_cons, List.length_map] at e ⊢
  omega
theorem tie_word {m : Int} {t : List Int} (h : TieIn m t) (hm : m ≤ 8) {k l : Nat} {fa fb : FE} {ε : DEnv} {S : Bxs} (hk : fa ε S = some (.dat (.int (lowT t)), S)) (hl : fb ε S = some (.dat (.int (highT t)), S)) :
    fOp2 gAddS (fOp2 gAddS (fOpN (g1 gStrI) (fCons fa fNil)) (fC (.str "-"))) (fOpN (g1 gStrI) (fCons fb fNil)) ε S = some (.dat (.str (tieS t)), S) := by
  obtain ⟨h1, h2, h3, h4⟩ := tie_fig h hm
  have l1 : (fg (lowT t)).length = 1 := by rw [len_tl, tl_fg h1 h2]; rfl
  have l2 : (fg (highT t)).length = 1 := by rw [len_tl, tl_fg h3 h4]; rfl
  have l3 : ("-" : Str).length = 1 := by decide +kernel
  have l4 : (fg (lowT t) ++ ("-" : Str)).length = 2 := by rw [len_tl, tl_append, List.length_append, ← len_tl, ← len_tl, l1, l3]
  exact op2 (op2 (opN (cns hk nl) (strI_e h1 h2)) (fC_e _ _ _) (addS_e (by rw [l1, l3]; exact line_le (by decide)))) (opN (cns hl nl) (strI_e h3 h4)) (addS_e (by rw [l4, l2]; exact line_le (by decide)))
theorem law_web_text_eq {m : Int} {ties : List (List Int)} (w : Web m ties) (h1 : 1 ≤ m) (hm : m ≤ 8) (S : Bxs) : sem__law_web_text [.dat (webD m ties)] S = some (.dat (.str (webS m ties)), S) := by
  unfold sem__law_web_text
  rw [semOf_eq]
  show finOf S (g__law_web_text [some (.dat (webD m ties)), none, none] S) = _
  have k := fComp_map (vs := [1, 2]) (hg := hTup 2 (hCons (hName 1) (hCons (hName 2) hNil))) (ft := fYes) (fe := fOp2 gAddS (fOp2 gAddS (fOpN (g1 gStrI) (fCons (fVar 1) fNil)) (fC (.str "-"))) (fOpN (g1 gStrI) (fCons (fVar 2) fNil))) (ε := [some (.dat (webD m ties)), none, none]) (S := S) dT tupD tupD_dT (l := ties) (fun _ => true) (fun t => .str (tieS t)) (it (web_ties (k := 0) (n := m) (ties := ties) rfl) rfl rfl) (by have := w.len hm; omega) (by
    intro t ht
    have hT := w.mem t ht
    obtain ⟨a, b, rfl, _⟩ := id hT
    exact ⟨[some (.dat (webD m ties)), some (.dat (.int a)), some (.dat (.int b))], rfl, fun _ => rfl, fun _ acc => ⟨_, tie_word (k := 1) (l := 2) hT hm (vr (i := 1) rfl) (vr (i := 2) rfl), rfl⟩⟩)
  rw [List.filter_eq_self.mpr (fun _ _ => rfl)] at k
  have l1 : (fg m).length = 1 := by rw [len_tl, tl_fg (by omega) hm]; rfl
  have l3 : (":" : Str).length = 1 := by decide +kernel
  have a1 : fOp2 gAddS (fOpN (g1 gStrI) (fCons (fOp2 gIx (fVar 0) (fC (.int 0))) fNil)) (fC (.str ":")) [some (.dat (webD m ties)), none, none] S = some (.dat (.str (fg m ++ (":" : Str))), S) :=
    op2 (opN (cns (web_places rfl) nl) (strI_e (by omega) hm)) (fC_e _ _ _) (addS_e (by rw [l1, l3]; exact line_le (by decide)))
  have hl := w.len hm
  refine fin_ret (join_e (ys := (fg m ++ (":" : Str)) :: ties.map tieS) (fC_e _ _ _) (op2 (ls (ds := [.str (fg m ++ (":" : Str))]) (cns a1 nl) rfl (by simp)) k (catL_e (ds := [.str (fg m ++ (":" : Str))]) rfl rfl (by simp; omega))) ?_ (Nat.le_trans (webS_len w h1 hm) (by decide))) rfl
  show some (PyData.list _) = _
  rw [List.map_cons, List.map_map]
  rfl
theorem web_text_eq {m : Int} {ties : List (List Int)} (w : Web m ties) (h1 : 1 ≤ m) (hm : m ≤ 8) (S : Bxs) : sem_web_text [.dat (webD m ties)] S = some (.dat (.str (webS m ties)), S) := by
  unfold sem_web_text
  rw [semOf_eq]
  show finOf S (g_web_text [some (.dat (webD m ties)), none, none, none, none] S) = _
  unfold g_web_text
  have s1 : sAsg (fVar 0) (hTup 2 (hCons (hName 1) (hCons (hName 2) hNil))) [some (.dat (webD m ties)), none, none, none, none] S = some (.nx [some (.dat (webD m ties)), some (.dat (.int m)), some (.dat (.tuple (ties.map dT))), none, none] S) := rfl
  rw [sSeq_nx s1]
  have hl := w.len hm
  have tf : ∀ t ∈ ties, tl (fmtT " " "-" (lowT t) (highT t)) = 32 :: tl (tieS t) := by
    intro t ht
    obtain ⟨h1, h2, h3, h4⟩ := tie_fig (w.mem t ht) hm
    rw [tl_tie (w.mem t ht) hm]
    unfold fmtT
    rw [tl_append, tl_append, tl_append, tl_append, tl_emp, tl_blank, tl_dash]
    show [] ++ [32] ++ tl (fg (lowT t)) ++ [45] ++ tl (fg (highT t)) = _
    rw [tl_fg h1 h2, tl_fg h3 h4]
    rfl
  have k := fComp_map (vs := [3, 4]) (hg := hTup 2 (hCons (hName 3) (hCons (hName 4) hNil))) (ft := fYes) (fe := fFmtT " " "-" (fVar 3) (fVar 4)) (ε := [some (.dat (webD m ties)), some (.dat (.int m)), some (.dat (.tuple (ties.map dT))), none, none]) (S := S) dT tupD tupD_dT (l := ties) (fun _ => true) (fun t => .str (fmtT " " "-" (lowT t) (highT t))) (it (vr (i := 2) (dv := .dat (.tuple (ties.map dT))) rfl) rfl rfl) (by omega) (by
    intro t ht
    have hT := w.mem t ht
    obtain ⟨h1, h2, h3, h4⟩ := tie_fig hT hm
    have tt := tf t ht
    obtain ⟨a, b, rfl, _⟩ := id hT
    refine ⟨[some (.dat (webD m ties)), some (.dat (.int m)), some (.dat (.tuple (ties.map dT))), some (.dat (.int a)), some (.dat (.int b))], rfl, fun _ => rfl, fun _ acc => ⟨.dat (.str (fmtT " " "-" a b)), ?_, rfl⟩⟩
    change 0 ≤ a at h1
    change a ≤ 8 at h2
    change 0 ≤ b at h3
    change b ≤ 8 at h4
    have o1 : fmtAOk " " "-" a = true := by
      unfold fmtAOk
      rw [Bool.and_eq_true, Bool.and_eq_true]
      refine ⟨⟨decide_eq_true (log_fig h1 h2), decide_eq_true (line_le ?_)⟩, decide_eq_true (line_le ?_)⟩
      · rw [len_tl, tl_append, tl_append, tl_emp, tl_blank]
        show ([] ++ [32] ++ tl (fg a)).length ≤ _
        rw [tl_fg h1 h2]; show 2 ≤ 100000; decide
      · rw [len_tl, tl_append, tl_append, tl_append, tl_emp, tl_blank, tl_dash]
        show ([] ++ [32] ++ tl (fg a) ++ [45]).length ≤ _
        rw [tl_fg h1 h2]; show 3 ≤ 100000; decide
    have o2 : fmtBOk " " "-" a b = true := by
      unfold fmtBOk
      rw [Bool.and_eq_true]
      refine ⟨decide_eq_true (log_fig h3 h4), decide_eq_true (line_le ?_)⟩
      rw [len_tl]
      change tl (fmtT " " "-" a b) = _ at tt
      rw [tt, List.length_cons, tl_tie hT hm]; show 4 ≤ 100000; decide
    unfold fFmtT
    rw [vr (i := 3) (dv := .dat (.int a)) rfl]; dsimp only
    rw [if_pos o1, vr (i := 4) (dv := .dat (.int b)) rfl]; dsimp only
    rw [if_pos o2])
  rw [List.filter_eq_self.mpr (fun _ _ => rfl)] at k
  have e0 : (ties.map fun t => PyData.str (fmtT " " "-" (lowT t) (highT t))) = (ties.map fun t => fmtT " " "-" (lowT t) (highT t)).map .str := by rw [List.map_map]; rfl
  rw [e0] at k
  have sl := sum_le (ys := ties.map fun t => fmtT " " "-" (lowT t) (highT t)) (k := 4) (by
    intro y hy
    obtain ⟨t, ht, rfl⟩ := List.mem_map.mp hy
    rw [len_tl, tf t ht, List.length_cons, tl_tie (w.mem t ht) hm]; exact Nat.le_refl _)
  rw [List.length_map] at sl
  have e3 : ("" : Str).length = 0 := by decide +kernel
  have j := join_e (fo := fC (.str "")) (ε := [some (.dat (webD m ties)), some (.dat (.int m)), some (.dat (.tuple (ties.map dT))), none, none]) (S := S) (ys := ties.map fun t => fmtT " " "-" (lowT t) (highT t)) (fC_e _ _ _) k rfl (by rw [e3]; omega)
  have te : tl (fmtE ":" m) = tl (fg m ++ (":" : Str)) := by
    unfold fmtE
    rw [tl_append, tl_append, tl_append, tl_emp]; rfl
  have lE : (fmtE ":" m).length = 2 := by rw [len_tl, te, tl_append, tl_fg (by omega) hm, tl_colon]; rfl
  have o1 : fmtEOk ":" m = true := by
    unfold fmtEOk
    rw [Bool.and_eq_true, Bool.and_eq_true]
    refine ⟨⟨decide_eq_true (log_fig (by omega) hm), decide_eq_true (line_le ?_)⟩, decide_eq_true (line_le (by rw [lE]; decide))⟩
    rw [len_tl, tl_append, tl_emp]
    show ([] ++ tl (fg m)).length ≤ _
    rw [tl_fg (by omega) hm]; show 1 ≤ 100000; decide
  have f1 : fOp1 (gFmtE ":") (fVar 1) [some (.dat (webD m ties)), some (.dat (.int m)), some (.dat (.tuple (ties.map dT))), none, none] S = some (.dat (.str (fmtE ":" m)), S) := by
    unfold fOp1
    rw [vr (i := 1) (dv := .dat (.int m)) rfl]; dsimp only
    unfold gFmtE
    simp only [rd_dat]
    rw [if_pos o1]
  have tj : tl (Txt.join ("" : Str) (ties.map fun t => fmtT " " "-" (lowT t) (highT t))) = (ties.map fun t => 32 :: tl (tieS t)).flatten := by
    rw [tl_txt, tl_empty, joinL_nil, List.map_map]
    exact congrArg _ (List.map_congr_left tf)
  have eq : fmtE ":" m ++ Txt.join ("" : Str) (ties.map fun t => fmtT " " "-" (lowT t) (highT t)) = webS m ties := by
    refine str_ext ?_
    unfold webS
    rw [tl_append, te, tj, tl_txt, tl_blank, List.map_cons, joinL_cons, List.map_map, List.map_map]
    rfl
  have lj : (Txt.join ("" : Str) (ties.map fun t => fmtT " " "-" (lowT t) (highT t))).length ≤ 200 := by
    have : (Txt.join ("" : Str) (ties.map fun t => fmtT " " "-" (lowT t) (highT t))).length = ((ties.map fun t => fmtT " " "-" (lowT t) (highT t)).map (·.length)).sum := by
      rw [len_tl, tl_txt, tl_empty, joinL_nil, List.length_flatten, List.map_map, List.map_map, List.map_map]
      refine congrArg _ (List.map_congr_left fun t _ => ?_)
      exact (len_tl _).symm
    omega
  refine fin_ret (op2 f1 j ?_) rfl
  rw [addS_e (by rw [lE]; exact line_le (by omega)), eq]
end TT
end DL

set_option linter.all false
set_option maxRecDepth 100000
/-! webs and rows read from texts -/
namespace DL
open PySem PySem.Spec L2 TL
namespace TT
/-- the number of a word of one figure, 0 to 8 -/
def numR (x : Str) : Option Int := match tl x with
  | [c] => if 48 ≤ c ∧ c ≤ 56 then some ((c : Int) - 48) else none
  | _ => none
theorem numR_fg {i : Int} (h0 : 0 ≤ i) (h8 : i ≤ 8) : numR (fg i) = some i := by
  unfold numR
  rw [tl_fg h0 h8]
  dsimp only
  rw [if_pos (by omega)]
  congr 1; omega
theorem numR_some {x : Str} {n : Int} (h : numR x = some n) : 0 ≤ n ∧ n ≤ 8 ∧ x = fg n := by
  unfold numR at h
  split at h
  · rename_i c hc
    split at h
    · cases h
      refine ⟨by omega, by omega, str_ext ?_⟩
      rw [tl_fg (by omega) (by omega), hc]
      congr 1; omega
    · cases h
  · cases h
def figs : List Str := ["0", "1", "2", "3", "4", "5", "6", "7", "8"]
theorem figs_fg {i : Int} (h0 : 0 ≤ i) (h8 : i ≤ 8) : fg i ∈ figs := by
  rcases fig_cases h0 h8 with h | h | h | h | h | h | h | h | h <;> subst h <;> decide +kernel
/-- plain signs -/
def Asc (x : Str) : Prop := ∀ c ∈ tl x, c < 128
theorem Asc.ok {x : Str} (h : Asc x) : PyData.strOk x = true := by
  unfold PyData.strOk
  rw [Array.all_eq_true']
  intro c hc
  have := h c (Array.mem_toList_iff.mpr hc)
  exact decide_eq_true (by omega)
theorem shaped_str {x : Str} (h : Asc x) : SeqAt.shaped (.str x) = true := by simp [SeqAt.shaped, PyData.canLay0, PyData.depth, h.ok]
theorem asc_fg {i : Int} (h0 : 0 ≤ i) (h8 : i ≤ 8) : Asc (fg i) := by
  unfold Asc
  rw [tl_fg h0 h8]
  intro c hc
  rw [List.mem_singleton.mp hc]; omega
def ascB (x : Str) : Bool := (tl x).all fun c => decide (c < 128)
theorem asc_of {x : Str} (h : ascB x = true) : Asc x := fun c hc => by
  have := List.all_eq_true.mp h c hc
  exact of_decide_eq_true this
theorem figs_asc : ∀ x ∈ figs, Asc x := by
  have : ∀ x ∈ figs, ascB x = true := by decide +kernel
  exact fun x hx => asc_of (this x hx)
theorem eqv_str (x y : Str) : PyData.eqv (.str x) (.str y) = decide (x = y) := by simp [PyData.eqv]; rfl
theorem bNi_str (S : Bxs) {x : Str} {ns : List Str} (y : DV) (h : sq S y = some (ns.map .str)) (hx : Asc x) (hn : ∀ z ∈ ns, Asc z) : bIn true S (.dat (.str x)) y = some (!decide (x ∈ ns)) := by
  unfold bIn
  simp only [rd_dat, h]
  rw [if_pos (by rw [shaped_str hx, Bool.true_and, List.all_map, List.all_eq_true]; exact fun z hz => shaped_str (hn z hz))]
  simp only [if_true, List.any_map, Option.some.injEq]
  congr 1
  rw [Bool.eq_iff_iff]
  simp [eqv_str]
theorem bEq_str (S : Bxs) {x y : Str} (hx : Asc x) (hy : Asc y) : bEq S (.dat (.str x)) (.dat (.str y)) = some (decide (x = y)) := by
  unfold bEq
  simp only [rd_dat]
  rw [if_pos (by rw [shaped_str hx, shaped_str hy]; rfl), eqv_str]
theorem bNe_str (S : Bxs) {x y : Str} (hx : Asc x) (hy : Asc y) : bNe S (.dat (.str x)) (.dat (.str y)) = some (!decide (x = y)) := by
  unfold bNe
  simp only [rd_dat]
  rw [if_pos (by rw [shaped_str hx, shaped_str hy]; rfl), eqv_str]
theorem intS_fg {i : Int} (h0 : 0 ≤ i) (h8 : i ≤ 8) (S : Bxs) : g1 gIntS S [.dat (.str (fg i))] = some (.dat (.int i)) := by
  have e : PySem.intText? (fg i) = some i := by
    rcases fig_cases h0 h8 with h | h | h | h | h | h | h | h | h <;> subst h <;> decide +kernel
  have l : (fg i).length ≤ 640 := by rw [TT.len_tl, tl_fg h0 h8]; show 1 ≤ 640; decide
  show gIntS S (.dat (.str (fg i))) = _
  unfold gIntS
  simp only [rd_dat]
  rw [if_pos l, e]; rfl
theorem number_ok {x : Str} {n : Int} (h : numR x = some n) (S : Bxs) : sem_number_read [.dat (.str x)] S = some (.dat (.int n), S) := by
  obtain ⟨h0, h8, rfl⟩ := numR_some h
  unfold sem_number_read
  rw [semOf_eq]
  show finOf S (g_number_read [some (.dat (.str (fg n)))] S) = _
  unfold g_number_read
  have c1 : fCmpT (bIn true) (fVar 0) (fC (.tuple [(.str "0"), (.str "1"), (.str "2"), (.str "3"), (.str "4"), (.str "5"), (.str "6"), (.str "7"), (.str "8")])) [some (.dat (.str (fg n)))] S = some (false, S) := by
    have := bNi_str S (x := fg n) (ns := figs) (.dat (.tuple (figs.map .str))) rfl (asc_fg h0 h8) figs_asc
    rw [decide_eq_true (figs_fg h0 h8)] at this
    exact cmT (vr rfl) (fC_e _ _ _) this
  rw [sSeq_nx ((sIf_f c1).trans rfl)]
  exact fin_ret (opN (cns (vr rfl) nl) (intS_fg h0 h8 S)) rfl
def placeR (x : Str) : Option Int := match numR x with
  | some n => if n < 8 then some n else none
  | none => none
theorem place_ok {x : Str} {n : Int} (h : placeR x = some n) (S : Bxs) : sem_place_read [.dat (.str x)] S = some (.dat (.int n), S) := by
  unfold placeR at h
  split at h
  · rename_i k hk
    split at h
    · rename_i hl
      cases h
      unfold sem_place_read
      rw [semOf_eq]
      show finOf S (g_place_read [some (.dat (.str x)), none] S) = _
      unfold g_place_read
      have s1 : sSet 1 (fCall 1 sem_number_read (fCons (fVar 0) fNil)) [some (.dat (.str x)), none] S = some (.nx [some (.dat (.str x)), some (.dat (.int n))] S) := sSet_eq (dv := .dat (.int n)) (cl (cns (vr (dv := .dat (.str x)) rfl) nl) rfl (number_ok hk S))
      have c2 : fCmpT bGe (fVar 1) (fC (.int 8)) [some (.dat (.str x)), some (.dat (.int n))] S = some (false, S) := cmT (vr (dv := .dat (.int n)) rfl) (fC_e _ _ _) (by rw [bGe_e, decide_eq_false (by omega)])
      rw [sSeq_nx s1, sSeq_nx ((sIf_f c2).trans rfl)]
      exact fin_ret (vr rfl) rfl
    · cases h
  · cases h
theorem other_ok (x : Str) (S : Bxs) : sem_refuse_other [.dat (.str x)] S = some (.dat .none, S) := by
  unfold sem_refuse_other
  rw [semOf_eq]
  show finOf S (g_refuse_other [some (.dat (.str x))] S) = _
  unfold g_refuse_other
  rw [sIf_f (not_e (b := true) (tru_b (is_e (d := .str x) (vr rfl))))]
  show some (DV.dat .none, S.take S.length) = _
  rw [List.take_length]
theorem split_e {fo fe : FE} {ε : DEnv} {S S1 S2 : Bxs} {a b : Str} (ho : fo ε S = some (.dat (.str a), S1)) (he : fe ε S1 = some (.dat (.str b), S2)) (hb : (b.length == 0) = false) (hl : a.length ≤ 90000) : fSplit fo fe ε S = some (.lst ((Txt.split a b).map .str), S2) := by
  unfold fSplit
  rw [ho]; dsimp only
  rw [he]; dsimp only
  rw [if_pos ⟨hb, line_le (by omega)⟩]
def blankS : Str := " "
def dashS : Str := "-"
theorem blank_len : (blankS.length == 0) = false := by decide +kernel
theorem dash_len : (dashS.length == 0) = false := by decide +kernel
def strOf : D → Option Str
  | .str x => some x
  | _ => none
/-- all of several words, read -/
def allR {α : Type} (r : Str → Option α) : List Str → Option (List α)
  | [] => some []
  | w :: ws => match r w, allR r ws with
    | some a, some as => some (a :: as)
    | _, _ => none
theorem allR_mem {α : Type} {r : Str → Option α} : ∀ {ws : List Str} {as : List α}, allR r ws = some as → ∀ w ∈ ws, ∃ a, r w = some a
  | [], _, _, _, h => by cases h
  | w :: ws, _, h, v, hv => by
    unfold allR at h
    split at h
    · rename_i a as e1 e2
      rcases List.mem_cons.mp hv with rfl | hv
      · exact ⟨a, e1⟩
      · exact allR_mem e2 v hv
    · cases h
theorem allR_map {α : Type} {r : Str → Option α} (dflt : α) : ∀ {ws : List Str} {as : List α}, allR r ws = some as → as = ws.map fun w => (r w).getD dflt
  | [], _, h => by cases h; rfl
  | w :: ws, _, h => by
    unfold allR at h
    split at h
    · rename_i a as e1 e2
      cases h
      rw [List.map_cons, e1, ← allR_map dflt e2]; rfl
    · cases h
theorem allR_of {α : Type} {r : Str → Option α} {f : α → Str} : ∀ {as : List α}, (∀ a ∈ as, r (f a) = some a) → allR r (as.map f) = some as
  | [], _ => rfl
  | a :: as, h => by
    rw [List.map_cons]
    unfold allR
    rw [h a List.mem_cons_self, allR_of fun b hb => h b (List.mem_cons_of_mem _ hb)]
theorem allR_len {α : Type} {r : Str → Option α} : ∀ {ws : List Str} {as : List α}, allR r ws = some as → as.length = ws.length
  | [], _, h => by cases h; rfl
  | w :: ws, _, h => by
    unfold allR at h
    split at h
    · rename_i a as e1 e2
      cases h
      rw [List.length_cons, List.length_cons, allR_len e2]
    · cases h
/-- words read in a comprehension -/
theorem words_e {α : Type} {r : Str → Option α} {vs : List Nat} {fi : FI} {hg : FG} {fe : FE} {ε : DEnv} {S : Bxs} {ws : List Str} {as : List α} (R : α → D) (dflt : α) (h : allR r ws = some as) (hi : fi ε S = some (ws.map .str, S)) (hl : ws.length ≤ 100000)
    (hf : ∀ w ∈ ws, ∀ a, r w = some a → ∃ ε1, hg (.str w) (wipeE ε vs) = some ε1 ∧ ∀ acc, ∃ y, fe ε1 (S ++ [acc]) = some (y, S ++ [acc]) ∧ toD y = some (R a)) : fComp vs fi hg fYes fe ε S = some (.lst (as.map R), S) := by
  have k := fComp_map (vs := vs) (fi := fi) (hg := hg) (ft := fYes) (fe := fe) (ε := ε) (S := S) (S0 := S) PyData.str strOf (fun _ => rfl) (l := ws) (fun _ => true) (fun w => R ((r w).getD dflt)) hi hl (by
    intro w hw
    obtain ⟨a, ha⟩ := allR_mem h w hw
    obtain ⟨ε1, e1, e2⟩ := hf w hw a ha
    refine ⟨ε1, e1, fun _ => rfl, fun _ acc => ?_⟩
    rw [ha]; exact e2 acc)
  rw [List.filter_eq_self.mpr (fun _ _ => rfl)] at k
  rw [k, allR_map dflt h, List.map_map]
  rfl
def tieR (x : Str) : Option (List Int) := allR numR (Txt.split x dashS)
theorem split_le' (x y : Str) : (Txt.split x y).length ≤ x.length + 2 := PyProof.Rows.split_le x y
theorem tie_ok {x : Str} {t : List Int} (h : tieR x = some t) (hl : x.length ≤ 90000) (S : Bxs) : sem_tie_read [.dat (.str x)] S = some (.dat (dT t), S) := by
  unfold sem_tie_read
  rw [semOf_eq]
  show finOf S (g_tie_read [some (.dat (.str x)), none] S) = _
  unfold g_tie_read
  have hs := split_le' x dashS
  have k := words_e (vs := [1]) (fi := iD (fSplit (fVar 0) (fC (.str "-")))) (hg := hName 1) (fe := fCall 1 sem_number_read (fCons (fVar 1) fNil)) (ε := [some (.dat (.str x)), none]) (S := S) PyData.int 0 h (it (split_e (b := dashS) (vr rfl) (fC_e _ _ _) dash_len hl) rfl rfl) (by omega) (by
    intro w _ a ha
    exact ⟨[some (.dat (.str x)), some (.dat (.str w))], rfl, fun acc => ⟨_, cl (cns (vr (i := 1) (dv := .dat (.str w)) rfl) nl) rfl (number_ok ha _), rfl⟩⟩)
  exact fin_ret (opN (cns k nl) (tup_e (ds := t.map .int) rfl)) rfl
def headR (h : Str) : Option Int := if Txt.endswith h (":" : Str) = true then numR (cutS h none (some (-1))) else none
def webR (x : Str) : Option (Int × List (List Int)) := match Txt.split x blankS with
  | h :: ws => (match headR h, allR tieR ws with
    | some n, some ts => if webB (webD n ts) = true then some (n, ts) else none
    | _, _ => none)
  | [] => none
theorem star_e {i j : Nat} {f : FE} {ε : DEnv} {S S1 : Bxs} {d : D} {ds : List D} (h : f ε S = some (.lst (d :: ds), S1)) (hl : ds.length + 1 ≤ 16384) : sStar i j f ε S = some (.nx ((ε.set i (some (.dat d))).set j (some (.dat (.list ds)))) S1) := by
  unfold sStar
  rw [h]
  show (if ds.length + 1 ≤ 16384 then _ else _) = _
  rw [if_pos hl]
theorem slS_e {fa : FE} {fl fu : FO} {ε : DEnv} {S : Bxs} {z : Str} {lo hi : Option Int} (ha : fa ε S = some (.dat (.str z), S)) (hl : fl ε S = some (lo, S)) (hu : fu ε S = some (hi, S)) (hz : z.length ≤ 100000) : fSlS fa fl fu ε S = some (.dat (.str (cutS z lo hi)), S) := by
  unfold fSlS
  rw [ha]; dsimp only
  rw [hl]; dsimp only
  rw [hu]; dsimp only
  rw [rd_dat]; dsimp only
  rw [if_pos (line_le hz)]
theorem spl_part (S : List Nat) (hS : S ≠ []) : ∀ (n : Nat) (l acc : List Nat), l.length ≤ n → ∀ p ∈ spl S 0 acc l, p.length ≤ acc.length + l.length
  | _, [], acc, _, p, hp => by
    rw [spl_nil] at hp
    rw [List.mem_singleton.mp hp]; simp
  | 0, _ :: _, _, h, _, _ => by simp at h
  | n + 1, c :: r, acc, h, p, hp => by
    have hr : r.length ≤ n := by simpa using h
    by_cases e : pre S (c :: r) = true
    · rw [spl_hit e] at hp
      rcases List.mem_cons.mp hp with rfl | hp
      · simp
      · rw [spl_pass] at hp
        have := spl_part S hS n (r.drop (S.length - 1)) [] (by rw [List.length_drop]; omega) p hp
        rw [List.length_drop] at this
        simp at this ⊢; omega
    · rw [spl_miss (by simpa using e)] at hp
      have := spl_part S hS n r (acc ++ [c]) hr p hp
      simp at this ⊢; omega
theorem split_part {x y : Str} (hy : tl y ≠ []) (hk : y.cps.all (· < 256) = true) : ∀ p ∈ Txt.split x y, p.length ≤ x.length := by
  intro p hp
  have e := split_spl x y hy (kind_ok hk)
  have : tl p ∈ spl (tl y) 0 [] (tl x) := by rw [← e]; exact List.mem_map_of_mem hp
  have := spl_part (tl y) hy (tl x).length (tl x) [] (Nat.le_refl _) (tl p) this
  rw [TT.len_tl, TT.len_tl x]
  simpa using this
theorem blank_tl : tl blankS = [32] := tl_blank
theorem dash_tl : tl dashS = [45] := tl_dash
theorem blank_ok : blankS.cps.all (· < 256) = true := by decide +kernel
theorem dash_ok : dashS.cps.all (· < 256) = true := by decide +kernel
theorem word_len {x : Str} : ∀ p ∈ Txt.split x blankS, p.length ≤ x.length := split_part (by rw [blank_tl]; simp) blank_ok
theorem web_read_ok {x : Str} {n : Int} {ts : List (List Int)} (h : webR x = some (n, ts)) (hl : x.length ≤ 900) (S : Bxs) : sem_web_read [.dat (.str x)] S = some (.dat (webD n ts), S) := by
  have hs := split_le' x blankS
  have hw := word_len (x := x)
  unfold webR at h
  split at h
  · rename_i hd ws e0
    rw [e0] at hs hw
    split at h
    · rename_i n' ts' e1 e2
      split at h
      · rename_i e3
        cases h
        unfold headR at e1
        split at e1
        · rename_i e4
          have ws_len : ws.length ≤ 1000 := by simp at hs; omega
          have hdl := hw hd List.mem_cons_self
          unfold sem_web_read
          rw [semOf_eq]
          show finOf S (g_web_read [some (.dat (.str x)), none, none, none, none] S) = _
          unfold g_web_read
          have s1 : sExpr (fCall 1 sem_refuse_other (fCons (fVar 0) fNil)) [some (.dat (.str x)), none, none, none, none] S = some (.nx [some (.dat (.str x)), none, none, none, none] S) := sExpr_eq (cl (cns (vr (dv := .dat (.str x)) rfl) nl) rfl (other_ok x S))
          have sp : fSplit (fVar 0) (fC (.str " ")) [some (.dat (.str x)), none, none, none, none] S = some (.lst (PyData.str hd :: ws.map .str), S) := by
            have := split_e (fo := fVar 0) (fe := fC (.str " ")) (ε := [some (.dat (.str x)), none, none, none, none]) (S := S) (S1 := S) (S2 := S) (a := x) (b := blankS) (vr rfl) (fC_e _ _ _) blank_len (by omega)
            rw [e0] at this
            exact this
          have s2 : sStar 1 2 (fSplit (fVar 0) (fC (.str " "))) [some (.dat (.str x)), none, none, none, none] S = some (.nx [some (.dat (.str x)), some (.dat (.str hd)), some (.dat (.list (ws.map .str))), none, none] S) := star_e sp (by rw [List.length_map]; omega)
          have c3 : fNotT (fTru (fEndsW (fVar 1) (fC (.str ":")))) [some (.dat (.str x)), some (.dat (.str hd)), some (.dat (.list (ws.map .str))), none, none] S = some (false, S) := by
            refine not_e (b := true) (tru_b ?_)
            unfold fEndsW
            rw [vr (i := 1) (dv := .dat (.str hd)) rfl]; dsimp only
            rw [fC_e]; dsimp only
            rw [e4]
          have k := words_e (vs := [4]) (fi := iD (fVar 2)) (hg := hName 4) (fe := fCall 1 sem_tie_read (fCons (fVar 4) fNil)) (ε := [some (.dat (.str x)), some (.dat (.str hd)), some (.dat (.list (ws.map .str))), none, none]) (S := S) dT [] e2 (it (vr (i := 2) (dv := .dat (.list (ws.map .str))) rfl) rfl rfl) (by omega) (by
            intro w hm a ha
            exact ⟨[some (.dat (.str x)), some (.dat (.str hd)), some (.dat (.list (ws.map .str))), none, some (.dat (.str w))], rfl, fun acc => ⟨_, cl (cns (vr (i := 4) (dv := .dat (.str w)) rfl) nl) rfl (tie_ok ha (by have := hw w (List.mem_cons_of_mem _ hm); omega) _), rfl⟩⟩)
          have s4 : sSet 3 (fTup (fCons (fCall 1 sem_number_read (fCons (fSlS (fVar 1) fNoP (fPart (fOp1 gNeg (fC (.int 1))))) fNil)) (fCons (fOpN (g1 gTup1) (fCons (fComp [4] (iD (fVar 2)) (hName 4) fYes (fCall 1 sem_tie_read (fCons (fVar 4) fNil))) fNil)) fNil))) [some (.dat (.str x)), some (.dat (.str hd)), some (.dat (.list (ws.map .str))), none, none] S = some (.nx [some (.dat (.str x)), some (.dat (.str hd)), some (.dat (.list (ws.map .str))), some (.dat (webD n ts)), none] S) :=
            sSet_eq (dv := .dat (webD n ts)) (tp (ds := [.int n, .tuple (ts.map dT)]) (cns (cl (cns (slS_e (vr (i := 1) (dv := .dat (.str hd)) rfl) np_e (pt_e (neg_e (fC_e _ _ _))) (by omega)) nl) rfl (number_ok e1 S)) (cns (opN (cns k nl) (tup_e (ds := ts.map dT) rfl)) nl)) rfl (by simp))
          have hSm : Sm (webD n ts) := by
            intro x' us e
            injection e with e
            injection e with _ e
            injection e with e _
            injection e with e
            rw [← e, List.length_map, allR_len e2]; exact ws_len
          have c5 : fNotT (fTru (fCall 1 sem_is_web (fCons (fVar 3) fNil))) [some (.dat (.str x)), some (.dat (.str hd)), some (.dat (.list (ws.map .str))), some (.dat (webD n ts)), none] S = some (false, S) := by
            have := is_web_eq hSm S
            rw [e3] at this
            exact not_e (b := true) (tru_b (cl (cns (vr (i := 3) (dv := .dat (webD n ts)) rfl) nl) rfl this))
          rw [sSeq_nx s1, sSeq_nx s2, sSeq_nx ((sIf_f c3).trans rfl), sSeq_nx s4, sSeq_nx ((sIf_f c5).trans rfl)]
          exact fin_ret (vr rfl) rfl
        · cases e1
      · cases h
    · cases h
  · cases h
def noneS : Str := "none"
def rowR (x : Str) : Option (List Int) := if x = noneS then some [] else match allR placeR (Txt.split x blankS) with
  | some r => if r.length ≤ 40 then some r else none
  | none => none
theorem none_asc : Asc noneS := asc_of (by decide +kernel)
theorem row_read_ok {x : Str} {r : List Int} (h : rowR x = some r) (ha : Asc x) (hl : x.length ≤ 900) (S : Bxs) : sem_row_read [.dat (.str x)] S = some (.dat (dT r), S) := by
  have hs := split_le' x blankS
  unfold sem_row_read
  rw [semOf_eq]
  show finOf S (g_row_read [some (.dat (.str x)), none, none] S) = _
  unfold g_row_read
  have s1 : sExpr (fCall 1 sem_refuse_other (fCons (fVar 0) fNil)) [some (.dat (.str x)), none, none] S = some (.nx [some (.dat (.str x)), none, none] S) := sExpr_eq (cl (cns (vr (dv := .dat (.str x)) rfl) nl) rfl (other_ok x S))
  have c2 : fCmpT bEq (fVar 0) (fC (.str "none")) [some (.dat (.str x)), none, none] S = some (decide (x = noneS), S) := cmT (vr (dv := .dat (.str x)) rfl) (fC_e _ _ _) (bEq_str _ ha none_asc)
  rw [sSeq_nx s1]
  unfold rowR at h
  split at h
  · rename_i e
    cases h
    rw [decide_eq_true e] at c2
    rw [sSeq_rt ((sIf_t c2).trans (sRet_eq (tp (ds := []) nl rfl (by simp))))]
    exact fin_dat rfl
  · rename_i e
    rw [decide_eq_false e] at c2
    rw [sSeq_nx ((sIf_f c2).trans rfl)]
    split at h
    · rename_i r' e1
      split at h
      · rename_i e2
        cases h
        have k := words_e (vs := [2]) (fi := iD (fSplit (fVar 0) (fC (.str " ")))) (hg := hName 2) (fe := fCall 1 sem_place_read (fCons (fVar 2) fNil)) (ε := [some (.dat (.str x)), none, none]) (S := S) PyData.int 0 e1 (it (split_e (b := blankS) (vr rfl) (fC_e _ _ _) blank_len (by omega)) rfl rfl) (by omega) (by
          intro w _ a ha
          exact ⟨[some (.dat (.str x)), none, some (.dat (.str w))], rfl, fun acc => ⟨_, cl (cns (vr (i := 2) (dv := .dat (.str w)) rfl) nl) rfl (place_ok ha _), rfl⟩⟩)
        have s3 : sSet 1 (fOpN (g1 gTup1) (fCons (fComp [2] (iD (fSplit (fVar 0) (fC (.str " ")))) (hName 2) fYes (fCall 1 sem_place_read (fCons (fVar 2) fNil))) fNil)) [some (.dat (.str x)), none, none] S = some (.nx [some (.dat (.str x)), some (.dat (dT r)), none] S) := sSet_eq (dv := .dat (dT r)) (opN (cns k nl) (tup_e (ds := r.map .int) rfl))
        have c4 : fCmpT bGt (fOpN (g1 gLen) (fCons (fVar 1) fNil)) (fC (.int 40)) [some (.dat (.str x)), some (.dat (dT r)), none] S = some (false, S) := cmT (opN (cns (vr (i := 1) (dv := .dat (dT r)) rfl) nl) (len_e (ds := r.map .int) rfl)) (fC_e _ _ _) (by rw [bGt_e, List.length_map, decide_eq_false (by omega)])
        rw [sSeq_nx s3, sSeq_nx ((sIf_f c4).trans rfl)]
        exact fin_ret (vr rfl) rfl
      · cases h
    · cases h
end TT
end DL

set_option linter.all false
set_option maxRecDepth 100000
set_option maxHeartbeats 0
namespace DL
open PySem PySem.Spec L2 PyProof.Rows
namespace K91
/-- _law_plain: ['_law_thing', '_law_part'] kept: [] -/
def g__law_plain (semS : Sem0) : FS := (sSeq (sIf (fTru (fIs isTupD (fVar 0))) (sRet (fOp2 (gB bEq) (fComp [1] (iD (fVar 0)) (hName 1) (fNotT (fTru (fCall 1 semS (fCons (fVar 1) fNil)))) (fVar 1)) (fLst fNil))) sNil)
  (sRet (fAnd (fIs isIntD (fVar 0)) (fNot (fIs isBoolD (fVar 0))))))
def semr__law_plain : Nat → Sem0
  | 0 => fun _ _ => none
  | n + 1 => semOf 2 (g__law_plain (semr__law_plain n))
def sem__law_plain : Sem0 := semr__law_plain 4
/-- law: ['_law_script', '_law_k', '_law_state_here', '_law_web_here', '_law_row', '_law_found', '_law_turn'] kept: ['_law_state_here'] -/
def g_law : FS := (sSeq (sFor (iRange1 (fCons (fOpN (g2 gMax) (fCons (fC (.int 1)) (fCons (fOpN (g2 gMin) (fCons (fOpN (g1 gLen) (fCons (fVar 0) fNil)) (fCons (fC (.int 12)) fNil))) fNil))) fNil)) (hName 1) (sSeq (sSetB 2 (fCall 2 sem__law_state (fCons (fVar 0) (fCons (fVar 1) fNil))))
  (sSeq (sSet 3 (fCall 3 sem__law_web (fCons (fVar 2) (fCons (fC (.int 1)) (fCons (fC (.int 8)) fNil)))))
  (sSeq (sSet 4 (fOpN (g1 gTup1) (fCons (fComp [6] (iRange1 (fCons (fOp2 gIx (fLst (fCons (fC (.int 0)) (fCons (fC (.int 1)) (fCons (fC (.int 3)) (fCons (fC (.int 10)) (fCons (fC (.int 40)) fNil)))))) (fCall 2 sem__law_take (fCons (fVar 2) (fCons (fC (.int 5)) fNil)))) fNil)) (hName 6) fYes (fCall 2 sem__law_take (fCons (fVar 2) (fCons (fC (.int 8)) fNil)))) fNil)))
  (sSeq (sIf (fOrT (fCmpT bNe (fCall 1 sem_web_text (fCons (fVar 3) fNil)) (fCall 1 sem__law_web_text (fCons (fVar 3) fNil))) (fCmpT bNe (fCall 1 sem_row_text (fCons (fVar 4) fNil)) (fCall 1 sem__law_row_text (fCons (fVar 4) fNil)))) (sRet (fC (.bool false))) sNil)
  (sSeq (sSet 5 (fCall 1 sem_web_read (fCons (fCall 1 sem__law_web_text (fCons (fVar 3) fNil)) fNil)))
  (sSeq (sIf (fOrT (fCmpT bNe (fVar 5) (fVar 3)) (fNotT (fTru (fCall 1 sem__law_plain (fCons (fVar 5) fNil))))) (sRet (fC (.bool false))) sNil)
  (sSeq (sSet 5 (fCall 1 sem_row_read (fCons (fCall 1 sem__law_row_text (fCons (fVar 4) fNil)) fNil)))
  (sIf (fOrT (fCmpT bNe (fVar 5) (fVar 4)) (fNotT (fTru (fCall 1 sem__law_plain (fCons (fVar 5) fNil))))) (sRet (fC (.bool false))) sNil)))))))))
  (sRet (fAnd (fOp2 (gB bEq) (fCall 1 sem_web_text (fCons (fTup (fCons (fC (.int 1)) (fCons (fTup fNil) fNil))) fNil)) (fC (.str "1:"))) (fOp2 (gB bEq) (fCall 1 sem_row_text (fCons (fTup fNil) fNil)) (fC (.str "none"))))))
def sem_law : Sem0 := semOf 7 g_law
def top (i : Nat) : Stmt := PySem.Challenge.pw_nearturns_k91_texts_written_and_read.main.body.getD i (.Pass ⟨0, 0, 0, 0⟩)
structure Cs (K : PySem.W.Frag) (mg : Str → Option Value) : Prop where
  MOST_PLACES : ∃ t, mg "MOST_PLACES" = some (.int 8 t)
  MOST_TURNS : ∃ t, mg "MOST_TURNS" = some (.int 40 t)
  FIGURES : StrC K mg "FIGURES" ["0", "1", "2", "3", "4", "5", "6", "7", "8"]
section
variable {P : Program} {w : World} {K : PySem.W.Frag} {mg : Str → Option Value} {base : Heap}
theorem sc_is_whole : FnScope ["thing"] ["thing"] (defScope (top 5)) := ⟨rfl, rfl, rfl, by decide +kernel, rfl, by decide +kernel, by decide +kernel⟩
theorem ok_is_whole {f : Addr} {fd : FuncData} (F : Fun K "is_whole" "is_whole" (top 5) f fd) (B : Bl mg) : FnOk P w K mg base CX0 1 f fd ["thing"] (spD K 1 sem_is_whole) :=
  fn_data (N := ["thing"]) (g := g_is_whole) F sc_is_whole rfl fun cdv A outer s H E hr => by
  have hu := room80 hr
  exact (dss_one (ds_ret (de_and (de_isinst kit_int (by rfl) B.isinstance (by rfl) B.int rfl (de_var 0)) (de_one (de_not (de_isinst kit_bool (by rfl) B.isinstance (by rfl) B.bool rfl (de_var 0)))))))
theorem sc_is_tie : FnScope ["places", "thing", "low", "high"] ["places", "thing"] (defScope (top 6)) := ⟨rfl, rfl, rfl, by decide +kernel, rfl, by decide +kernel, by decide +kernel⟩
theorem ok_is_tie {f : Addr} {fd : FuncData} (F : Fun K "is_tie" "is_tie" (top 6) f fd) (B : Bl mg) (F_is_whole : Fn P w K mg base 1 "is_whole" ["thing"] 1 sem_is_whole) : FnOk P w K mg base CX0 2 f fd ["places", "thing"] (spD K 2 sem_is_tie) :=
  fn_data (N := ["places", "thing", "low", "high"]) (g := g_is_tie) F sc_is_tie rfl fun cdv A outer s H E hr => by
  have hu := room80 hr
  exact (dss_cons (ds_if (DW.dt (dw_or (dt_not (dt_truth (de_isinst kit_tup (by rfl) B.isinstance (by rfl) B.tuple rfl (de_var 1)))) (dw_or1 (t_ne hu (e_len B (by rfl) (da_cons (de_var 1) da_nil)) de_int)))) (dss_one (ds_ret de_bl)) dss_nil)
    (dss_cons (ds_asg (de_var 1) (dg_tup rfl (dgs_cons (dg_name (i := 2) sc_is_tie.nd rfl (by first | exact Or.inl rfl | exact Or.inr rfl)) (dgs_cons (dg_name (i := 3) sc_is_tie.nd rfl (by first | exact Or.inl rfl | exact Or.inr rfl)) dgs_nil))))
    (dss_one (ds_ret (de_and (de_callF F_is_whole hr (by decide) (by rfl) (da_cons (de_var 2) da_nil)) (de_and (de_callF F_is_whole hr (by decide) (by rfl) (da_cons (de_var 3) da_nil)) (de_one (de_chain3 op_le op_lt op_lt de_int (de_var 2) (de_var 3) (de_var 0)))))))))
theorem sc_are_ties : FnScope ["places", "thing", "tie", "k"] ["places", "thing"] (defScope (top 7)) := ⟨rfl, rfl, rfl, by decide +kernel, rfl, by decide +kernel, by decide +kernel⟩
theorem ok_are_ties {f : Addr} {fd : FuncData} (F : Fun K "are_ties" "are_ties" (top 7) f fd) (B : Bl mg) (F_is_tie : Fn P w K mg base 2 "is_tie" ["places", "thing"] 2 sem_is_tie) : FnOk P w K mg base CX0 3 f fd ["places", "thing"] (spD K 2 sem_are_ties) :=
  fn_data (N := ["places", "thing", "tie", "k"]) (g := g_are_ties) F sc_are_ties rfl fun cdv A outer s H E hr => by
  have hu := room80 hr
  exact (dss_cons (ds_if (dt_not (dt_truth (de_isinst kit_tup (by rfl) B.isinstance (by rfl) B.tuple rfl (de_var 1)))) (dss_one (ds_ret de_bl)) dss_nil)
    (dss_cons (ds_if (dt_not (dt_truth (e_all B rfl (by rfl) (da_cons (de_lc rfl sc_are_ties.nd (di_seq (de_var 1)) (blkOk_by (own := [("tie", 2)]) (by first | (show blkC ["places", "thing", "tie", "k"] (defScope (top 7)) _ _ = true; decide +kernel) | rfl)) (fun _ _ _ _ _ => (dg_name (i := 2) sc_are_ties.nd rfl (by first | exact Or.inl rfl | exact Or.inr rfl))) (fun _ _ _ _ _ => dts_nil) (fun _ _ _ _ _ => (de_callF F_is_tie hr (by decide) (by rfl) (da_cons (de_var 0) (da_cons (de_var 2) da_nil))))) da_nil)))) (dss_one (ds_ret de_bl)) dss_nil)
    (dss_one (ds_ret (e_all B rfl (by rfl) (da_cons (de_lc rfl sc_are_ties.nd (di_range1 (by rfl) B.range (da_cons (e_sub (e_len B (by rfl) (da_cons (de_var 1) da_nil)) de_int) da_nil)) (blkOk_by (own := [("k", 3)]) (by first | (show blkC ["places", "thing", "tie", "k"] (defScope (top 7)) _ _ = true; decide +kernel) | rfl)) (fun _ _ _ _ _ => (dg_name (i := 3) sc_are_ties.nd rfl (by first | exact Or.inl rfl | exact Or.inr rfl))) (fun _ _ _ _ _ => dts_nil) (fun _ _ _ _ _ => (e_ltT hu (e_ix (de_var 1) (de_var 3)) (e_ix (de_var 1) (e_add (de_var 3) de_int))))) da_nil))))))
theorem sc_is_web : FnScope ["thing", "places", "ties"] ["thing"] (defScope (top 8)) := ⟨rfl, rfl, rfl, by decide +kernel, rfl, by decide +kernel, by decide +kernel⟩
theorem ok_is_web {f : Addr} {fd : FuncData} (F : Fun K "is_web" "is_web" (top 8) f fd) (B : Bl mg) (F_is_whole : Fn P w K mg base 1 "is_whole" ["thing"] 1 sem_is_whole) (F_are_ties : Fn P w K mg base 3 "are_ties" ["places", "thing"] 2 sem_are_ties) (C : Cs K mg) : FnOk P w K mg base CX0 4 f fd ["thing"] (spD K 1 sem_is_web) :=
  fn_data (N := ["thing", "places", "ties"]) (g := g_is_web) F sc_is_web rfl fun cdv A outer s H E hr => by
  have hu := room80 hr
  exact (dss_cons (ds_if (DW.dt (dw_or (dt_not (dt_truth (de_isinst kit_tup (by rfl) B.isinstance (by rfl) B.tuple rfl (de_var 0)))) (dw_or1 (t_ne hu (e_len B (by rfl) (da_cons (de_var 0) da_nil)) de_int)))) (dss_one (ds_ret de_bl)) dss_nil)
    (dss_cons (ds_asg (de_var 0) (dg_tup rfl (dgs_cons (dg_name (i := 1) sc_is_web.nd rfl (by first | exact Or.inl rfl | exact Or.inr rfl)) (dgs_cons (dg_name (i := 2) sc_is_web.nd rfl (by first | exact Or.inl rfl | exact Or.inr rfl)) dgs_nil))))
    (dss_one (ds_ret (de_and (de_callF F_is_whole hr (by decide) (by rfl) (da_cons (de_var 1) da_nil)) (de_and (de_chain op_le op_le de_int (de_var 1) (e_const C.MOST_PLACES (by rfl))) (de_one (de_callF F_are_ties hr (by decide) (by rfl) (da_cons (de_var 1) (da_cons (de_var 2) da_nil))))))))))
theorem sc_web_text : FnScope ["web", "places", "ties", "low", "high"] ["web"] (defScope (top 12)) := ⟨rfl, rfl, rfl, by decide +kernel, rfl, by decide +kernel, by decide +kernel⟩
theorem ok_web_text {f : Addr} {fd : FuncData} (F : Fun K "web_text" "web_text" (top 12) f fd) (B : Bl mg) : FnOk P w K mg base CX0 1 f fd ["web"] (spD K 1 sem_web_text) :=
  fn_data (N := ["web", "places", "ties", "low", "high"]) (g := g_web_text) F sc_web_text rfl fun cdv A outer s H E hr => by
  have hu := room80 hr
  exact (dss_cons (ds_asg (de_var 0) (dg_tup rfl (dgs_cons (dg_name (i := 1) sc_web_text.nd rfl (by first | exact Or.inl rfl | exact Or.inr rfl)) (dgs_cons (dg_name (i := 2) sc_web_text.nd rfl (by first | exact Or.inl rfl | exact Or.inr rfl)) dgs_nil))))
    (dss_one (ds_ret (e_addS (e_fmtE (de_var 1)) (de_join de_str (de_lc rfl sc_web_text.nd (di_seq (de_var 2)) (blkOk_by (own := [("low", 3), ("high", 4)]) (by first | (show blkC ["web", "places", "ties", "low", "high"] (defScope (top 12)) _ _ = true; decide +kernel) | rfl)) (fun _ _ _ _ _ => (dg_tup rfl (dgs_cons (dg_name (i := 3) sc_web_text.nd rfl (by first | exact Or.inl rfl | exact Or.inr rfl)) (dgs_cons (dg_name (i := 4) sc_web_text.nd rfl (by first | exact Or.inl rfl | exact Or.inr rfl)) dgs_nil)))) (fun _ _ _ _ _ => dts_nil) (fun _ _ _ _ _ => (e_fmtT (de_var 3) (de_var 4)))))))))
theorem sc_row_text : FnScope ["row", "place"] ["row"] (defScope (top 13)) := ⟨rfl, rfl, rfl, by decide +kernel, rfl, by decide +kernel, by decide +kernel⟩
theorem ok_row_text {f : Addr} {fd : FuncData} (F : Fun K "row_text" "row_text" (top 13) f fd) (B : Bl mg) : FnOk P w K mg base CX0 1 f fd ["row"] (spD K 1 sem_row_text) :=
  fn_data (N := ["row", "place"]) (g := g_row_text) F sc_row_text rfl fun cdv A outer s H E hr => by
  have hu := room80 hr
  exact (dss_one (ds_ret (de_if (dt_truth (de_var 0)) (de_join de_str (de_lc rfl sc_row_text.nd (di_seq (de_var 0)) (blkOk_by (own := [("place", 1)]) (by first | (show blkC ["row", "place"] (defScope (top 13)) _ _ = true; decide +kernel) | rfl)) (fun _ _ _ _ _ => (dg_name (i := 1) sc_row_text.nd rfl (by first | exact Or.inl rfl | exact Or.inr rfl))) (fun _ _ _ _ _ => dts_nil) (fun _ _ _ _ _ => (e_strI B.str (by rfl) (da_cons (de_var 1) da_nil))))) de_str)))
theorem sc_number_read : FnScope ["word"] ["word"] (defScope (top 14)) := ⟨rfl, rfl, rfl, by decide +kernel, rfl, by decide +kernel, by decide +kernel⟩
theorem ok_number_read {f : Addr} {fd : FuncData} (F : Fun K "number_read" "number_read" (top 14) f fd) (B : Bl mg) (C : Cs K mg) : FnOk P w K mg base CX0 1 f fd ["word"] (spD K 1 sem_number_read) :=
  fn_data (N := ["word"]) (g := g_number_read) F sc_number_read rfl fun cdv A outer s H E hr => by
  have hu := room80 hr
  exact (dss_cons (ds_if (t_ni hu (de_var 0) (e_constS C.FIGURES (by rfl))) (dss_one ds_never) dss_nil)
    (dss_one (ds_ret (e_intS B.int (by rfl) (da_cons (de_var 0) da_nil)))))
theorem sc_place_read : FnScope ["word", "number"] ["word"] (defScope (top 15)) := ⟨rfl, rfl, rfl, by decide +kernel, rfl, by decide +kernel, by decide +kernel⟩
theorem ok_place_read {f : Addr} {fd : FuncData} (F : Fun K "place_read" "place_read" (top 15) f fd) (B : Bl mg) (F_number_read : Fn P w K mg base 1 "number_read" ["word"] 1 sem_number_read) (C : Cs K mg) : FnOk P w K mg base CX0 2 f fd ["word"] (spD K 1 sem_place_read) :=
  fn_data (N := ["word", "number"]) (g := g_place_read) F sc_place_read rfl fun cdv A outer s H E hr => by
  have hu := room80 hr
  exact (dss_cons (ds_set (i := 1) sc_place_read.nd rfl (by first | exact Or.inl rfl | exact Or.inr rfl) (de_callF F_number_read hr (by decide) (by rfl) (da_cons (de_var 0) da_nil)))
    (dss_cons (ds_if (t_ge (de_var 1) (e_const C.MOST_PLACES (by rfl))) (dss_one ds_never) dss_nil)
    (dss_one (ds_ret (de_var 1)))))
theorem sc_tie_read : FnScope ["word", "end"] ["word"] (defScope (top 16)) := ⟨rfl, rfl, rfl, by decide +kernel, rfl, by decide +kernel, by decide +kernel⟩
theorem ok_tie_read {f : Addr} {fd : FuncData} (F : Fun K "tie_read" "tie_read" (top 16) f fd) (B : Bl mg) (F_number_read : Fn P w K mg base 1 "number_read" ["word"] 1 sem_number_read) : FnOk P w K mg base CX0 2 f fd ["word"] (spD K 1 sem_tie_read) :=
  fn_data (N := ["word", "end"]) (g := g_tie_read) F sc_tie_read rfl fun cdv A outer s H E hr => by
  have hu := room80 hr
  exact (dss_one (ds_ret (e_tuple B (by rfl) (da_cons (de_lc rfl sc_tie_read.nd (di_seq (de_split (de_var 0) de_str)) (blkOk_by (own := [("end", 1)]) (by first | (show blkC ["word", "end"] (defScope (top 16)) _ _ = true; decide +kernel) | rfl)) (fun _ _ _ _ _ => (dg_name (i := 1) sc_tie_read.nd rfl (by first | exact Or.inl rfl | exact Or.inr rfl))) (fun _ _ _ _ _ => dts_nil) (fun _ _ _ _ _ => (de_callF F_number_read hr (by decide) (by rfl) (da_cons (de_var 1) da_nil)))) da_nil))))
theorem sc_refuse_other : FnScope ["thing"] ["thing"] (defScope (top 17)) := ⟨rfl, rfl, rfl, by decide +kernel, rfl, by decide +kernel, by decide +kernel⟩
theorem ok_refuse_other {f : Addr} {fd : FuncData} (F : Fun K "refuse_other" "refuse_other" (top 17) f fd) (B : Bl mg) : FnOk P w K mg base CX0 1 f fd ["thing"] (spD K 1 sem_refuse_other) :=
  fn_data (N := ["thing"]) (g := g_refuse_other) F sc_refuse_other rfl fun cdv A outer s H E hr => by
  have hu := room80 hr
  exact (dss_one (ds_if (dt_not (dt_truth (de_isinst kit_str (by rfl) B.isinstance (by rfl) B.str rfl (de_var 0)))) (dss_one ds_never) dss_nil))
theorem sc_web_read : FnScope ["text", "head", "words", "web", "word"] ["text"] (defScope (top 18)) := ⟨rfl, rfl, rfl, by decide +kernel, rfl, by decide +kernel, by decide +kernel⟩
theorem ok_web_read {f : Addr} {fd : FuncData} (F : Fun K "web_read" "web_read" (top 18) f fd) (B : Bl mg) (F_is_web : Fn P w K mg base 4 "is_web" ["thing"] 1 sem_is_web) (F_number_read : Fn P w K mg base 1 "number_read" ["word"] 1 sem_number_read) (F_tie_read : Fn P w K mg base 2 "tie_read" ["word"] 1 sem_tie_read) (F_refuse_other : Fn P w K mg base 1 "refuse_other" ["thing"] 1 sem_refuse_other) : FnOk P w K mg base CX0 5 f fd ["text"] (spD K 1 sem_web_read) :=
  fn_data (N := ["text", "head", "words", "web", "word"]) (g := g_web_read) F sc_web_read rfl fun cdv A outer s H E hr => by
  have hu := room80 hr
  exact (dss_cons (ds_expr (de_callF F_refuse_other hr (by decide) (by rfl) (da_cons (de_var 0) da_nil)))
    (dss_cons (ds_star (i := 1) (j := 2) rfl sc_web_read.nd rfl (by first | exact Or.inl rfl | exact Or.inr rfl) rfl (by first | exact Or.inl rfl | exact Or.inr rfl) (de_split (de_var 0) de_str))
    (dss_cons (ds_if (dt_not (dt_truth (de_endsW (de_var 1) de_str))) (dss_one ds_never) dss_nil)
    (dss_cons (ds_set (i := 3) sc_web_read.nd rfl (by first | exact Or.inl rfl | exact Or.inr rfl) (de_tup (da_cons (de_callF F_number_read hr (by decide) (by rfl) (da_cons (de_sliceS (de_var 1) do_none (do_some (e_neg de_int))) da_nil)) (da_cons (e_tuple B (by rfl) (da_cons (de_lc rfl sc_web_read.nd (di_seq (de_var 2)) (blkOk_by (own := [("word", 4)]) (by first | (show blkC ["text", "head", "words", "web", "word"] (defScope (top 18)) _ _ = true; decide +kernel) | rfl)) (fun _ _ _ _ _ => (dg_name (i := 4) sc_web_read.nd rfl (by first | exact Or.inl rfl | exact Or.inr rfl))) (fun _ _ _ _ _ => dts_nil) (fun _ _ _ _ _ => (de_callF F_tie_read hr (by decide) (by rfl) (da_cons (de_var 4) da_nil)))) da_nil)) da_nil))))
    (dss_cons (ds_if (dt_not (dt_truth (de_callF F_is_web hr (by decide) (by rfl) (da_cons (de_var 3) da_nil)))) (dss_one ds_never) dss_nil)
    (dss_one (ds_ret (de_var 3))))))))
theorem sc_row_read : FnScope ["text", "row", "word"] ["text"] (defScope (top 19)) := ⟨rfl, rfl, rfl, by decide +kernel, rfl, by decide +kernel, by decide +kernel⟩
theorem ok_row_read {f : Addr} {fd : FuncData} (F : Fun K "row_read" "row_read" (top 19) f fd) (B : Bl mg) (F_place_read : Fn P w K mg base 2 "place_read" ["word"] 1 sem_place_read) (F_refuse_other : Fn P w K mg base 1 "refuse_other" ["thing"] 1 sem_refuse_other) (C : Cs K mg) : FnOk P w K mg base CX0 3 f fd ["text"] (spD K 1 sem_row_read) :=
  fn_data (N := ["text", "row", "word"]) (g := g_row_read) F sc_row_read rfl fun cdv A outer s H E hr => by
  have hu := room80 hr
  exact (dss_cons (ds_expr (de_callF F_refuse_other hr (by decide) (by rfl) (da_cons (de_var 0) da_nil)))
    (dss_cons (ds_if (t_eq hu (de_var 0) de_str) (dss_one (ds_ret (de_tup da_nil))) dss_nil)
    (dss_cons (ds_set (i := 1) sc_row_read.nd rfl (by first | exact Or.inl rfl | exact Or.inr rfl) (e_tuple B (by rfl) (da_cons (de_lc rfl sc_row_read.nd (di_seq (de_split (de_var 0) de_str)) (blkOk_by (own := [("word", 2)]) (by first | (show blkC ["text", "row", "word"] (defScope (top 19)) _ _ = true; decide +kernel) | rfl)) (fun _ _ _ _ _ => (dg_name (i := 2) sc_row_read.nd rfl (by first | exact Or.inl rfl | exact Or.inr rfl))) (fun _ _ _ _ _ => dts_nil) (fun _ _ _ _ _ => (de_callF F_place_read hr (by decide) (by rfl) (da_cons (de_var 2) da_nil)))) da_nil)))
    (dss_cons (ds_if (t_gt (e_len B (by rfl) (da_cons (de_var 1) da_nil)) (e_const C.MOST_TURNS (by rfl))) (dss_one ds_never) dss_nil)
    (dss_one (ds_ret (de_var 1)))))))
theorem sc__law_cell_at : FnScope ["_law_script", "_law_k"] ["_law_script", "_law_k"] (defScope (top 21)) := ⟨rfl, rfl, rfl, by decide +kernel, rfl, by decide +kernel, by decide +kernel⟩
theorem ok__law_cell_at {f : Addr} {fd : FuncData} (F : Fun K "_law_cell_at" "_law_cell_at" (top 21) f fd) (B : Bl mg) : FnOk P w K mg base CX0 1 f fd ["_law_script", "_law_k"] (spD K 2 sem__law_cell_at) :=
  fn_data (N := ["_law_script", "_law_k"]) (g := g__law_cell_at) F sc__law_cell_at rfl fun cdv A outer s H E hr => by
  have hu := room80 hr
  exact (dss_cons (ds_if (t_lt (de_var 1) (e_len B (by rfl) (da_cons (de_var 0) da_nil))) (dss_one (ds_ret (e_ix (de_var 0) (de_var 1)))) dss_nil)
    (dss_one (ds_ret de_int)))
theorem sc__law_state : FnScope ["_law_script", "_law_k", "_law_cell"] ["_law_script", "_law_k"] (defScope (top 22)) := ⟨rfl, rfl, rfl, by decide +kernel, rfl, by decide +kernel, by decide +kernel⟩
theorem ok__law_state {f : Addr} {fd : FuncData} (F : Fun K "_law_state" "_law_state" (top 22) f fd) (B : Bl mg) (F__law_cell_at : Fn P w K mg base 1 "_law_cell_at" ["_law_script", "_law_k"] 2 sem__law_cell_at) : FnOk P w K mg base CX0 2 f fd ["_law_script", "_law_k"] (spD K 2 sem__law_state) :=
  fn_data (N := ["_law_script", "_law_k", "_law_cell"]) (g := g__law_state) F sc__law_state rfl fun cdv A outer s H E hr => by
  have hu := room80 hr
  exact (dss_cons (ds_set (i := 2) sc__law_state.nd rfl (by first | exact Or.inl rfl | exact Or.inr rfl) (de_callF F__law_cell_at hr (by decide) (by rfl) (da_cons (de_var 0) (da_cons (de_var 1) da_nil))))
    (dss_cons (ds_if (t_ge (de_var 2) (e_pow de_int de_int)) (dss_one (ds_ret (de_lst (da_cons (e_sub (de_var 2) (e_pow de_int de_int)) (da_cons de_bl da_nil))))) dss_nil)
    (dss_one (ds_ret (de_lst (da_cons (e_mod (de_var 2) de_int) (da_cons de_bl da_nil)))))))
theorem sc__law_take : FnScope ["_law_state_here", "_law_many", "_law_found", "_law_mixed"] ["_law_state_here", "_law_many"] (defScope (top 23)) := ⟨rfl, rfl, rfl, by decide +kernel, rfl, by decide +kernel, by decide +kernel⟩
theorem ok__law_take {f : Addr} {fd : FuncData} (F : Fun K "_law_take" "_law_take" (top 23) f fd) (B : Bl mg) : FnOk P w K mg base CX0 1 f fd ["_law_state_here", "_law_many"] (spD K 2 sem__law_take) :=
  fn_data (N := ["_law_state_here", "_law_many", "_law_found", "_law_mixed"]) (g := g__law_take) F sc__law_take rfl fun cdv A outer s H E hr => by
  have hu := room80 hr
  exact (dss_cons (ds_if (dt_truth (e_ix (de_var 0) de_int)) (dss_cons (ds_set (i := 2) sc__law_take.nd rfl (by first | exact Or.inl rfl | exact Or.inr rfl) (e_mod (e_ix (de_var 0) de_int) (de_var 1)))
    (dss_cons (ds_put (de_var 0) de_int (e_div (e_ix (de_var 0) de_int) (de_var 1)))
    (dss_one (ds_ret (de_var 2))))) dss_nil)
    (dss_cons (ds_put (de_var 0) de_int (e_mod (e_add (e_mul (e_ix (de_var 0) de_int) de_int) de_int) de_int))
    (dss_cons (ds_set (i := 3) sc__law_take.nd rfl (by first | exact Or.inl rfl | exact Or.inr rfl) (e_mod (e_add (e_add (e_mul (e_ix (de_var 0) de_int) (e_ix (de_var 0) de_int)) (e_mul de_int (e_ix (de_var 0) de_int))) de_int) de_int))
    (dss_cons (ds_set (i := 3) sc__law_take.nd rfl (by first | exact Or.inl rfl | exact Or.inr rfl) (e_mod (e_add (e_mul (de_var 3) (de_var 3)) (e_mul de_int (de_var 3))) de_int))
    (dss_one (ds_ret (e_mod (e_div (de_var 3) de_int) (de_var 1))))))))
theorem sc__law_pairs : FnScope ["_law_places", "_law_found", "_law_a", "_law_b"] ["_law_places"] (defScope (top 24)) := ⟨rfl, rfl, rfl, by decide +kernel, rfl, by decide +kernel, by decide +kernel⟩
theorem ok__law_pairs {f : Addr} {fd : FuncData} (F : Fun K "_law_pairs" "_law_pairs" (top 24) f fd) (B : Bl mg) : FnOk P w K mg base CX0 1 f fd ["_law_places"] (spD K 1 sem__law_pairs) :=
  fn_data (N := ["_law_places", "_law_found", "_law_a", "_law_b"]) (g := g__law_pairs) F sc__law_pairs rfl fun cdv A outer s H E hr => by
  have hu := room80 hr
  exact (dss_cons (ds_setB (i := 1) sc__law_pairs.nd rfl (by first | exact Or.inl rfl | exact Or.inr rfl) (de_lst da_nil))
    (dss_cons (ds_for PassesOwn.never rfl (di_range1 (by rfl) B.range (da_cons (de_var 0) da_nil)) (dg_name (i := 2) sc__law_pairs.nd rfl (by first | exact Or.inl rfl | exact Or.inr rfl)) (dss_one (ds_expr (de_extend (de_var 1) (da_cons (de_lc rfl sc__law_pairs.nd (di_range2 (by rfl) B.range (da_cons (e_add (de_var 2) de_int) (da_cons (de_var 0) da_nil))) (blkOk_by (own := [("_law_b", 3)]) (by first | (show blkC ["_law_places", "_law_found", "_law_a", "_law_b"] (defScope (top 24)) _ _ = true; decide +kernel) | rfl)) (fun _ _ _ _ _ => (dg_name (i := 3) sc__law_pairs.nd rfl (by first | exact Or.inl rfl | exact Or.inr rfl))) (fun _ _ _ _ _ => dts_nil) (fun _ _ _ _ _ => (de_tup (da_cons (de_var 2) (da_cons (de_var 3) da_nil))))) da_nil)))))
    (dss_one (ds_ret (de_var 1)))))
theorem sc__law_order : FnScope ["_law_state_here", "_law_many", "_law_left", "_law_k"] ["_law_state_here", "_law_many"] (defScope (top 25)) := ⟨rfl, rfl, rfl, by decide +kernel, rfl, by decide +kernel, by decide +kernel⟩
theorem ok__law_order {f : Addr} {fd : FuncData} (F : Fun K "_law_order" "_law_order" (top 25) f fd) (B : Bl mg) (F__law_take : Fn P w K mg base 1 "_law_take" ["_law_state_here", "_law_many"] 2 sem__law_take) : FnOk P w K mg base CX0 2 f fd ["_law_state_here", "_law_many"] (spD K 2 sem__law_order) :=
  fn_data (N := ["_law_state_here", "_law_many", "_law_left", "_law_k"]) (g := g__law_order) F sc__law_order rfl fun cdv A outer s H E hr => by
  have hu := room80 hr
  exact (dss_cons (ds_setB (i := 2) sc__law_order.nd rfl (by first | exact Or.inl rfl | exact Or.inr rfl) (de_listRng rfl (by rfl) B.list (by rfl) B.range (da_cons (de_var 1) da_nil)))
    (dss_one (ds_ret (e_tuple B (by rfl) (da_cons (de_lc rfl sc__law_order.nd (di_range1 (by rfl) B.range (da_cons (de_var 1) da_nil)) (blkOk_by (own := [("_law_k", 3)]) (by first | (show blkC ["_law_state_here", "_law_many", "_law_left", "_law_k"] (defScope (top 25)) _ _ = true; decide +kernel) | rfl)) (fun _ _ _ _ _ => (dg_name (i := 3) sc__law_order.nd rfl (by first | exact Or.inl rfl | exact Or.inr rfl))) (fun _ _ _ _ _ => dts_nil) (fun _ _ _ _ _ => (de_popAt (de_var 2) (da_cons (de_callF F__law_take hr (by decide) (by rfl) (da_cons (de_var 0) (da_cons (e_len B (by rfl) (da_cons (de_var 2) da_nil)) da_nil))) da_nil)))) da_nil)))))
theorem sc__law_web : FnScope ["_law_state_here", "_law_least", "_law_most", "_law_places", "_law_kind", "_law_order_here", "_law_full", "_law_ties", "_law_found", "_law_pair", "_law_place", "_law_a", "_law_b"] ["_law_state_here", "_law_least", "_law_most"] (defScope (top 26)) := ⟨rfl, rfl, rfl, by decide +kernel, rfl, by decide +kernel, by decide +kernel⟩
theorem ok__law_web {f : Addr} {fd : FuncData} (F : Fun K "_law_web" "_law_web" (top 26) f fd) (B : Bl mg) (F__law_take : Fn P w K mg base 1 "_law_take" ["_law_state_here", "_law_many"] 2 sem__law_take) (F__law_pairs : Fn P w K mg base 1 "_law_pairs" ["_law_places"] 1 sem__law_pairs) (F__law_order : Fn P w K mg base 2 "_law_order" ["_law_state_here", "_law_many"] 2 sem__law_order) : FnOk P w K mg base CX0 3 f fd ["_law_state_here", "_law_least", "_law_most"] (spD K 3 sem__law_web) :=
  fn_data (N := ["_law_state_here", "_law_least", "_law_most", "_law_places", "_law_kind", "_law_order_here", "_law_full", "_law_ties", "_law_found", "_law_pair", "_law_place", "_law_a", "_law_b"]) (g := g__law_web) F sc__law_web rfl fun cdv A outer s H E hr => by
  have hu := room80 hr
  exact (dss_cons (ds_set (i := 3) sc__law_web.nd rfl (by first | exact Or.inl rfl | exact Or.inr rfl) (e_add (de_var 1) (de_callF F__law_take hr (by decide) (by rfl) (da_cons (de_var 0) (da_cons (e_add (e_sub (de_var 2) (de_var 1)) de_int) da_nil)))))
    (dss_cons (ds_set (i := 4) sc__law_web.nd rfl (by first | exact Or.inl rfl | exact Or.inr rfl) (de_callF F__law_take hr (by decide) (by rfl) (da_cons (de_var 0) (da_cons de_int da_nil))))
    (dss_cons (ds_set (i := 5) sc__law_web.nd rfl (by first | exact Or.inl rfl | exact Or.inr rfl) (de_callF F__law_order hr (by decide) (by rfl) (da_cons (de_var 0) (da_cons (de_var 3) da_nil))))
    (dss_cons (ds_set (i := 6) sc__law_web.nd rfl (by first | exact Or.inl rfl | exact Or.inr rfl) (e_ix (de_lst (da_cons de_int (da_cons de_int (da_cons de_int (da_cons de_int da_nil))))) (de_callF F__law_take hr (by decide) (by rfl) (da_cons (de_var 0) (da_cons de_int da_nil)))))
    (dss_cons (ds_setLc (i := 7) rfl sc__law_web.nd rfl rfl (sw_true rfl rfl rfl rfl) (di_seq (de_callF F__law_pairs hr (by decide) (by rfl) (da_cons (de_var 3) da_nil))) (blkOk_by (own := [("_law_pair", 9)]) (by first | (show blkC ["_law_state_here", "_law_least", "_law_most", "_law_places", "_law_kind", "_law_order_here", "_law_full", "_law_ties", "_law_found", "_law_pair", "_law_place", "_law_a", "_law_b"] (defScope (top 26)) _ _ = true; decide +kernel) | rfl)) (fun _ _ _ _ _ => (dg_name (i := 9) sc__law_web.nd rfl (by first | exact Or.inl rfl | exact Or.inr rfl))) (fun _ _ _ _ _ => (dts_one (t_lt (de_callF F__law_take hr (by decide) (by rfl) (da_cons (de_var 0) (da_cons de_int da_nil))) (de_var 6)))) (fun _ _ _ _ _ => (de_var 9)))
    (dss_cons (ds_if (t_in hu (de_var 4) (de_tup (da_cons de_int (da_cons de_int (da_cons de_int da_nil))))) (dss_cons (ds_setLc (i := 7) rfl sc__law_web.nd rfl rfl (sw_true rfl rfl rfl rfl) (di_range2 (by rfl) B.range (da_cons de_int (da_cons (de_var 3) da_nil))) (blkOk_by (own := [("_law_place", 10)]) (by first | (show blkC ["_law_state_here", "_law_least", "_law_most", "_law_places", "_law_kind", "_law_order_here", "_law_full", "_law_ties", "_law_found", "_law_pair", "_law_place", "_law_a", "_law_b"] (defScope (top 26)) _ _ = true; decide +kernel) | rfl)) (fun _ _ _ _ _ => (dg_name (i := 10) sc__law_web.nd rfl (by first | exact Or.inl rfl | exact Or.inr rfl))) (fun _ _ _ _ _ => dts_nil) (fun _ _ _ _ _ => (de_tup (da_cons (de_callF F__law_take hr (by decide) (by rfl) (da_cons (de_var 0) (da_cons (de_var 10) da_nil))) (da_cons (de_var 10) da_nil)))))
    (dss_one (ds_if (t_eq hu (de_var 4) de_int) (dss_one (ds_set (i := 7) sc__law_web.nd rfl (by first | exact Or.inl rfl | exact Or.inr rfl) (e_cat (de_var 7) (de_lc rfl sc__law_web.nd (di_seq (de_callF F__law_pairs hr (by decide) (by rfl) (da_cons (de_var 3) da_nil))) (blkOk_by (own := [("_law_pair", 9)]) (by first | (show blkC ["_law_state_here", "_law_least", "_law_most", "_law_places", "_law_kind", "_law_order_here", "_law_full", "_law_ties", "_law_found", "_law_pair", "_law_place", "_law_a", "_law_b"] (defScope (top 26)) _ _ = true; decide +kernel) | rfl)) (fun _ _ _ _ _ => (dg_name (i := 9) sc__law_web.nd rfl (by first | exact Or.inl rfl | exact Or.inr rfl))) (fun _ _ _ _ _ => (dts_one (t_eq hu (de_callF F__law_take hr (by decide) (by rfl) (da_cons (de_var 0) (da_cons de_int da_nil))) de_int))) (fun _ _ _ _ _ => (de_var 9)))))) dss_nil))) dss_nil)
    (dss_cons (ds_if (DW.dt (dw_and (t_eq hu (de_var 4) de_int) (dw_and1 (t_gt (de_var 3) de_int)))) (dss_one (ds_set (i := 7) sc__law_web.nd rfl (by first | exact Or.inl rfl | exact Or.inr rfl) (e_cat (de_lc rfl sc__law_web.nd (di_range1 (by rfl) B.range (da_cons (e_sub (de_var 3) de_int) da_nil)) (blkOk_by (own := [("_law_place", 10)]) (by first | (show blkC ["_law_state_here", "_law_least", "_law_most", "_law_places", "_law_kind", "_law_order_here", "_law_full", "_law_ties", "_law_found", "_law_pair", "_law_place", "_law_a", "_law_b"] (defScope (top 26)) _ _ = true; decide +kernel) | rfl)) (fun _ _ _ _ _ => (dg_name (i := 10) sc__law_web.nd rfl (by first | exact Or.inl rfl | exact Or.inr rfl))) (fun _ _ _ _ _ => dts_nil) (fun _ _ _ _ _ => (de_tup (da_cons (de_var 10) (da_cons (e_add (de_var 10) de_int) da_nil))))) (de_lst (da_cons (de_tup (da_cons de_int (da_cons (e_sub (de_var 3) de_int) da_nil))) da_nil))))) dss_nil)
    (dss_cons (ds_if (t_eq hu (de_var 4) de_int) (dss_one (ds_set (i := 7) sc__law_web.nd rfl (by first | exact Or.inl rfl | exact Or.inr rfl) (e_ix (de_lst (da_cons (de_lc rfl sc__law_web.nd (di_range2 (by rfl) B.range (da_cons de_int (da_cons (de_var 3) da_nil))) (blkOk_by (own := [("_law_place", 10)]) (by first | (show blkC ["_law_state_here", "_law_least", "_law_most", "_law_places", "_law_kind", "_law_order_here", "_law_full", "_law_ties", "_law_found", "_law_pair", "_law_place", "_law_a", "_law_b"] (defScope (top 26)) _ _ = true; decide +kernel) | rfl)) (fun _ _ _ _ _ => (dg_name (i := 10) sc__law_web.nd rfl (by first | exact Or.inl rfl | exact Or.inr rfl))) (fun _ _ _ _ _ => dts_nil) (fun _ _ _ _ _ => (de_tup (da_cons de_int (da_cons (de_var 10) da_nil))))) (da_cons (de_callF F__law_pairs hr (by decide) (by rfl) (da_cons (de_var 3) da_nil)) da_nil))) (de_callF F__law_take hr (by decide) (by rfl) (da_cons (de_var 0) (da_cons de_int da_nil)))))) dss_nil)
    (dss_cons (ds_setLc (i := 8) rfl sc__law_web.nd rfl rfl (sw_true rfl rfl rfl rfl) (di_seq (de_var 7)) (blkOk_by (own := [("_law_a", 11), ("_law_b", 12)]) (by first | (show blkC ["_law_state_here", "_law_least", "_law_most", "_law_places", "_law_kind", "_law_order_here", "_law_full", "_law_ties", "_law_found", "_law_pair", "_law_place", "_law_a", "_law_b"] (defScope (top 26)) _ _ = true; decide +kernel) | rfl)) (fun _ _ _ _ _ => (dg_tup rfl (dgs_cons (dg_name (i := 11) sc__law_web.nd rfl (by first | exact Or.inl rfl | exact Or.inr rfl)) (dgs_cons (dg_name (i := 12) sc__law_web.nd rfl (by first | exact Or.inl rfl | exact Or.inr rfl)) dgs_nil)))) (fun _ _ _ _ _ => dts_nil) (fun _ _ _ _ _ => (de_tup (da_cons (e_min B rfl (by rfl) (da_cons (e_ix (de_var 5) (de_var 11)) (da_cons (e_ix (de_var 5) (de_var 12)) da_nil))) (da_cons (e_max B rfl (by rfl) (da_cons (e_ix (de_var 5) (de_var 11)) (da_cons (e_ix (de_var 5) (de_var 12)) da_nil))) da_nil)))))
    (dss_one (ds_ret (de_tup (da_cons (de_var 3) (da_cons (e_tuple B (by rfl) (da_cons (de_sortSet hu rfl (by rfl) B.sorted (by rfl) B.set (de_var 8)) da_nil)) da_nil))))))))))))))
theorem sc__law_web_text : FnScope ["_law_web_here", "_law_a", "_law_b"] ["_law_web_here"] (defScope (top 27)) := ⟨rfl, rfl, rfl, by decide +kernel, rfl, by decide +kernel, by decide +kernel⟩
theorem ok__law_web_text {f : Addr} {fd : FuncData} (F : Fun K "_law_web_text" "_law_web_text" (top 27) f fd) (B : Bl mg) : FnOk P w K mg base CX0 1 f fd ["_law_web_here"] (spD K 1 sem__law_web_text) :=
  fn_data (N := ["_law_web_here", "_law_a", "_law_b"]) (g := g__law_web_text) F sc__law_web_text rfl fun cdv A outer s H E hr => by
  have hu := room80 hr
  exact (dss_one (ds_ret (de_join de_str (e_cat (de_lst (da_cons (e_addS (e_strI B.str (by rfl) (da_cons (e_ix (de_var 0) de_int) da_nil)) de_str) da_nil)) (de_lc rfl sc__law_web_text.nd (di_seq (e_ix (de_var 0) de_int)) (blkOk_by (own := [("_law_a", 1), ("_law_b", 2)]) (by first | (show blkC ["_law_web_here", "_law_a", "_law_b"] (defScope (top 27)) _ _ = true; decide +kernel) | rfl)) (fun _ _ _ _ _ => (dg_tup rfl (dgs_cons (dg_name (i := 1) sc__law_web_text.nd rfl (by first | exact Or.inl rfl | exact Or.inr rfl)) (dgs_cons (dg_name (i := 2) sc__law_web_text.nd rfl (by first | exact Or.inl rfl | exact Or.inr rfl)) dgs_nil)))) (fun _ _ _ _ _ => dts_nil) (fun _ _ _ _ _ => (e_addS (e_addS (e_strI B.str (by rfl) (da_cons (de_var 1) da_nil)) de_str) (e_strI B.str (by rfl) (da_cons (de_var 2) da_nil)))))))))
theorem sc__law_row_text : FnScope ["_law_row", "_law_place"] ["_law_row"] (defScope (top 28)) := ⟨rfl, rfl, rfl, by decide +kernel, rfl, by decide +kernel, by decide +kernel⟩
theorem ok__law_row_text {f : Addr} {fd : FuncData} (F : Fun K "_law_row_text" "_law_row_text" (top 28) f fd) (B : Bl mg) : FnOk P w K mg base CX0 1 f fd ["_law_row"] (spD K 1 sem__law_row_text) :=
  fn_data (N := ["_law_row", "_law_place"]) (g := g__law_row_text) F sc__law_row_text rfl fun cdv A outer s H E hr => by
  have hu := room80 hr
  exact (dss_one (ds_ret (de_if (t_eq hu (de_var 0) (de_tup da_nil)) de_str (de_join de_str (de_lc rfl sc__law_row_text.nd (di_seq (de_var 0)) (blkOk_by (own := [("_law_place", 1)]) (by first | (show blkC ["_law_row", "_law_place"] (defScope (top 28)) _ _ = true; decide +kernel) | rfl)) (fun _ _ _ _ _ => (dg_name (i := 1) sc__law_row_text.nd rfl (by first | exact Or.inl rfl | exact Or.inr rfl))) (fun _ _ _ _ _ => dts_nil) (fun _ _ _ _ _ => (e_strI B.str (by rfl) (da_cons (de_var 1) da_nil))))))))
theorem sc__law_plain : FnScope ["_law_thing", "_law_part"] ["_law_thing"] (defScope (top 29)) := ⟨rfl, rfl, rfl, by decide +kernel, rfl, by decide +kernel, by decide +kernel⟩
theorem ok__law_plain {f : Addr} {fd : FuncData} (F : Fun K "_law_plain" "_law_plain" (top 29) f fd) (B : Bl mg) (hm : mg "_law_plain" = some (.ref f)) (hk : PySem.W.keepIn K (.ref f) = true) (hb : Binds K fd ["_law_thing"] []) : ∀ n, FnOk P w K mg base CX0 (0 + n) f fd ["_law_thing"] (spD K 1 (semr__law_plain n))
  | 0 => ⟨fun vs H Q E h => (by obtain ⟨_, _, _, _, _, _, _, _, h, _⟩ := h; cases h), fun A outer s H args us vs Q E hr he hb hv hs => (by obtain ⟨_, _, _, _, _, _, _, _, h, _⟩ := hs; cases h)⟩
  | n + 1 => by
    have ih := ok__law_plain F B hm hk hb n
    have F__law_plain : Fn P w K mg base (0 + n) "_law_plain" ["_law_thing"] 1 (semr__law_plain n) := ⟨f, fd, ih, hm, hk, hb⟩
    exact fn_data (N := ["_law_thing", "_law_part"]) (g := g__law_plain (semr__law_plain n)) F sc__law_plain rfl fun cdv A outer s H E hr => by
      have hu := room80 hr
      exact (dss_cons (ds_if (dt_truth (de_isinst kit_tup (by rfl) B.isinstance (by rfl) B.tuple rfl (de_var 0))) (dss_one (ds_ret (e_eq hu (de_lc rfl sc__law_plain.nd (di_seq (de_var 0)) (blkOk_by (own := [("_law_part", 1)]) (by first | (show blkC ["_law_thing", "_law_part"] (defScope (top 29)) _ _ = true; decide +kernel) | rfl)) (fun _ _ _ _ _ => (dg_name (i := 1) sc__law_plain.nd rfl (by first | exact Or.inl rfl | exact Or.inr rfl))) (fun _ _ _ _ _ => (dts_one (dt_not (dt_truth (de_callF F__law_plain hr (by show _ ≤ 0 + n; omega) (by rfl) (da_cons (de_var 1) da_nil)))))) (fun _ _ _ _ _ => (de_var 1))) (de_lst da_nil)))) dss_nil)
    (dss_one (ds_ret (de_and (de_isinst kit_int (by rfl) B.isinstance (by rfl) B.int rfl (de_var 0)) (de_one (de_not (de_isinst kit_bool (by rfl) B.isinstance (by rfl) B.bool rfl (de_var 0))))))))
theorem sc_law : FnScope ["_law_script", "_law_k", "_law_state_here", "_law_web_here", "_law_row", "_law_found", "_law_turn"] ["_law_script"] (defScope (top 30)) := ⟨rfl, rfl, rfl, by decide +kernel, rfl, by decide +kernel, by decide +kernel⟩
theorem ok_law {f : Addr} {fd : FuncData} (F : Fun K "law" "law" (top 30) f fd) (B : Bl mg) (F_web_text : Fn P w K mg base 1 "web_text" ["web"] 1 sem_web_text) (F_row_text : Fn P w K mg base 1 "row_text" ["row"] 1 sem_row_text) (F_web_read : Fn P w K mg base 5 "web_read" ["text"] 1 sem_web_read) (F_row_read : Fn P w K mg base 3 "row_read" ["text"] 1 sem_row_read) (F__law_state : Fn P w K mg base 2 "_law_state" ["_law_script", "_law_k"] 2 sem__law_state) (F__law_take : Fn P w K mg base 1 "_law_take" ["_law_state_here", "_law_many"] 2 sem__law_take) (F__law_web : Fn P w K mg base 3 "_law_web" ["_law_state_here", "_law_least", "_law_most"] 3 sem__law_web) (F__law_web_text : Fn P w K mg base 1 "_law_web_text" ["_law_web_here"] 1 sem__law_web_text) (F__law_row_text : Fn P w K mg base 1 "_law_row_text" ["_law_row"] 1 sem__law_row_text) (F__law_plain : Fn P w K mg base 4 "_law_plain" ["_law_thing"] 1 sem__law_plain) : FnOk P w K mg base CX0 6 f fd ["_law_script"] (spD K 1 sem_law) :=
  fn_data (N := ["_law_script", "_law_k", "_law_state_here", "_law_web_here", "_law_row", "_law_found", "_law_turn"]) (g := g_law) F sc_law rfl fun cdv A outer s H E hr => by
  have hu := room80 hr
  exact (dss_cons (ds_for PassesOwn.never rfl (di_range1 (by rfl) B.range (da_cons (e_max B rfl (by rfl) (da_cons de_int (da_cons (e_min B rfl (by rfl) (da_cons (e_len B (by rfl) (da_cons (de_var 0) da_nil)) (da_cons de_int da_nil))) da_nil))) da_nil)) (dg_name (i := 1) sc_law.nd rfl (by first | exact Or.inl rfl | exact Or.inr rfl)) (dss_cons (ds_setB (i := 2) sc_law.nd rfl (by first | exact Or.inl rfl | exact Or.inr rfl) (de_callF F__law_state hr (by decide) (by rfl) (da_cons (de_var 0) (da_cons (de_var 1) da_nil))))
    (dss_cons (ds_set (i := 3) sc_law.nd rfl (by first | exact Or.inl rfl | exact Or.inr rfl) (de_callF F__law_web hr (by decide) (by rfl) (da_cons (de_var 2) (da_cons de_int (da_cons de_int da_nil)))))
    (dss_cons (ds_set (i := 4) sc_law.nd rfl (by first | exact Or.inl rfl | exact Or.inr rfl) (e_tuple B (by rfl) (da_cons (de_lc rfl sc_law.nd (di_range1 (by rfl) B.range (da_cons (e_ix (de_lst (da_cons de_int (da_cons de_int (da_cons de_int (da_cons de_int (da_cons de_int da_nil)))))) (de_callF F__law_take hr (by decide) (by rfl) (da_cons (de_var 2) (da_cons de_int da_nil)))) da_nil)) (blkOk_by (own := [("_law_turn", 6)]) (by first | (show blkC ["_law_script", "_law_k", "_law_state_here", "_law_web_here", "_law_row", "_law_found", "_law_turn"] (defScope (top 30)) _ _ = true; decide +kernel) | rfl)) (fun _ _ _ _ _ => (dg_name (i := 6) sc_law.nd rfl (by first | exact Or.inl rfl | exact Or.inr rfl))) (fun _ _ _ _ _ => dts_nil) (fun _ _ _ _ _ => (de_callF F__law_take hr (by decide) (by rfl) (da_cons (de_var 2) (da_cons de_int da_nil))))) da_nil)))
    (dss_cons (ds_if (DW.dt (dw_or (t_ne hu (de_callF F_web_text hr (by decide) (by rfl) (da_cons (de_var 3) da_nil)) (de_callF F__law_web_text hr (by decide) (by rfl) (da_cons (de_var 3) da_nil))) (dw_or1 (t_ne hu (de_callF F_row_text hr (by decide) (by rfl) (da_cons (de_var 4) da_nil)) (de_callF F__law_row_text hr (by decide) (by rfl) (da_cons (de_var 4) da_nil)))))) (dss_one (ds_ret de_bl)) dss_nil)
    (dss_cons (ds_set (i := 5) sc_law.nd rfl (by first | exact Or.inl rfl | exact Or.inr rfl) (de_callF F_web_read hr (by decide) (by rfl) (da_cons (de_callF F__law_web_text hr (by decide) (by rfl) (da_cons (de_var 3) da_nil)) da_nil)))
    (dss_cons (ds_if (DW.dt (dw_or (t_ne hu (de_var 5) (de_var 3)) (dw_or1 (dt_not (dt_truth (de_callF F__law_plain hr (by decide) (by rfl) (da_cons (de_var 5) da_nil))))))) (dss_one (ds_ret de_bl)) dss_nil)
    (dss_cons (ds_set (i := 5) sc_law.nd rfl (by first | exact Or.inl rfl | exact Or.inr rfl) (de_callF F_row_read hr (by decide) (by rfl) (da_cons (de_callF F__law_row_text hr (by decide) (by rfl) (da_cons (de_var 4) da_nil)) da_nil)))
    (dss_one (ds_if (DW.dt (dw_or (t_ne hu (de_var 5) (de_var 4)) (dw_or1 (dt_not (dt_truth (de_callF F__law_plain hr (by decide) (by rfl) (da_cons (de_var 5) da_nil))))))) (dss_one (ds_ret de_bl)) dss_nil))))))))))
    (dss_one (ds_ret (de_and (e_eq hu (de_callF F_web_text hr (by decide) (by rfl) (da_cons (de_tup (da_cons de_int (da_cons (de_tup da_nil) da_nil))) da_nil)) de_str) (de_one (e_eq hu (de_callF F_row_text hr (by decide) (by rfl) (da_cons (de_tup da_nil) da_nil)) de_str))))))
end
end K91
end DL

set_option linter.all false
set_option maxRecDepth 100000
/-! ### defs as values -/
namespace DL
open PySem PySem.Spec L2 DWK
section
variable {X : Cx} {x : Str} {p pos : Pos} {e : Expr} {es : List Expr} {fr : FA}
end
end DL

set_option linter.all false
set_option maxRecDepth 100000
/-! ### {web: True} -/
namespace DL
open PySem PySem.Spec L2 DWK
section
variable {X : Cx} {pos : Pos}
end
end DL

set_option linter.all false
set_option maxRecDepth 100000
/-! ### ranks by spans -/
namespace DL
open PySem PySem.Spec L2
section
variable {t : TL} {sd : List Int}
end
end DL

set_option linter.all false
set_option maxRecDepth 100000
/-! ### rows as bits; rows mapped -/
namespace DL
open PySem PySem.Spec L2
end DL

set_option linter.all false
set_option maxRecDepth 100000
/-! ### one place more -/
namespace DL
open PySem PySem.Spec L2
section
variable {m : Nat} {t : TL} {sd sd' : List Int}
end
end DL

set_option linter.all false
set_option maxRecDepth 100000
/-! ### the rank of the rest -/
namespace DL
open PySem PySem.Spec L2
section
variable {m : Nat} {t : TL} {sd re : List Int}
end
end DL

set_option linter.all false
set_option maxRecDepth 100000
/-! ### ranks stay under turns -/
namespace DL
open PySem PySem.Spec L2
section
variable {m : Nat} {t : TL} {sd : List Int}
end
end DL

set_option linter.all false
set_option maxRecDepth 100000
/-! ### the counts sum up -/
namespace DL
open PySem PySem.Spec L2
end DL

set_option linter.all false
set_option maxRecDepth 100000
namespace DL
open PySem PySem.Spec L2
namespace RC
section
variable {m : Nat} {t : TL}
end
end RC
end DL

set_option linter.all false
set_option maxRecDepth 100000
/-! ### rank 0: the side holds whole pieces -/
namespace DL
open PySem PySem.Spec L2
end DL

set_option linter.all false
set_option maxRecDepth 100000
/-! ### how many sides have rank 0 -/
namespace DL
open PySem PySem.Spec L2
section
variable {m : Nat} {t : TL} {sd : List Int}
end
end DL

set_option linter.all false
set_option maxRecDepth 100000
/-! ### the first side that tells two webs apart -/
namespace DL
open PySem PySem.Spec L2
section
variable {m : Nat} {t u : TL}
end
end DL

set_option linter.all false
set_option maxRecDepth 100000
/-! ### the law's own way through all sides -/
namespace DL
open PySem PySem.Spec L2
namespace LS
open RC
section
variable {m : Nat}
end
end LS
end DL

set_option linter.all false
set_option maxRecDepth 100000
/-! ### walking by steps, with a stack: what is found -/
namespace DL
open PySem PySem.Spec L2
namespace SW
section
variable {m : Int} {S : Bxs} {E : List TL} {t : TL} {x : DV}
end
/-! what steps lead to -/
/-! the walk -/
section
variable {m : Nat} {f : TL → List TL} {t0 : TL}
end
/-! the readings -/
section
variable {m : Nat} {S : Bxs} {b l : Nat} {s : List TL × List TL}
end
section
variable {m : Nat} {S : Bxs} {b l d fr w : Nat} {s : List TL × List TL} {t : TL} {ε : DEnv}
end
end SW
end DL

set_option linter.all false
set_option maxRecDepth 100000
/-! ### refusals, run -/
namespace DL
open PySem PySem.Spec L2
section
variable {gx gy : FX} {f : FE} {fr : FA} {ft : FT} {g : FS} {ε ε1 : DEnv} {S S1 S2 S' : Bxs} {k n m : Nat} {dv : DV} {xs : List DV} {sem : SemX}
end
end DL

set_option linter.all false
set_option maxRecDepth 100000
/-! ### sorting, for any keys that are read -/
namespace TW
open PySem PySem.Spec PyProof.Rows DL DWK SE
/-- keys: how they lie, their order, and that the machine asks it -/
structure SKy (κ : Type) where
  D : κ → PyData
  z : κ
  lt : κ → κ → Bool
  kd : SortKind
  okb : List κ → Bool
  rd : PyData → Option κ
  rd_eq : ∀ d k, rd d = some k → d = D k
  tup : ∀ k, ∃ ds, D k = .tuple ds
  isk : ∀ k, isK (D k) = true
  inj : ∀ a b, D a = D b → a = b
  irr : ∀ a, lt a a = false
  tr : ∀ a b c, lt a b = true → lt b c = true → lt a c = true
  total : ∀ a b, lt a b = false → lt b a = false → a = b
  ask : ∀ (prog : Program) (w : World) (A : Around) (E : Value → Shared → Prop) (s : Shared) (x y : Value) (a b : κ) (as bs : List Addr) (Q : Bool → Shared → Prop), Reads s.heap x (D a) as → Reads s.heap y (D b) bs → A.units + 8 < cLine → Q (lt a b) s → wpAny (model prog w) A (keyLt' kd x y) Q E s
  kind : ∀ (prog : Program) (w : World) (A : Around) (E : Value → Shared → Prop) (s : Shared) (vs : List Value) (ks : List κ) (Q : SortKind → Shared → Prop), Paired (fun v k => ∃ as, Reads s.heap v (D k) as) vs ks → 2 ≤ vs.length → okb ks = true → Q kd s → wpAny (model prog w) A (keyKind' vs.toArray) Q E s
section
variable {κ : Type} {K : SKy κ}
open Classical in
section
variable {prog : Program} {w : World} {A : Around} {E : Value → Shared → Prop} {s : Shared}
end
end
end TW
namespace DL
open PySem PySem.Spec PyProof.Rows L2 DWK
section
variable {κ : Type} {S : TW.SKy κ} {X : Cx}
end
section
variable {κ : Type} {T : TW.SKy κ} {X : Cx} {e a b : Expr} {fr : FA} {fa fb : FE} {p pos : Pos}
end
end DL

set_option linter.all false
set_option maxRecDepth 100000
/-! ### webs, and tuples of ties, as keys -/
namespace TW
open PySem PySem.Spec PyProof.Rows DL DWK SE
section
variable {prog : Program} {w : World} {A : Around} {E : Value → Shared → Prop} {s : Shared}
end
end TW

set_option linter.all false
set_option maxRecDepth 100000
/-! enumerate of a list that is data -/
namespace DL
open PySem PySem.Spec L2
variable {K : PySem.W.Frag}
section
variable {X : Cx} {e : Expr} {p pos tp : Pos} {fr : FA} {es : List Expr} {kk : Nat}
end
end DL

set_option linter.all false
set_option maxRecDepth 100000
/-! all webs: the defs, as functions of data -/
namespace DL
open PySem PySem.Spec L2 XR
end DL

set_option linter.all false
set_option maxRecDepth 100000
/-! ### all webs of so many places -/
namespace DL
open PySem PySem.Spec L2 XR
namespace AW
section
variable {n : Nat}
end
/-! refused -/
end AW
end DL

set_option linter.all false
set_option maxRecDepth 100000
/-! pivots: the defs, as functions of data -/
namespace DL
open PySem PySem.Spec L2 XR
end DL

set_option linter.all false
set_option maxRecDepth 100000
/-! ### reached: a walk by the steps of a def that is handed on -/
namespace DL
open PySem PySem.Spec L2
namespace SW
section
variable {m : Nat}
end
end SW
end DL

set_option linter.all false
set_option maxRecDepth 100000
/-! ### pivots -/
namespace DL
open PySem PySem.Spec L2
namespace PV
section
variable {m : Nat} {ties : List (List Int)}

/-! a pivot, pair by pair -/
end
end PV
end DL

set_option linter.all false
set_option maxRecDepth 100000
/-! ### pivots by three lots of places -/
namespace DL
open PySem PySem.Spec L2
namespace PV
section
variable {m : Nat} {t : TL} {a b : Int}
/-! the reading -/
end
end PV
end DL

set_option linter.all false
set_option maxRecDepth 100000
namespace DL
open PySem PySem.Spec L2
namespace PV
section
variable {m : Nat} {t : TL} {a b : Int}
end
end PV
end DL

set_option linter.all false
set_option maxRecDepth 100000
namespace DL
open PySem PySem.Spec L2 XR
section
variable {X : Cx} {E : XK} {cls : Nat → Addr} {gx : FX} {elt tg iter : Expr} {ifs : List Expr} {scope : Scope} {own : List (Str × Nat)} {pos : Pos}
end
end DL

set_option linter.all false
set_option maxRecDepth 100000
/-! ### lists of webs: their texts, what is in them -/
namespace DL
open PySem PySem.Spec L2
namespace SW
/-! in a list of webs -/
end SW
end DL

set_option linter.all false
set_option maxRecDepth 100000
/-! ### refusals of large webs; all pivots -/
namespace DL
open PySem PySem.Spec L2 XR
namespace RL
section
variable {m n : Nat} {t u : TL}
end
end RL
namespace PV
open SW
section
variable {m : Nat} {t u : TL}
end
end PV
end DL

set_option linter.all false
set_option maxRecDepth 100000
/-! ### drawing, when only the drawn state is minded -/
namespace DL
open PySem PySem.Spec L2
/-- the drawing state lies at i -/
def St (i : Nat) (X : Bxs) : Prop := ∃ v, X[i]? = some v ∧ StV v
theorem St.new {X : Bxs} {v : List D} (h : StV v) : St X.length (X ++ [v]) := ⟨v, get_end _ _, h⟩
theorem St.set {i : Nat} {X : Bxs} (h : St i X) {v : List D} (hv : StV v) : St i (X.set i v) := by
  obtain ⟨v0, h1, h2⟩ := h
  exact ⟨v, by rw [List.getElem?_set_self (List.getElem?_eq_some_iff.mp h1).1], hv⟩
theorem state_at (ns : List Int) {sc : D} (hs : PyData.list (ns.map .int) = sc) {a b : Nat} (j : Nat) {ε : DEnv} {fb : FE} (ha : ε[a]? = some (some (.dat sc))) (hb : ∀ X, fb ε X = some (.dat (.int j), X)) (X : Bxs) : ∃ v, fCall 2 sem__law_state (fCons (fVar a) (fCons fb fNil)) ε X = some (.lst v, X) ∧ StV v := by
  obtain ⟨v, t1, hv⟩ := state_ok ns j X
  rw [hs] at t1
  exact ⟨v, cl (n := 2) (cns (vr ha) (cns (hb X) nl)) rfl t1, hv⟩
theorem take_st {i k : Nat} {ε : DEnv} {X X1 : Bxs} {f : FE} {many : Int} (he : ε[k]? = some (some (.box i))) (hf : f ε X = some (.dat (.int many), X1)) (h : St i X1) (h1 : 0 < many) (h2 : many < 1073741824) : ∃ r X', fCall 2 sem__law_take (fCons (fVar k) (fCons f fNil)) ε X = some (.dat (.int r), X') ∧ 0 ≤ r ∧ r < many ∧ St i X' ∧ X'.length = X1.length ∧ ∀ j, j ≠ i → X'[j]? = X1[j]? := by
  obtain ⟨v, g, hv⟩ := h
  obtain ⟨r, v', t1, a1, b1, hv'⟩ := take_ok (S := X1) (i := i) (many := many) g hv h1 h2
  exact ⟨r, X1.set i v', cl (n := 2) (cns (vr (dv := .box i) he) (cns hf nl)) rfl t1, a1, b1, St.set ⟨v, g, hv⟩ hv', by rw [List.length_set], fun j hj => List.getElem?_set_ne (Ne.symm hj)⟩
theorem web_st {i k : Nat} {ε : DEnv} {X X1 X2 : Bxs} {f g : FE} {lo hi : Nat} (he : ε[k]? = some (some (.box i))) (hf : f ε X = some (.dat (.int lo), X1)) (hg : g ε X1 = some (.dat (.int hi), X2)) (h : St i X2) (h1 : 1 ≤ lo) (h2 : lo ≤ hi) (h3 : hi ≤ 8) : ∃ (m : Nat) (t : TL) (X' : Bxs), fCall 3 sem__law_web (fCons (fVar k) (fCons f (fCons g fNil))) ε X = some (.dat (webD m t), X') ∧ lo ≤ m ∧ m ≤ hi ∧ Web m t ∧ St i X' ∧ X'.length = X2.length ∧ ∀ j, j ≠ i → X'[j]? = X2[j]? := by
  obtain ⟨v, gt, hv⟩ := h
  obtain ⟨n, t, v', t1, hv', a1, b1, w⟩ := web_ok (S := X2) (i := i) (lo := lo) (hi' := hi) gt hv (by omega) (by omega) (by omega)
  have e : ((n.toNat : Nat) : Int) = n := by omega
  refine ⟨n.toNat, t, X2.set i v', ?_, by omega, by omega, by rw [e]; exact w, St.set ⟨v, gt, hv⟩ hv', by rw [List.length_set], fun j hj => List.getElem?_set_ne (Ne.symm hj)⟩
  rw [e]
  exact cl (n := 3) (cns (vr (dv := .box i) he) (cns hf (cns hg nl))) rfl t1
/-- one of a list of numbers -/
def intsF : List Int → FA
  | [] => fNil
  | a :: l => fCons (fC (.int a)) (intsF l)
theorem intsF_e (l : List Int) (ε : DEnv) (X : Bxs) : intsF l ε X = some (l.map fun a => .dat (.int a), X) := by
  induction l with
  | nil => rfl
  | cons a l ih => exact cns (fC_e _ _ _) ih
theorem toDs_ints (l : List Int) : toDs (l.map fun a => DV.dat (.int a)) = some (l.map PyData.int) := by
  induction l with
  | nil => rfl
  | cons a l ih => rw [List.map_cons]; unfold toDs; rw [ih]; rfl
theorem pick_st {i k : Nat} {ε : DEnv} {X : Bxs} {L : List Int} {c : FE} (he : ε[k]? = some (some (.box i))) (h : St i X) (hc : c = fC (.int L.length)) (h0 : L ≠ []) (hl : L.length ≤ 1000) : ∃ x ∈ L, ∃ X', fOp2 gIx (fLst (intsF L)) (fCall 2 sem__law_take (fCons (fVar k) (fCons c fNil))) ε X = some (.dat (.int x), X') ∧ St i X' ∧ X'.length = X.length ∧ ∀ j, j ≠ i → X'[j]? = X[j]? := by
  subst hc
  have hp : 0 < L.length := List.length_pos_iff.mpr h0
  obtain ⟨r, X', t, a, b, s, le, ot⟩ := take_st (f := fC (.int L.length)) (X := X) (X1 := X) (many := L.length) he (fC_e _ _ _) h (by omega) (by omega)
  have hlt : r.toNat < L.length := by omega
  refine ⟨L[r.toNat], List.getElem_mem hlt, X', op2 (ls (ds := L.map .int) (intsF_e L ε X) (toDs_ints L) (by rw [List.length_map]; omega)) t (gIx_e (ds := L.map .int) rfl a ?_), s, le, ot⟩
  rw [List.getElem?_map, List.getElem?_eq_getElem hlt]; rfl
end DL

set_option linter.all false
set_option maxRecDepth 100000
/-! what is written of a web, of a row, is read as that; rows drawn -/
namespace DL
open PySem PySem.Spec L2 TL
namespace TT
theorem eqDT (S : Bxs) (a b : List Int) : bEq S (.dat (dT a)) (.dat (dT b)) = some (decide (a = b)) := by
  simp [bEq, eqv_dT]
theorem neDT (S : Bxs) (a b : List Int) : bNe S (.dat (dT a)) (.dat (dT b)) = some (!decide (a = b)) := by
  simp [bNe, eqv_dT]
theorem if_t {ft : FT} {fa fb : FE} {ε : DEnv} {S S1 : Bxs} (h : ft ε S = some (true, S1)) : fIf ft fa fb ε S = fa ε S1 := by simp [fIf, h]
theorem if_f {ft : FT} {fa fb : FE} {ε : DEnv} {S S1 : Bxs} (h : ft ε S = some (false, S1)) : fIf ft fa fb ε S = fb ε S1 := by simp [fIf, h]
/-! ### rows written -/
abbrev Figs (row : List Int) : Prop := ∀ p ∈ row, 0 ≤ p ∧ p ≤ 8
theorem fg_len {i : Int} (h0 : 0 ≤ i) (h8 : i ≤ 8) : (fg i).length = 1 := by rw [TT.len_tl, tl_fg h0 h8]; rfl
theorem row_sum {row : List Int} (h : Figs row) (hl : row.length ≤ 1000) : ((row.map fg).map (·.length)).sum + (row.map fg).length * blankS.length ≤ 100000 := by
  have e := sum_le (ys := row.map fg) (k := 1) (by
    intro y hy
    obtain ⟨p, hp, rfl⟩ := List.mem_map.mp hy
    rw [fg_len (h p hp).1 (h p hp).2]; exact Nat.le_refl _)
  have e2 : blankS.length = 1 := by decide +kernel
  rw [e2]
  rw [List.length_map] at e ⊢
  omega
theorem row_words {row : List Int} (h : Figs row) {k : Nat} {fi : FI} {ε : DEnv} {S : Bxs} (hl : row.length ≤ 1000) (hi : fi ε S = some (row.map .int, S)) (hk : ∀ d, ((wipeE ε [k]).set k (some (.dat d)))[k]? = some (some (.dat d))) :
    fComp [k] fi (hName k) fYes (fOpN (g1 gStrI) (fCons (fVar k) fNil)) ε S = some (.lst ((row.map fg).map .str), S) := by
  have e := fComp_map (vs := [k]) (fi := fi) (hg := hName k) (ft := fYes) (fe := fOpN (g1 gStrI) (fCons (fVar k) fNil)) (ε := ε) (S := S) (S0 := S) PyData.int intD (fun _ => rfl) (l := row) (fun _ => true) (fun p => .str (fg p)) hi (by omega) (by
    intro p hp
    exact ⟨_, rfl, fun _ => rfl, fun _ acc => ⟨_, opN (cns (vr (i := k) (hk _)) nl) (strI_e (h p hp).1 (h p hp).2), rfl⟩⟩)
  rw [List.filter_eq_self.mpr (fun _ _ => rfl)] at e
  rw [e, List.map_map]
  rfl
theorem rowS_ne {row : List Int} (h : row ≠ []) : rowS row = Txt.join blankS (row.map fg) := by unfold rowS; rw [if_neg h]; rfl
theorem row_text_eq {row : List Int} (h : Figs row) (hl : row.length ≤ 1000) (S : Bxs) : sem_row_text [.dat (dT row)] S = some (.dat (.str (rowS row)), S) := by
  unfold sem_row_text
  rw [semOf_eq]
  show finOf S (g_row_text [some (.dat (dT row)), none] S) = _
  unfold g_row_text
  by_cases e : row = []
  · subst e
    refine fin_ret ?_ rfl
    exact (if_f (S1 := S) rfl).trans rfl
  · have c1 : fTru (fVar 0) [some (.dat (dT row)), none] S = some (true, S) := by
      cases row with
      | nil => exact absurd rfl e
      | cons _ _ => rfl
    refine fin_ret ?_ rfl
    rw [if_t c1, rowS_ne e]
    exact join_e (fC_e _ _ _) (row_words h hl (it (vr (i := 0) (dv := .dat (dT row)) rfl) rfl rfl) (fun _ => rfl)) rfl (row_sum h hl)
theorem law_row_text_eq {row : List Int} (h : Figs row) (hl : row.length ≤ 1000) (S : Bxs) : sem__law_row_text [.dat (dT row)] S = some (.dat (.str (rowS row)), S) := by
  unfold sem__law_row_text
  rw [semOf_eq]
  show finOf S (g__law_row_text [some (.dat (dT row)), none] S) = _
  unfold g__law_row_text
  have c1 : fCmpT bEq (fVar 0) (fTup fNil) [some (.dat (dT row)), none] S = some (decide (row = []), S) := cmT (vr (dv := .dat (dT row)) rfl) (tp (ds := []) nl rfl (by simp)) (eqDT S row [])
  by_cases e : row = []
  · subst e
    refine fin_ret ?_ rfl
    rw [if_t c1]; rfl
  · rw [decide_eq_false e] at c1
    refine fin_ret ?_ rfl
    rw [if_f c1, rowS_ne e]
    exact join_e (fC_e _ _ _) (row_words h hl (it (vr (i := 0) (dv := .dat (dT row)) rfl) rfl rfl) (fun _ => rfl)) rfl (row_sum h hl)
/-! ### read again -/
theorem fg_no {c : Nat} {i : Int} (h0 : 0 ≤ i) (h8 : i ≤ 8) (hc : c < 48) : c ∉ tl (fg i) := by
  rw [tl_fg h0 h8, List.mem_singleton]; omega
theorem joinL_mem {S : List Nat} {c : Nat} : ∀ {l : List (List Nat)}, c ∈ joinL S l → c ∈ S ∨ ∃ p ∈ l, c ∈ p
  | [], h => by cases h
  | [p], h => .inr ⟨p, List.mem_singleton.mpr rfl, h⟩
  | p :: q :: r, h => by
    have h : c ∈ p ++ (S ++ joinL S (q :: r)) := h
    rcases List.mem_append.mp h with z | z
    · exact .inr ⟨p, List.mem_cons_self, z⟩
    · rcases List.mem_append.mp z with z | z
      · exact .inl z
      · rcases joinL_mem z with y | ⟨p', hp, y⟩
        · exact .inl y
        · exact .inr ⟨p', List.mem_cons_of_mem _ hp, y⟩
theorem asc_join {y : Str} {parts : List Str} (hy : Asc y) (hp : ∀ p ∈ parts, Asc p) : Asc (Txt.join y parts) := by
  intro c hc
  rw [tl_txt] at hc
  rcases joinL_mem hc with z | ⟨p, hm, z⟩
  · exact hy c z
  · obtain ⟨q, hq, rfl⟩ := List.mem_map.mp hm
    exact hp q hq c z
theorem asc_app {x y : Str} (hx : Asc x) (hy : Asc y) : Asc (x ++ y) := by
  intro c hc
  rw [tl_append] at hc
  exact (List.mem_append.mp hc).elim (hx c) (hy c)
theorem blank_asc : Asc blankS := asc_of (by decide +kernel)
theorem dash_asc : Asc dashS := asc_of (by decide +kernel)
def colonS : Str := ":"
theorem colon_asc : Asc colonS := asc_of (by decide +kernel)
theorem asc_tie {m : Int} {t : List Int} (h : TieIn m t) (hm : m ≤ 8) : Asc (tieS t) := by
  obtain ⟨h1, h2, h3, h4⟩ := tie_fig h hm
  exact asc_app (asc_app (asc_fg h1 h2) dash_asc) (asc_fg h3 h4)
theorem asc_web {m : Int} {ties : List (List Int)} (w : Web m ties) (h1 : 1 ≤ m) (hm : m ≤ 8) : Asc (webS m ties) := asc_join blank_asc fun p hp => by
  rcases List.mem_cons.mp hp with rfl | hp
  · exact asc_app (asc_fg (by omega) hm) colon_asc
  · obtain ⟨t, ht, rfl⟩ := List.mem_map.mp hp
    exact asc_tie (w.mem t ht) hm
theorem asc_row {row : List Int} (h : Figs row) : Asc (rowS row) := by
  unfold rowS
  split
  · exact none_asc
  · exact asc_join blank_asc fun p hp => by
      obtain ⟨t, ht, rfl⟩ := List.mem_map.mp hp
      exact asc_fg (h t ht).1 (h t ht).2
theorem joinL_len (S : List Nat) : ∀ l : List (List Nat), (joinL S l).length ≤ (l.map List.length).sum + l.length * S.length
  | [] => by simp [joinL]
  | [p] => by simp [joinL]
  | p :: q :: r => by
    have := joinL_len S (q :: r)
    show (p ++ (S ++ joinL S (q :: r))).length ≤ _
    rw [List.length_append, List.length_append, List.map_cons, List.sum_cons, List.length_cons, Nat.succ_mul]
    omega
theorem join_len (y : Str) (parts : List Str) : (Txt.join y parts).length ≤ (parts.map (·.length)).sum + parts.length * y.length := by
  have := joinL_len (tl y) (parts.map tl)
  rw [TT.len_tl, tl_txt]
  refine Nat.le_trans this ?_
  rw [List.map_map, List.length_map, ← TT.len_tl]
  have e : parts.map (List.length ∘ tl) = parts.map (·.length) := List.map_congr_left fun p _ => (TT.len_tl p).symm
  rw [e]; exact Nat.le_refl _
theorem web_len {m : Int} {ties : List (List Int)} (w : Web m ties) (h1 : 1 ≤ m) (hm : m ≤ 8) : (webS m ties).length ≤ 200 := Nat.le_trans (join_len _ _) (webS_len w h1 hm)
theorem row_len {row : List Int} (h : Figs row) (hl : row.length ≤ 40) : (rowS row).length ≤ 200 := by
  unfold rowS
  split
  · decide +kernel
  · refine Nat.le_trans (join_len _ _) ?_
    have e := sum_le (ys := row.map fg) (k := 1) (by
      intro y hy
      obtain ⟨p, hp, rfl⟩ := List.mem_map.mp hy
      rw [fg_len (h p hp).1 (h p hp).2]; exact Nat.le_refl _)
    have e2 : (" " : Str).length = 1 := by decide +kernel
    rw [e2]
    rw [List.length_map] at e ⊢
    omega
theorem tieR_tie {m : Int} {t : List Int} (h : TieIn m t) (hm : m ≤ 8) : tieR (tieS t) = some t := by
  obtain ⟨h1, h2, h3, h4⟩ := tie_fig h hm
  obtain ⟨a, b, rfl, _⟩ := id h
  change 0 ≤ a at h1
  change a ≤ 8 at h2
  change 0 ≤ b at h3
  change b ≤ 8 at h4
  have e : tieS [a, b] = Txt.join dashS ([a, b].map fg) := by
    refine str_ext ?_
    rw [tl_txt, tl_tie h hm, dash_tl]
    show _ = tl (fg a) ++ ([45] ++ tl (fg b))
    rw [tl_fg h1 h2, tl_fg h3 h4]
    rfl
  unfold tieR
  rw [e, split_join dash_tl dash_ok (by simp) (by
    intro p hp
    obtain ⟨q, hq, rfl⟩ := List.mem_map.mp hp
    have : q = a ∨ q = b := by simpa using hq
    rcases this with rfl | rfl
    · exact fg_no h1 h2 (by decide)
    · exact fg_no h3 h4 (by decide))]
  refine allR_of fun q hq => ?_
  have : q = a ∨ q = b := by simpa using hq
  rcases this with rfl | rfl
  · exact numR_fg h1 h2
  · exact numR_fg h3 h4
theorem headR_fg {m : Int} (h1 : 0 ≤ m) (hm : m ≤ 8) : headR (fg m ++ colonS) = some m := by
  rcases fig_cases h1 hm with h | h | h | h | h | h | h | h | h <;> subst h <;> decide +kernel
theorem chain_up : ∀ {tl : List (List Int)}, Up tl → chainB tl = true
  | [], _ => rfl
  | [_], _ => rfl
  | a :: b :: r, h => by
    unfold chainB
    have h' := List.pairwise_cons.mp h
    rw [h'.1 b List.mem_cons_self, chain_up h'.2]
    rfl
theorem web_webB {n : Int} {ties : List (List Int)} (w : Web n ties) (h1 : 1 ≤ n) (h8 : n ≤ 8) : webB (webD n ties) = true := by
  show (decide (1 ≤ n) && decide (n ≤ 8) && scanD n [-1, -1] (ties.map dT)) = true
  have ha : (ties.map dT).all (tieB n) = true := by
    rw [List.all_eq_true]
    intro d hd
    obtain ⟨t, ht, rfl⟩ := List.mem_map.mp hd
    obtain ⟨a, b, rfl, q1, q2, q3⟩ := w.mem t ht
    rw [tieB_dT, decide_eq_true q1, decide_eq_true q2, decide_eq_true q3]; rfl
  rw [scan_chain ha, first_lt w.mem, chain_up w.up, decide_eq_true h1, decide_eq_true h8]
  rfl
theorem webR_web {m : Int} {ties : List (List Int)} (w : Web m ties) (h1 : 1 ≤ m) (hm : m ≤ 8) : webR (webS m ties) = some (m, ties) := by
  have e : Txt.split (webS m ties) blankS = (fg m ++ colonS) :: ties.map tieS := by
    unfold webS
    exact split_join blank_tl blank_ok (by simp) (by
      intro p hp
      rcases List.mem_cons.mp hp with rfl | hp
      · rw [tl_append, tl_fg (by omega) hm, tl_colon]
        simp; omega
      · obtain ⟨t, ht, rfl⟩ := List.mem_map.mp hp
        rw [tl_tie (w.mem t ht) hm]
        simp; omega)
  unfold webR
  rw [e]
  dsimp only
  rw [headR_fg (by omega) hm, allR_of (r := tieR) (f := tieS) fun t ht => tieR_tie (w.mem t ht) hm]
  dsimp only
  rw [if_pos (web_webB w h1 hm)]
theorem rowR_row {row : List Int} (h : ∀ p ∈ row, 0 ≤ p ∧ p < 8) (hl : row.length ≤ 40) : rowR (rowS row) = some row := by
  have hF : Figs row := fun p hp => ⟨(h p hp).1, by have := (h p hp).2; omega⟩
  by_cases e : row = []
  · subst e
    unfold rowR
    rw [if_pos (show rowS [] = noneS from rfl)]
  · have e1 : Txt.split (rowS row) blankS = row.map fg := by
      rw [rowS_ne e]
      exact split_join blank_tl blank_ok (by simpa using e) (by
        intro p hp
        obtain ⟨q, hq, rfl⟩ := List.mem_map.mp hp
        exact fg_no (hF q hq).1 (hF q hq).2 (by decide))
    have e2 : rowS row ≠ noneS := by
      intro z
      have z1 : Txt.split (rowS row) blankS = [noneS] := by rw [z]; decide +kernel
      rw [e1] at z1
      cases row with
      | nil => exact e rfl
      | cons p r =>
        injection z1 with z2 _
        have z3 : tl (fg p) = tl noneS := congrArg tl z2
        rw [tl_fg (hF p List.mem_cons_self).1 (hF p List.mem_cons_self).2] at z3
        have z4 : tl noneS = [110, 111, 110, 101] := tl_none
        rw [z4] at z3
        injection z3 with _ z5
        cases z5
    unfold rowR
    rw [if_neg e2, e1, allR_of (r := placeR) (f := fg) fun p hp => by
      unfold placeR
      rw [numR_fg (hF p hp).1 (hF p hp).2]
      dsimp only
      rw [if_pos (h p hp).2]]
    dsimp only
    rw [if_pos hl]
/-! ### a row drawn -/
theorem draws_st {p i : Nat} {ε : DEnv} {X X1 : Bxs} {fi : FI} {c : Nat} (hi : fi ε X = some (nums 0 c, X1)) (hc : c ≤ 1000) (h : St i X1) (hε : ∀ d, ((wipeE ε [p]).set p (some (.dat d)))[2]? = some (some (.box i))) :
    ∃ (row : List Int) (X' : Bxs), fComp [p] fi (hName p) fYes (fCall 2 sem__law_take (fCons (fVar 2) (fCons (fC (.int 8)) fNil))) ε X = some (.lst (row.map .int), X') ∧ (∀ q ∈ row, 0 ≤ q ∧ q < 8) ∧ row.length ≤ c ∧ St i X' ∧ X'.length = X1.length ∧ ∀ j, j ≠ i → X'[j]? = X1[j]? := by
  obtain ⟨S', acc, h1, h2, h3, ⟨row, e2, hrow⟩, hst, hot⟩ := fComp_inv (vs := [p]) (hg := hName p) (ft := fYes) (fe := fCall 2 sem__law_take (fCons (fVar 2) (fCons (fC (.int 8)) fNil)))
    (fun j S' a => (∃ (row : List Int), a = row.map .int ∧ ∀ q ∈ row, 0 ≤ q ∧ q < 8) ∧ St i S' ∧ ∀ j, j ≠ i → S'[j]? = X1[j]?) hi (by rw [nums_len]; omega) ⟨⟨[], rfl, fun _ h => absurd h List.not_mem_nil⟩, h, fun _ _ => rfl⟩ (by
    rintro j d S2 a hd hS2 ⟨⟨row, rfl, hrow⟩, hs, ho⟩
    obtain ⟨v, gv, hv⟩ := hs
    have hlt : i < S2.length := (List.getElem?_eq_some_iff.mp gv).1
    obtain ⟨q, v', t1, t2, t3, t4⟩ := take_ok (S := S2 ++ [row.map .int]) (i := i) (v := v) (many := 8) (by rw [List.getElem?_append_left hlt]; exact gv) hv (by omega) (by omega)
    refine ⟨_, true, S2, rfl, rfl, hS2, (fun z => nomatch z), fun _ => ⟨.dat (.int q), .int q, S2.set i v', ?_, by rw [List.length_set]; exact hS2, rfl, ⟨row ++ [q], by simp, ?_⟩, St.set ⟨v, gv, hv⟩ t4, fun j hj => by rw [List.getElem?_set_ne (Ne.symm hj)]; exact ho j hj⟩⟩
    · rw [← List.set_append_left _ _ hlt]
      exact cl (cns (vr (i := 2) (dv := .box i) (hε d)) (cns (fC_e _ _ _) nl)) rfl t1
    · intro x hx
      rcases List.mem_append.mp hx with z | z
      · exact hrow x z
      · rw [List.mem_singleton.mp z]; exact ⟨t2, t3⟩)
  subst e2
  rw [List.length_map, nums_len] at h3
  exact ⟨row, S', h1, hrow, h3, hst, h2, hot⟩
end TT
end DL

set_option linter.all false
set_option maxRecDepth 100000
namespace DL
open PySem PySem.Spec L2 TL TT
namespace K91
/-! ### plain things -/
theorem plain_int (n : Nat) (i : Int) (S : Bxs) : semr__law_plain (n + 1) [.dat (.int i)] S = some (.dat (.bool true), S) := by
  show semOf 2 (g__law_plain (semr__law_plain n)) _ _ = _
  rw [semOf_eq]
  show finOf S (g__law_plain (semr__law_plain n) [some (.dat (.int i)), none] S) = _
  unfold g__law_plain
  have c1 : fTru (fIs isTupD (fVar 0)) [some (.dat (.int i)), none] S = some (false, S) := tru_b (is_e (d := .int i) (vr rfl))
  rw [sSeq_nx ((sIf_f c1).trans rfl)]
  exact fin_ret (and_t (is_e (d := .int i) (vr rfl)) (notv (b := false) (is_e (d := .int i) (vr rfl)))) rfl
theorem plain_tup (n : Nat) {ds : List D} (hl : ds.length ≤ 1000) (h : ∀ d ∈ ds, ∀ S, semr__law_plain n [.dat d] S = some (.dat (.bool true), S)) (S : Bxs) : semr__law_plain (n + 1) [.dat (.tuple ds)] S = some (.dat (.bool true), S) := by
  show semOf 2 (g__law_plain (semr__law_plain n)) _ _ = _
  rw [semOf_eq]
  show finOf S (g__law_plain (semr__law_plain n) [some (.dat (.tuple ds)), none] S) = _
  unfold g__law_plain
  have c1 : fTru (fIs isTupD (fVar 0)) [some (.dat (.tuple ds)), none] S = some (true, S) := tru_b (is_e (d := .tuple ds) (vr rfl))
  have k := fComp_pure (vs := [1]) (fi := iD (fVar 0)) (hg := hName 1) (ft := fNotT (fTru (fCall 1 (semr__law_plain n) (fCons (fVar 1) fNil)))) (fe := fVar 1) (ε := [some (.dat (.tuple ds)), none]) (S := S) (ds := ds) (fun _ => false) (fun d => d) (it (vr (i := 0) (dv := .dat (.tuple ds)) rfl) rfl rfl) (by omega) (by
    intro d hd
    exact ⟨[some (.dat (.tuple ds)), some (.dat d)], rfl, fun acc => not_e (b := true) (tru_b (cl (cns (vr (i := 1) (dv := .dat d) rfl) nl) rfl (h d hd _))), (fun z => nomatch z)⟩)
  rw [List.filter_eq_nil_iff.mpr (by simp)] at k
  rw [sSeq_rt ((sIf_t c1).trans (sRet_eq (cmE k (ls (ds := []) nl rfl (by simp)) (show bEq S (.lst []) (.lst []) = some true from rfl))))]
  exact fin_dat rfl
theorem plain_dT (n : Nat) {t : List Int} (hl : t.length ≤ 1000) (S : Bxs) : semr__law_plain (n + 2) [.dat (dT t)] S = some (.dat (.bool true), S) := plain_tup (n + 1) (by rw [List.length_map]; exact hl) (fun d hd S => by
  obtain ⟨i, _, rfl⟩ := List.mem_map.mp hd
  exact plain_int n i S) S
theorem plain_row {row : List Int} (hl : row.length ≤ 1000) (S : Bxs) : sem__law_plain [.dat (dT row)] S = some (.dat (.bool true), S) := plain_dT 2 hl S
theorem plain_web {m : Int} {ties : List (List Int)} (w : Web m ties) (hm : m ≤ 8) (S : Bxs) : sem__law_plain [.dat (webD m ties)] S = some (.dat (.bool true), S) := by
  refine plain_tup 3 (by simp) (fun d hd S => ?_) S
  have hd : d = .int m ∨ d = .tuple (ties.map dT) := by simpa using hd
  rcases hd with rfl | rfl
  · exact plain_int 2 m S
  · refine plain_tup 2 (by rw [List.length_map]; have := w.len hm; omega) (fun d hd S => ?_) S
    obtain ⟨t, ht, rfl⟩ := List.mem_map.mp hd
    obtain ⟨a, b, rfl, _⟩ := w.mem t ht
    exact plain_dT 0 (by simp) S
/-! ### the law -/
def rangeI : FI := (iRange1 (fCons (fOpN (g2 gMax) (fCons (fC (.int 1)) (fCons (fOpN (g2 gMin) (fCons (fOpN (g1 gLen) (fCons (fVar 0) fNil)) (fCons (fC (.int 12)) fNil))) fNil))) fNil))
def rowF : FE := (fOpN (g1 gTup1) (fCons (fComp [6] (iRange1 (fCons (fOp2 gIx (fLst (intsF [0, 1, 3, 10, 40])) (fCall 2 sem__law_take (fCons (fVar 2) (fCons (fC (.int 5)) fNil)))) fNil)) (hName 6) fYes (fCall 2 sem__law_take (fCons (fVar 2) (fCons (fC (.int 8)) fNil)))) fNil))
def writT : FT := (fOrT (fCmpT bNe (fCall 1 sem_web_text (fCons (fVar 3) fNil)) (fCall 1 sem__law_web_text (fCons (fVar 3) fNil))) (fCmpT bNe (fCall 1 sem_row_text (fCons (fVar 4) fNil)) (fCall 1 sem__law_row_text (fCons (fVar 4) fNil))))
def sameT (k : Nat) : FT := (fOrT (fCmpT bNe (fVar 5) (fVar k)) (fNotT (fTru (fCall 1 sem__law_plain (fCons (fVar 5) fNil)))))
def bodyG : FS := (sSeq (sSetB 2 (fCall 2 sem__law_state (fCons (fVar 0) (fCons (fVar 1) fNil))))
  (sSeq (sSet 3 (fCall 3 sem__law_web (fCons (fVar 2) (fCons (fC (.int 1)) (fCons (fC (.int 8)) fNil)))))
  (sSeq (sSet 4 rowF)
  (sSeq (sIf writT (sRet (fC (.bool false))) sNil)
  (sSeq (sSet 5 (fCall 1 sem_web_read (fCons (fCall 1 sem__law_web_text (fCons (fVar 3) fNil)) fNil)))
  (sSeq (sIf (sameT 3) (sRet (fC (.bool false))) sNil)
  (sSeq (sSet 5 (fCall 1 sem_row_read (fCons (fCall 1 sem__law_row_text (fCons (fVar 4) fNil)) fNil)))
  (sIf (sameT 4) (sRet (fC (.bool false))) sNil))))))))
def restG : FS := (sRet (fAnd (fOp2 (gB bEq) (fCall 1 sem_web_text (fCons (fTup (fCons (fC (.int 1)) (fCons (fTup fNil) fNil))) fNil)) (fC (.str "1:"))) (fOp2 (gB bEq) (fCall 1 sem_row_text (fCons (fTup fNil) fNil)) (fC (.str "none")))))
theorem g_law_eq : g_law = sSeq (sFor rangeI (hName 1) bodyG) restG := rfl
theorem cell_ok (ns : List Int) {sc : D} (hs : PyData.list (ns.map .int) = sc) (j : Nat) (x2 x3 x4 x5 x6 : Option DV) (S' : Bxs) : ∃ (y2 y3 y4 y5 y6 : Option DV) (S2 : Bxs), bodyG [some (.dat sc), some (.dat (.int j)), x2, x3, x4, x5, x6] S' = some (.nx [some (.dat sc), some (.dat (.int j)), y2, y3, y4, y5, y6] S2) := by
  obtain ⟨v, t1, hv⟩ := state_at ns hs (a := 0) (b := 1) j (ε := [some (.dat sc), some (.dat (.int j)), x2, x3, x4, x5, x6]) (fb := fVar 1) rfl (fun X => vr rfl) S'
  have s1 : sSetB 2 (fCall 2 sem__law_state (fCons (fVar 0) (fCons (fVar 1) fNil))) [some (.dat sc), some (.dat (.int j)), x2, x3, x4, x5, x6] S' = some (.nx [some (.dat sc), some (.dat (.int j)), some (.box S'.length), x3, x4, x5, x6] (S' ++ [v])) := sSetB_eq t1
  have st1 : St S'.length (S' ++ [v]) := St.new hv
  generalize S' ++ [v] = X1 at s1 st1
  generalize S'.length = i at s1 st1
  obtain ⟨m, ties, X2, t2, hm1, hm, w, st2, _, _⟩ := web_st (k := 2) (ε := [some (.dat sc), some (.dat (.int j)), some (.box i), x3, x4, x5, x6]) (lo := 1) (hi := 8) rfl (fC_e _ _ X1) (fC_e _ _ X1) st1 (by decide) (by decide) (by decide)
  have s2 : sSet 3 (fCall 3 sem__law_web (fCons (fVar 2) (fCons (fC (.int 1)) (fCons (fC (.int 8)) fNil)))) [some (.dat sc), some (.dat (.int j)), some (.box i), x3, x4, x5, x6] X1 = some (.nx [some (.dat sc), some (.dat (.int j)), some (.box i), some (.dat (webD m ties)), x4, x5, x6] X2) := sSet_eq (dv := .dat (webD m ties)) t2
  obtain ⟨c, hc, X3, t3, st3, _, _⟩ := pick_st (k := 2) (ε := [some (.dat sc), some (.dat (.int j)), some (.box i), some (.dat (webD m ties)), x4, x5, x6]) (X := X2) (L := [0, 1, 3, 10, 40]) (c := fC (.int 5)) rfl st2 rfl (by simp) (by simp)
  have hc0 : 0 ≤ c ∧ c ≤ 40 := by
    have : c = 0 ∨ c = 1 ∨ c = 3 ∨ c = 10 ∨ c = 40 := by simpa using hc
    omega
  obtain ⟨row, X4, t4, hrow, hrl, st4, _, _⟩ := draws_st (p := 6) (c := c.toNat) (ε := [some (.dat sc), some (.dat (.int j)), some (.box i), some (.dat (webD m ties)), x4, x5, x6]) (r1 (cns t3 nl) (okI_of (by omega) (by omega))) (by omega) st3 (fun _ => rfl)
  have s3 : sSet 4 rowF [some (.dat sc), some (.dat (.int j)), some (.box i), some (.dat (webD m ties)), x4, x5, x6] X2 = some (.nx [some (.dat sc), some (.dat (.int j)), some (.box i), some (.dat (webD m ties)), some (.dat (dT row)), x5, x6] X4) := sSet_eq (dv := .dat (dT row)) (opN (cns t4 nl) (tup_e (ds := row.map .int) rfl))
  have h8 : (m : Int) ≤ 8 := by omega
  have h1 : (1 : Int) ≤ m := by omega
  have hF : Figs row := fun p hp => ⟨(hrow p hp).1, by have := (hrow p hp).2; omega⟩
  have hrl' : row.length ≤ 40 := by omega
  have c4 : writT [some (.dat sc), some (.dat (.int j)), some (.box i), some (.dat (webD m ties)), some (.dat (dT row)), x5, x6] X4 = some (false, X4) := by
    have e1 := bNe_str X4 (asc_web w h1 h8) (asc_web w h1 h8)
    have e2 := bNe_str X4 (asc_row hF) (asc_row hF)
    rw [decide_eq_true rfl] at e1 e2
    exact or_f (cmT (cl (cns (vr (i := 3) (dv := .dat (webD m ties)) rfl) nl) rfl (web_text_eq w h1 h8 X4)) (cl (cns (vr (i := 3) (dv := .dat (webD m ties)) rfl) nl) rfl (law_web_text_eq w h1 h8 X4)) e1)
      (cmT (cl (cns (vr (i := 4) (dv := .dat (dT row)) rfl) nl) rfl (row_text_eq hF (by omega) X4)) (cl (cns (vr (i := 4) (dv := .dat (dT row)) rfl) nl) rfl (law_row_text_eq hF (by omega) X4)) e2)
  have s5 : sSet 5 (fCall 1 sem_web_read (fCons (fCall 1 sem__law_web_text (fCons (fVar 3) fNil)) fNil)) [some (.dat sc), some (.dat (.int j)), some (.box i), some (.dat (webD m ties)), some (.dat (dT row)), x5, x6] X4 = some (.nx [some (.dat sc), some (.dat (.int j)), some (.box i), some (.dat (webD m ties)), some (.dat (dT row)), some (.dat (webD m ties)), x6] X4) :=
    sSet_eq (dv := .dat (webD m ties)) (cl (cns (cl (cns (vr (i := 3) (dv := .dat (webD m ties)) rfl) nl) rfl (law_web_text_eq w h1 h8 X4)) nl) rfl (web_read_ok (webR_web w h1 h8) (by have := web_len w h1 h8; omega) X4))
  have c6 : sameT 3 [some (.dat sc), some (.dat (.int j)), some (.box i), some (.dat (webD m ties)), some (.dat (dT row)), some (.dat (webD m ties)), x6] X4 = some (false, X4) :=
    or_f (cmT (vr (dv := .dat (webD m ties)) rfl) (vr (dv := .dat (webD m ties)) rfl) (bNe_same (shaped_web _ _))) (not_e (b := true) (tru_b (cl (cns (vr (i := 5) (dv := .dat (webD m ties)) rfl) nl) rfl (plain_web w h8 X4))))
  have s7 : sSet 5 (fCall 1 sem_row_read (fCons (fCall 1 sem__law_row_text (fCons (fVar 4) fNil)) fNil)) [some (.dat sc), some (.dat (.int j)), some (.box i), some (.dat (webD m ties)), some (.dat (dT row)), some (.dat (webD m ties)), x6] X4 = some (.nx [some (.dat sc), some (.dat (.int j)), some (.box i), some (.dat (webD m ties)), some (.dat (dT row)), some (.dat (dT row)), x6] X4) :=
    sSet_eq (dv := .dat (dT row)) (cl (cns (cl (cns (vr (i := 4) (dv := .dat (dT row)) rfl) nl) rfl (law_row_text_eq hF (by omega) X4)) nl) rfl (row_read_ok (rowR_row hrow hrl') (asc_row hF) (by have := row_len hF hrl'; omega) X4))
  have c8 : sameT 4 [some (.dat sc), some (.dat (.int j)), some (.box i), some (.dat (webD m ties)), some (.dat (dT row)), some (.dat (dT row)), x6] X4 = some (false, X4) := by
    have e := neDT X4 row row
    rw [decide_eq_true rfl] at e
    exact or_f (cmT (vr (dv := .dat (dT row)) rfl) (vr (dv := .dat (dT row)) rfl) e) (not_e (b := true) (tru_b (cl (cns (vr (i := 5) (dv := .dat (dT row)) rfl) nl) rfl (plain_row (by omega) X4))))
  refine ⟨some (.box i), some (.dat (webD m ties)), some (.dat (dT row)), some (.dat (dT row)), x6, X4, ?_⟩
  unfold bodyG
  rw [sSeq_nx s1, sSeq_nx s2, sSeq_nx s3, sSeq_nx ((sIf_f c4).trans rfl), sSeq_nx s5, sSeq_nx ((sIf_f c6).trans rfl), sSeq_nx s7, sIf_f c8]
  rfl
theorem law_sem (ns : List Int) (hns : ns.length ≤ 63) : sem_law [.dat (.list (ns.map .int))] [] = some (.dat (.bool true), []) := by
  unfold sem_law
  rw [semOf_eq]
  show finOf [] (g_law [some (.dat (.list (ns.map .int))), none, none, none, none, none, none] []) = _
  rw [g_law_eq]
  generalize hs : (PyData.list (ns.map .int)) = sc
  obtain ⟨c, hc0, hc1, hi⟩ : ∃ c : Int, 0 ≤ c ∧ c ≤ 12 ∧ rangeI [some (.dat sc), none, none, none, none, none, none] [] = some (nums 0 c.toNat, []) := by
    subst hs
    exact cells_e (k := 12) ns (by decide) (by decide) rfl
  obtain ⟨ε', S', h1, x1, x2, x3, x4, x5, x6, e1⟩ := sFor_inv (hg := hName 1) (gb := bodyG)
    (fun j ε S' => ∃ x1 x2 x3 x4 x5 x6, ε = [some (.dat sc), x1, x2, x3, x4, x5, x6]) hi ⟨none, none, none, none, none, none, rfl⟩ (by
    rintro j dd ε' S' hd ⟨x1, x2, x3, x4, x5, x6, rfl⟩
    obtain ⟨rfl, hj⟩ := nums_get hd
    rw [Int.zero_add]
    obtain ⟨y2, y3, y4, y5, y6, S2, h⟩ := cell_ok ns hs j x2 x3 x4 x5 x6 S'
    exact ⟨_, _, S2, rfl, h, _, _, _, _, _, _, rfl⟩)
  subst e1
  have w1 : Web 1 [] := ⟨List.Pairwise.nil, fun t h => absurd h List.not_mem_nil⟩
  have e1 : webS 1 [] = ("1:" : Str) := by decide +kernel
  have a1 : fOp2 (gB bEq) (fCall 1 sem_web_text (fCons (fTup (fCons (fC (.int 1)) (fCons (fTup fNil) fNil))) fNil)) (fC (.str "1:")) [some (.dat sc), x1, x2, x3, x4, x5, x6] S' = some (.dat (.bool true), S') := by
    have e := TT.bEq_str S' (asc_web w1 (by decide) (by decide)) (y := "1:") (asc_of (by decide +kernel))
    rw [decide_eq_true e1] at e
    exact cmE (cl (cns (tp (ds := [.int 1, .tuple []]) (cns (fC_e _ _ _) (cns (tp (ds := []) nl rfl (by simp)) nl)) rfl (by simp)) nl) rfl (web_text_eq w1 (by decide) (by decide) S')) (fC_e _ _ _) e
  have a2 : fOp2 (gB bEq) (fCall 1 sem_row_text (fCons (fTup fNil) fNil)) (fC (.str "none")) [some (.dat sc), x1, x2, x3, x4, x5, x6] S' = some (.dat (.bool true), S') := by
    have e := TT.bEq_str S' none_asc none_asc
    rw [decide_eq_true rfl] at e
    exact cmE (cl (cns (tp (ds := []) nl rfl (by simp)) nl) rfl (row_text_eq (row := []) (fun _ h => absurd h List.not_mem_nil) (by simp) S')) (fC_e _ _ _) e
  rw [sSeq_nx h1]
  unfold restG
  rw [sRet_eq (and_t a1 a2)]
  exact fin_dat' (S := []) (S' := []) rfl
end K91
end DL

set_option linter.all false
set_option maxRecDepth 100000
set_option maxHeartbeats 0
namespace DL
open PySem PySem.Spec L2 PyProof.Rows
namespace K91
theorem all_mk {l : PySem.W.OpenLaw} {w : World} {K : PySem.W.Frag} {h : Heap} {mg : Str → Option Value} {fa : Addr} (X : K.In h) (G : h.Ns mainGlobals mg) (hfa : mg "law" = some (.ref fa))
    {f0 : Addr} {od0 an0 : Option Addr} {sl0 : Array (Option Value)} {oc0 kV0 dc0 pm0 cd0 ct0 : Value}
    {f1 : Addr} {od1 an1 : Option Addr} {sl1 : Array (Option Value)} {oc1 kV1 dc1 pm1 cd1 ct1 : Value}
    {f2 : Addr} {od2 an2 : Option Addr} {sl2 : Array (Option Value)} {oc2 kV2 dc2 pm2 cd2 ct2 : Value}
    {f3 : Addr} {od3 an3 : Option Addr} {sl3 : Array (Option Value)} {oc3 kV3 dc3 pm3 cd3 ct3 : Value}
    {f4 : Addr} {od4 an4 : Option Addr} {sl4 : Array (Option Value)} {oc4 kV4 dc4 pm4 cd4 ct4 : Value}
    {f5 : Addr} {od5 an5 : Option Addr} {sl5 : Array (Option Value)} {oc5 kV5 dc5 pm5 cd5 ct5 : Value}
    {f6 : Addr} {od6 an6 : Option Addr} {sl6 : Array (Option Value)} {oc6 kV6 dc6 pm6 cd6 ct6 : Value}
    {f7 : Addr} {od7 an7 : Option Addr} {sl7 : Array (Option Value)} {oc7 kV7 dc7 pm7 cd7 ct7 : Value}
    {f8 : Addr} {od8 an8 : Option Addr} {sl8 : Array (Option Value)} {oc8 kV8 dc8 pm8 cd8 ct8 : Value}
    {f9 : Addr} {od9 an9 : Option Addr} {sl9 : Array (Option Value)} {oc9 kV9 dc9 pm9 cd9 ct9 : Value}
    {f10 : Addr} {od10 an10 : Option Addr} {sl10 : Array (Option Value)} {oc10 kV10 dc10 pm10 cd10 ct10 : Value}
    {f11 : Addr} {od11 an11 : Option Addr} {sl11 : Array (Option Value)} {oc11 kV11 dc11 pm11 cd11 ct11 : Value}
    {f12 : Addr} {od12 an12 : Option Addr} {sl12 : Array (Option Value)} {oc12 kV12 dc12 pm12 cd12 ct12 : Value}
    {f13 : Addr} {od13 an13 : Option Addr} {sl13 : Array (Option Value)} {oc13 kV13 dc13 pm13 cd13 ct13 : Value}
    {f14 : Addr} {od14 an14 : Option Addr} {sl14 : Array (Option Value)} {oc14 kV14 dc14 pm14 cd14 ct14 : Value}
    {f15 : Addr} {od15 an15 : Option Addr} {sl15 : Array (Option Value)} {oc15 kV15 dc15 pm15 cd15 ct15 : Value}
    {f16 : Addr} {od16 an16 : Option Addr} {sl16 : Array (Option Value)} {oc16 kV16 dc16 pm16 cd16 ct16 : Value}
    {f17 : Addr} {od17 an17 : Option Addr} {sl17 : Array (Option Value)} {oc17 kV17 dc17 pm17 cd17 ct17 : Value}
    {f18 : Addr} {od18 an18 : Option Addr} {sl18 : Array (Option Value)} {oc18 kV18 dc18 pm18 cd18 ct18 : Value}
    {f19 : Addr} {od19 an19 : Option Addr} {sl19 : Array (Option Value)} {oc19 kV19 dc19 pm19 cd19 ct19 : Value}
    {f20 : Addr} {od20 an20 : Option Addr} {sl20 : Array (Option Value)} {oc20 kV20 dc20 pm20 cd20 ct20 : Value}
    {f21 : Addr} {od21 an21 : Option Addr} {sl21 : Array (Option Value)} {oc21 kV21 dc21 pm21 cd21 ct21 : Value}
    {t_MOST_PLACES : Tok}
    {t_MOST_TURNS : Tok}
    {q_FIGURES : Addr} {n_FIGURES : Nat} {sl_FIGURES : Array (Option Value)} {t_FIGURES0 t_FIGURES1 t_FIGURES2 t_FIGURES3 t_FIGURES4 t_FIGURES5 t_FIGURES6 t_FIGURES7 t_FIGURES8 : Tok}
    (a0 : PySem.W.nsIn K mainGlobals "is_whole" = some (some (.ref f0))) (l0 : K.lookup f0 = some ⟨oc0, od0, .func (PySem.W.fnOf "is_whole" "is_whole" (defArgs (top 5)) (defBody (top 5)) (defScope (top 5)) .none kV0 dc0 pm0 an0 cd0 ct0), sl0⟩) (c0 : PySem.W.codeIn K cd0 "is_whole" = true) (k0 : PySem.W.keepIn K (.ref f0) = true)
    (a1 : PySem.W.nsIn K mainGlobals "is_tie" = some (some (.ref f1))) (l1 : K.lookup f1 = some ⟨oc1, od1, .func (PySem.W.fnOf "is_tie" "is_tie" (defArgs (top 6)) (defBody (top 6)) (defScope (top 6)) .none kV1 dc1 pm1 an1 cd1 ct1), sl1⟩) (c1 : PySem.W.codeIn K cd1 "is_tie" = true) (k1 : PySem.W.keepIn K (.ref f1) = true)
    (a2 : PySem.W.nsIn K mainGlobals "are_ties" = some (some (.ref f2))) (l2 : K.lookup f2 = some ⟨oc2, od2, .func (PySem.W.fnOf "are_ties" "are_ties" (defArgs (top 7)) (defBody (top 7)) (defScope (top 7)) .none kV2 dc2 pm2 an2 cd2 ct2), sl2⟩) (c2 : PySem.W.codeIn K cd2 "are_ties" = true) (k2 : PySem.W.keepIn K (.ref f2) = true)
    (a3 : PySem.W.nsIn K mainGlobals "is_web" = some (some (.ref f3))) (l3 : K.lookup f3 = some ⟨oc3, od3, .func (PySem.W.fnOf "is_web" "is_web" (defArgs (top 8)) (defBody (top 8)) (defScope (top 8)) .none kV3 dc3 pm3 an3 cd3 ct3), sl3⟩) (c3 : PySem.W.codeIn K cd3 "is_web" = true) (k3 : PySem.W.keepIn K (.ref f3) = true)
    (a4 : PySem.W.nsIn K mainGlobals "web_text" = some (some (.ref f4))) (l4 : K.lookup f4 = some ⟨oc4, od4, .func (PySem.W.fnOf "web_text" "web_text" (defArgs (top 12)) (defBody (top 12)) (defScope (top 12)) .none kV4 dc4 pm4 an4 cd4 ct4), sl4⟩) (c4 : PySem.W.codeIn K cd4 "web_text" = true) (k4 : PySem.W.keepIn K (.ref f4) = true)
    (a5 : PySem.W.nsIn K mainGlobals "row_text" = some (some (.ref f5))) (l5 : K.lookup f5 = some ⟨oc5, od5, .func (PySem.W.fnOf "row_text" "row_text" (defArgs (top 13)) (defBody (top 13)) (defScope (top 13)) .none kV5 dc5 pm5 an5 cd5 ct5), sl5⟩) (c5 : PySem.W.codeIn K cd5 "row_text" = true) (k5 : PySem.W.keepIn K (.ref f5) = true)
    (a6 : PySem.W.nsIn K mainGlobals "number_read" = some (some (.ref f6))) (l6 : K.lookup f6 = some ⟨oc6, od6, .func (PySem.W.fnOf "number_read" "number_read" (defArgs (top 14)) (defBody (top 14)) (defScope (top 14)) .none kV6 dc6 pm6 an6 cd6 ct6), sl6⟩) (c6 : PySem.W.codeIn K cd6 "number_read" = true) (k6 : PySem.W.keepIn K (.ref f6) = true)
    (a7 : PySem.W.nsIn K mainGlobals "place_read" = some (some (.ref f7))) (l7 : K.lookup f7 = some ⟨oc7, od7, .func (PySem.W.fnOf "place_read" "place_read" (defArgs (top 15)) (defBody (top 15)) (defScope (top 15)) .none kV7 dc7 pm7 an7 cd7 ct7), sl7⟩) (c7 : PySem.W.codeIn K cd7 "place_read" = true) (k7 : PySem.W.keepIn K (.ref f7) = true)
    (a8 : PySem.W.nsIn K mainGlobals "tie_read" = some (some (.ref f8))) (l8 : K.lookup f8 = some ⟨oc8, od8, .func (PySem.W.fnOf "tie_read" "tie_read" (defArgs (top 16)) (defBody (top 16)) (defScope (top 16)) .none kV8 dc8 pm8 an8 cd8 ct8), sl8⟩) (c8 : PySem.W.codeIn K cd8 "tie_read" = true) (k8 : PySem.W.keepIn K (.ref f8) = true)
    (a9 : PySem.W.nsIn K mainGlobals "refuse_other" = some (some (.ref f9))) (l9 : K.lookup f9 = some ⟨oc9, od9, .func (PySem.W.fnOf "refuse_other" "refuse_other" (defArgs (top 17)) (defBody (top 17)) (defScope (top 17)) .none kV9 dc9 pm9 an9 cd9 ct9), sl9⟩) (c9 : PySem.W.codeIn K cd9 "refuse_other" = true) (k9 : PySem.W.keepIn K (.ref f9) = true)
    (a10 : PySem.W.nsIn K mainGlobals "web_read" = some (some (.ref f10))) (l10 : K.lookup f10 = some ⟨oc10, od10, .func (PySem.W.fnOf "web_read" "web_read" (defArgs (top 18)) (defBody (top 18)) (defScope (top 18)) .none kV10 dc10 pm10 an10 cd10 ct10), sl10⟩) (c10 : PySem.W.codeIn K cd10 "web_read" = true) (k10 : PySem.W.keepIn K (.ref f10) = true)
    (a11 : PySem.W.nsIn K mainGlobals "row_read" = some (some (.ref f11))) (l11 : K.lookup f11 = some ⟨oc11, od11, .func (PySem.W.fnOf "row_read" "row_read" (defArgs (top 19)) (defBody (top 19)) (defScope (top 19)) .none kV11 dc11 pm11 an11 cd11 ct11), sl11⟩) (c11 : PySem.W.codeIn K cd11 "row_read" = true) (k11 : PySem.W.keepIn K (.ref f11) = true)
    (a12 : PySem.W.nsIn K mainGlobals "_law_cell_at" = some (some (.ref f12))) (l12 : K.lookup f12 = some ⟨oc12, od12, .func (PySem.W.fnOf "_law_cell_at" "_law_cell_at" (defArgs (top 21)) (defBody (top 21)) (defScope (top 21)) .none kV12 dc12 pm12 an12 cd12 ct12), sl12⟩) (c12 : PySem.W.codeIn K cd12 "_law_cell_at" = true) (k12 : PySem.W.keepIn K (.ref f12) = true)
    (a13 : PySem.W.nsIn K mainGlobals "_law_state" = some (some (.ref f13))) (l13 : K.lookup f13 = some ⟨oc13, od13, .func (PySem.W.fnOf "_law_state" "_law_state" (defArgs (top 22)) (defBody (top 22)) (defScope (top 22)) .none kV13 dc13 pm13 an13 cd13 ct13), sl13⟩) (c13 : PySem.W.codeIn K cd13 "_law_state" = true) (k13 : PySem.W.keepIn K (.ref f13) = true)
    (a14 : PySem.W.nsIn K mainGlobals "_law_take" = some (some (.ref f14))) (l14 : K.lookup f14 = some ⟨oc14, od14, .func (PySem.W.fnOf "_law_take" "_law_take" (defArgs (top 23)) (defBody (top 23)) (defScope (top 23)) .none kV14 dc14 pm14 an14 cd14 ct14), sl14⟩) (c14 : PySem.W.codeIn K cd14 "_law_take" = true) (k14 : PySem.W.keepIn K (.ref f14) = true)
    (a15 : PySem.W.nsIn K mainGlobals "_law_pairs" = some (some (.ref f15))) (l15 : K.lookup f15 = some ⟨oc15, od15, .func (PySem.W.fnOf "_law_pairs" "_law_pairs" (defArgs (top 24)) (defBody (top 24)) (defScope (top 24)) .none kV15 dc15 pm15 an15 cd15 ct15), sl15⟩) (c15 : PySem.W.codeIn K cd15 "_law_pairs" = true) (k15 : PySem.W.keepIn K (.ref f15) = true)
    (a16 : PySem.W.nsIn K mainGlobals "_law_order" = some (some (.ref f16))) (l16 : K.lookup f16 = some ⟨oc16, od16, .func (PySem.W.fnOf "_law_order" "_law_order" (defArgs (top 25)) (defBody (top 25)) (defScope (top 25)) .none kV16 dc16 pm16 an16 cd16 ct16), sl16⟩) (c16 : PySem.W.codeIn K cd16 "_law_order" = true) (k16 : PySem.W.keepIn K (.ref f16) = true)
    (a17 : PySem.W.nsIn K mainGlobals "_law_web" = some (some (.ref f17))) (l17 : K.lookup f17 = some ⟨oc17, od17, .func (PySem.W.fnOf "_law_web" "_law_web" (defArgs (top 26)) (defBody (top 26)) (defScope (top 26)) .none kV17 dc17 pm17 an17 cd17 ct17), sl17⟩) (c17 : PySem.W.codeIn K cd17 "_law_web" = true) (k17 : PySem.W.keepIn K (.ref f17) = true)
    (a18 : PySem.W.nsIn K mainGlobals "_law_web_text" = some (some (.ref f18))) (l18 : K.lookup f18 = some ⟨oc18, od18, .func (PySem.W.fnOf "_law_web_text" "_law_web_text" (defArgs (top 27)) (defBody (top 27)) (defScope (top 27)) .none kV18 dc18 pm18 an18 cd18 ct18), sl18⟩) (c18 : PySem.W.codeIn K cd18 "_law_web_text" = true) (k18 : PySem.W.keepIn K (.ref f18) = true)
    (a19 : PySem.W.nsIn K mainGlobals "_law_row_text" = some (some (.ref f19))) (l19 : K.lookup f19 = some ⟨oc19, od19, .func (PySem.W.fnOf "_law_row_text" "_law_row_text" (defArgs (top 28)) (defBody (top 28)) (defScope (top 28)) .none kV19 dc19 pm19 an19 cd19 ct19), sl19⟩) (c19 : PySem.W.codeIn K cd19 "_law_row_text" = true) (k19 : PySem.W.keepIn K (.ref f19) = true)
    (a20 : PySem.W.nsIn K mainGlobals "_law_plain" = some (some (.ref f20))) (l20 : K.lookup f20 = some ⟨oc20, od20, .func (PySem.W.fnOf "_law_plain" "_law_plain" (defArgs (top 29)) (defBody (top 29)) (defScope (top 29)) .none kV20 dc20 pm20 an20 cd20 ct20), sl20⟩) (c20 : PySem.W.codeIn K cd20 "_law_plain" = true) (k20 : PySem.W.keepIn K (.ref f20) = true)
    (a21 : PySem.W.nsIn K mainGlobals "law" = some (some (.ref f21))) (l21 : K.lookup f21 = some ⟨oc21, od21, .func (PySem.W.fnOf "law" "law" (defArgs (top 30)) (defBody (top 30)) (defScope (top 30)) .none kV21 dc21 pm21 an21 cd21 ct21), sl21⟩) (c21 : PySem.W.codeIn K cd21 "law" = true) (k21 : PySem.W.keepIn K (.ref f21) = true)
    (z_len : PySem.W.nsIn K mainGlobals "len" = some none)
    (z_tuple : PySem.W.nsIn K mainGlobals "tuple" = some none)
    (z_list : PySem.W.nsIn K mainGlobals "list" = some none)
    (z_range : PySem.W.nsIn K mainGlobals "range" = some none)
    (z_sorted : PySem.W.nsIn K mainGlobals "sorted" = some none)
    (z_set : PySem.W.nsIn K mainGlobals "set" = some none)
    (z_min : PySem.W.nsIn K mainGlobals "min" = some none)
    (z_max : PySem.W.nsIn K mainGlobals "max" = some none)
    (z_all : PySem.W.nsIn K mainGlobals "all" = some none)
    (z_any : PySem.W.nsIn K mainGlobals "any" = some none)
    (z_isinstance : PySem.W.nsIn K mainGlobals "isinstance" = some none)
    (z_int : PySem.W.nsIn K mainGlobals "int" = some none)
    (z_bool : PySem.W.nsIn K mainGlobals "bool" = some none)
    (z_str : PySem.W.nsIn K mainGlobals "str" = some none)
    (y_MOST_PLACES : PySem.W.nsIn K mainGlobals "MOST_PLACES" = some (some (.int 8 t_MOST_PLACES)))
    (y_MOST_TURNS : PySem.W.nsIn K mainGlobals "MOST_TURNS" = some (some (.int 40 t_MOST_TURNS)))
    (y_FIGURES : PySem.W.nsIn K mainGlobals "FIGURES" = some (some (.ref q_FIGURES))) (u_FIGURES : K.lookup q_FIGURES = some ⟨.type "tuple", none, .seq #[.str "0" t_FIGURES0, .str "1" t_FIGURES1, .str "2" t_FIGURES2, .str "3" t_FIGURES3, .str "4" t_FIGURES4, .str "5" t_FIGURES5, .str "6" t_FIGURES6, .str "7" t_FIGURES7, .str "8" t_FIGURES8] n_FIGURES, sl_FIGURES⟩) :
    ∃ fd : FuncData, (∀ (s : Shared) (v : Value), BindsTo s fd ⟨[v], []⟩ [("_law_script", v)]) ∧ ∀ base : Heap, K.In base → base.Ns mainGlobals mg → FnOk l.prog w K mg base CX0 6 fa fd ["_law_script"] (spD K 1 sem_law) := by
  have e := hfa.symm.trans (PySem.W.mg_of X G a21)
  cases e
  have B : Bl mg := ⟨PySem.W.mg_none_of X G z_len, PySem.W.mg_none_of X G z_tuple, PySem.W.mg_none_of X G z_list, PySem.W.mg_none_of X G z_range, PySem.W.mg_none_of X G z_sorted, PySem.W.mg_none_of X G z_set, PySem.W.mg_none_of X G z_min, PySem.W.mg_none_of X G z_max, PySem.W.mg_none_of X G z_all, PySem.W.mg_none_of X G z_any, PySem.W.mg_none_of X G z_isinstance, PySem.W.mg_none_of X G z_int, PySem.W.mg_none_of X G z_bool, PySem.W.mg_none_of X G z_str⟩
  have C : Cs K mg := ⟨⟨_, PySem.W.mg_of X G y_MOST_PLACES⟩, ⟨_, PySem.W.mg_of X G y_MOST_TURNS⟩, ⟨_, _, _, _, PySem.W.mg_of X G y_FIGURES, u_FIGURES, rfl, rfl, rfl, by show 9 ≤ sizeLine; decide, .cons ⟨_, rfl⟩ (.cons ⟨_, rfl⟩ (.cons ⟨_, rfl⟩ (.cons ⟨_, rfl⟩ (.cons ⟨_, rfl⟩ (.cons ⟨_, rfl⟩ (.cons ⟨_, rfl⟩ (.cons ⟨_, rfl⟩ (.cons ⟨_, rfl⟩ (.nil)))))))))⟩⟩
  have F0 := fun_mk (st := top 5) l0 c0 k0
  have b0 := F0.binds (ps := ["thing"]) fun _ _ _ _ _ _ us hl => match us, hl with | [_], _ => rfl
  have F1 := fun_mk (st := top 6) l1 c1 k1
  have b1 := F1.binds (ps := ["places", "thing"]) fun _ _ _ _ _ _ us hl => match us, hl with | [_, _], _ => rfl
  have F2 := fun_mk (st := top 7) l2 c2 k2
  have b2 := F2.binds (ps := ["places", "thing"]) fun _ _ _ _ _ _ us hl => match us, hl with | [_, _], _ => rfl
  have F3 := fun_mk (st := top 8) l3 c3 k3
  have b3 := F3.binds (ps := ["thing"]) fun _ _ _ _ _ _ us hl => match us, hl with | [_], _ => rfl
  have F4 := fun_mk (st := top 12) l4 c4 k4
  have b4 := F4.binds (ps := ["web"]) fun _ _ _ _ _ _ us hl => match us, hl with | [_], _ => rfl
  have F5 := fun_mk (st := top 13) l5 c5 k5
  have b5 := F5.binds (ps := ["row"]) fun _ _ _ _ _ _ us hl => match us, hl with | [_], _ => rfl
  have F6 := fun_mk (st := top 14) l6 c6 k6
  have b6 := F6.binds (ps := ["word"]) fun _ _ _ _ _ _ us hl => match us, hl with | [_], _ => rfl
  have F7 := fun_mk (st := top 15) l7 c7 k7
  have b7 := F7.binds (ps := ["word"]) fun _ _ _ _ _ _ us hl => match us, hl with | [_], _ => rfl
  have F8 := fun_mk (st := top 16) l8 c8 k8
  have b8 := F8.binds (ps := ["word"]) fun _ _ _ _ _ _ us hl => match us, hl with | [_], _ => rfl
  have F9 := fun_mk (st := top 17) l9 c9 k9
  have b9 := F9.binds (ps := ["thing"]) fun _ _ _ _ _ _ us hl => match us, hl with | [_], _ => rfl
  have F10 := fun_mk (st := top 18) l10 c10 k10
  have b10 := F10.binds (ps := ["text"]) fun _ _ _ _ _ _ us hl => match us, hl with | [_], _ => rfl
  have F11 := fun_mk (st := top 19) l11 c11 k11
  have b11 := F11.binds (ps := ["text"]) fun _ _ _ _ _ _ us hl => match us, hl with | [_], _ => rfl
  have F12 := fun_mk (st := top 21) l12 c12 k12
  have b12 := F12.binds (ps := ["_law_script", "_law_k"]) fun _ _ _ _ _ _ us hl => match us, hl with | [_, _], _ => rfl
  have F13 := fun_mk (st := top 22) l13 c13 k13
  have b13 := F13.binds (ps := ["_law_script", "_law_k"]) fun _ _ _ _ _ _ us hl => match us, hl with | [_, _], _ => rfl
  have F14 := fun_mk (st := top 23) l14 c14 k14
  have b14 := F14.binds (ps := ["_law_state_here", "_law_many"]) fun _ _ _ _ _ _ us hl => match us, hl with | [_, _], _ => rfl
  have F15 := fun_mk (st := top 24) l15 c15 k15
  have b15 := F15.binds (ps := ["_law_places"]) fun _ _ _ _ _ _ us hl => match us, hl with | [_], _ => rfl
  have F16 := fun_mk (st := top 25) l16 c16 k16
  have b16 := F16.binds (ps := ["_law_state_here", "_law_many"]) fun _ _ _ _ _ _ us hl => match us, hl with | [_, _], _ => rfl
  have F17 := fun_mk (st := top 26) l17 c17 k17
  have b17 := F17.binds (ps := ["_law_state_here", "_law_least", "_law_most"]) fun _ _ _ _ _ _ us hl => match us, hl with | [_, _, _], _ => rfl
  have F18 := fun_mk (st := top 27) l18 c18 k18
  have b18 := F18.binds (ps := ["_law_web_here"]) fun _ _ _ _ _ _ us hl => match us, hl with | [_], _ => rfl
  have F19 := fun_mk (st := top 28) l19 c19 k19
  have b19 := F19.binds (ps := ["_law_row"]) fun _ _ _ _ _ _ us hl => match us, hl with | [_], _ => rfl
  have F20 := fun_mk (st := top 29) l20 c20 k20
  have b20 := F20.binds (ps := ["_law_thing"]) fun _ _ _ _ _ _ us hl => match us, hl with | [_], _ => rfl
  have F21 := fun_mk (st := top 30) l21 c21 k21
  refine ⟨PySem.W.fnOf "law" "law" (defArgs (top 30)) (defBody (top 30)) (defScope (top 30)) .none kV21 dc21 pm21 an21 cd21 ct21, fun s v => .of_eq rfl, fun base _ _ => ?_⟩
  have G4 : Fn l.prog w K mg base 1 "web_text" ["web"] 1 sem_web_text := ⟨f4, _, ok_web_text F4 B, PySem.W.mg_of X G a4, k4, b4⟩
  have G5 : Fn l.prog w K mg base 1 "row_text" ["row"] 1 sem_row_text := ⟨f5, _, ok_row_text F5 B, PySem.W.mg_of X G a5, k5, b5⟩
  have G0 : Fn l.prog w K mg base 1 "is_whole" ["thing"] 1 sem_is_whole := ⟨f0, _, ok_is_whole F0 B, PySem.W.mg_of X G a0, k0, b0⟩
  have G1 : Fn l.prog w K mg base 2 "is_tie" ["places", "thing"] 2 sem_is_tie := ⟨f1, _, ok_is_tie F1 B G0, PySem.W.mg_of X G a1, k1, b1⟩
  have G2 : Fn l.prog w K mg base 3 "are_ties" ["places", "thing"] 2 sem_are_ties := ⟨f2, _, ok_are_ties F2 B G1, PySem.W.mg_of X G a2, k2, b2⟩
  have G3 : Fn l.prog w K mg base 4 "is_web" ["thing"] 1 sem_is_web := ⟨f3, _, ok_is_web F3 B G0 G2 C, PySem.W.mg_of X G a3, k3, b3⟩
  have G6 : Fn l.prog w K mg base 1 "number_read" ["word"] 1 sem_number_read := ⟨f6, _, ok_number_read F6 B C, PySem.W.mg_of X G a6, k6, b6⟩
  have G8 : Fn l.prog w K mg base 2 "tie_read" ["word"] 1 sem_tie_read := ⟨f8, _, ok_tie_read F8 B G6, PySem.W.mg_of X G a8, k8, b8⟩
  have G9 : Fn l.prog w K mg base 1 "refuse_other" ["thing"] 1 sem_refuse_other := ⟨f9, _, ok_refuse_other F9 B, PySem.W.mg_of X G a9, k9, b9⟩
  have G10 : Fn l.prog w K mg base 5 "web_read" ["text"] 1 sem_web_read := ⟨f10, _, ok_web_read F10 B G3 G6 G8 G9, PySem.W.mg_of X G a10, k10, b10⟩
  have G7 : Fn l.prog w K mg base 2 "place_read" ["word"] 1 sem_place_read := ⟨f7, _, ok_place_read F7 B G6 C, PySem.W.mg_of X G a7, k7, b7⟩
  have G11 : Fn l.prog w K mg base 3 "row_read" ["text"] 1 sem_row_read := ⟨f11, _, ok_row_read F11 B G7 G9 C, PySem.W.mg_of X G a11, k11, b11⟩
  have G12 : Fn l.prog w K mg base 1 "_law_cell_at" ["_law_script", "_law_k"] 2 sem__law_cell_at := ⟨f12, _, ok__law_cell_at F12 B, PySem.W.mg_of X G a12, k12, b12⟩
  have G13 : Fn l.prog w K mg base 2 "_law_state" ["_law_script", "_law_k"] 2 sem__law_state := ⟨f13, _, ok__law_state F13 B G12, PySem.W.mg_of X G a13, k13, b13⟩
  have G14 : Fn l.prog w K mg base 1 "_law_take" ["_law_state_here", "_law_many"] 2 sem__law_take := ⟨f14, _, ok__law_take F14 B, PySem.W.mg_of X G a14, k14, b14⟩
  have G15 : Fn l.prog w K mg base 1 "_law_pairs" ["_law_places"] 1 sem__law_pairs := ⟨f15, _, ok__law_pairs F15 B, PySem.W.mg_of X G a15, k15, b15⟩
  have G16 : Fn l.prog w K mg base 2 "_law_order" ["_law_state_here", "_law_many"] 2 sem__law_order := ⟨f16, _, ok__law_order F16 B G14, PySem.W.mg_of X G a16, k16, b16⟩
  have G17 : Fn l.prog w K mg base 3 "_law_web" ["_law_state_here", "_law_least", "_law_most"] 3 sem__law_web := ⟨f17, _, ok__law_web F17 B G14 G15 G16, PySem.W.mg_of X G a17, k17, b17⟩
  have G18 : Fn l.prog w K mg base 1 "_law_web_text" ["_law_web_here"] 1 sem__law_web_text := ⟨f18, _, ok__law_web_text F18 B, PySem.W.mg_of X G a18, k18, b18⟩
  have G19 : Fn l.prog w K mg base 1 "_law_row_text" ["_law_row"] 1 sem__law_row_text := ⟨f19, _, ok__law_row_text F19 B, PySem.W.mg_of X G a19, k19, b19⟩
  have G20 : Fn l.prog w K mg base 4 "_law_plain" ["_law_thing"] 1 sem__law_plain := ⟨f20, _, ok__law_plain F20 B (PySem.W.mg_of X G a20) k20 b20 4, PySem.W.mg_of X G a20, k20, b20⟩
  exact ok_law F21 B G4 G5 G10 G11 G13 G14 G17 G18 G19 G20
theorem walk {l : PySem.W.OpenLaw} {q : Program} {loose : List Str} {XP : (Str → Option Value) → Heap → Prop} {YP : World → Heap → Prop} {d : DefRec} {K : Params → PySem.W.Frag} (hn : l.most = some 63) (hdf : d.params.defaults = [])
    (hY : ∀ (w : World) (h : Heap), YP w h → (K w.params).In h) (hT : ∀ p, tabsOf (K p) = [])
    (F : ∀ (w : World) (mg : Str → Option Value) (fa : Addr) (h : Heap), (K w.params).In h → h.Ns mainGlobals mg → mg d.name = some (.ref fa) →
      ∃ fd : FuncData, (∀ (s : Shared) (u : Value), BindsTo s fd ⟨[u], []⟩ [("_law_script", u)]) ∧ ∀ base : Heap, (K w.params).In base → base.Ns mainGlobals mg → FnOk l.prog w (K w.params) mg base CX0 6 fa fd ["_law_script"] (spD (K w.params) 1 sem_law)) :
    PySem.W.WalkO q loose XP YP l.row.toRowW d [] (fun f vs => PySem.call f vs) :=
  L2.walk_of (n := 63) (k := 6) (x := "_law_script") (CX := fun _ => CX0) (sp := fun w => spD (K w.params) 1 sem_law) hn (by decide) hdf ⟨rfl, by decide, by decide, rfl⟩ hY F (fun w _ a ns hl _ hS => spD_law (noTab (hT _)) hS (law_sem ns hl)) fun _ _ _ _ _ z => z
end K91
end DL
open PySem PySem.W PyProof.Rows
set_option maxRecDepth 100000 in
set_option maxHeartbeats 0 in
theorem PySem.Challenge.cw_nearturns_k91_texts_written_and_read_holds : PySem.Challenge.rw_nearturns_k91_texts_written_and_read.Holds := by
  w_on; o_law; k_head; (case hw => w_witness2)
  k_fill
  refine DL.K91.walk (l := PySem.Challenge.rw_nearturns_k91_texts_written_and_read) rfl rfl (fun w h Y => PySem.W.kIn_of Y) (fun p => rfl) ?F
  case F =>
    intro w mg fa h KX G hmg
    refine' DL.K91.all_mk KX G hmg ?a0 ?l0 ?c0 ?k0 ?a1 ?l1 ?c1 ?k1 ?a2 ?l2 ?c2 ?k2 ?a3 ?l3 ?c3 ?k3 ?a4 ?l4 ?c4 ?k4 ?a5 ?l5 ?c5 ?k5 ?a6 ?l6 ?c6 ?k6 ?a7 ?l7 ?c7 ?k7 ?a8 ?l8 ?c8 ?k8 ?a9 ?l9 ?c9 ?k9 ?a10 ?l10 ?c10 ?k10 ?a11 ?l11 ?c11 ?k11 ?a12 ?l12 ?c12 ?k12 ?a13 ?l13 ?c13 ?k13 ?a14 ?l14 ?c14 ?k14 ?a15 ?l15 ?c15 ?k15 ?a16 ?l16 ?c16 ?k16 ?a17 ?l17 ?c17 ?k17 ?a18 ?l18 ?c18 ?k18 ?a19 ?l19 ?c19 ?k19 ?a20 ?l20 ?c20 ?k20 ?a21 ?l21 ?c21 ?k21 ?z_len ?z_tuple ?z_list ?z_range ?z_sorted ?z_set ?z_min ?z_max ?z_all ?z_any ?z_isinstance ?z_int ?z_bool ?z_str ?y_MOST_PLACES ?y_MOST_TURNS ?y_FIGURES ?u_FIGURES
    (case a0 => k_is); (case l0 => k_is); (case c0 => k_is); (case k0 => k_is)
    (case a1 => k_is); (case l1 => k_is); (case c1 => k_is); (case k1 => k_is)
    (case a2 => k_is); (case l2 => k_is); (case c2 => k_is); (case k2 => k_is)
    (case a3 => k_is); (case l3 => k_is); (case c3 => k_is); (case k3 => k_is)
    (case a4 => k_is); (case l4 => k_is); (case c4 => k_is); (case k4 => k_is)
    (case a5 => k_is); (case l5 => k_is); (case c5 => k_is); (case k5 => k_is)
    (case a6 => k_is); (case l6 => k_is); (case c6 => k_is); (case k6 => k_is)
    (case a7 => k_is); (case l7 => k_is); (case c7 => k_is); (case k7 => k_is)
    (case a8 => k_is); (case l8 => k_is); (case c8 => k_is); (case k8 => k_is)
    (case a9 => k_is); (case l9 => k_is); (case c9 => k_is); (case k9 => k_is)
    (case a10 => k_is); (case l10 => k_is); (case c10 => k_is); (case k10 => k_is)
    (case a11 => k_is); (case l11 => k_is); (case c11 => k_is); (case k11 => k_is)
    (case a12 => k_is); (case l12 => k_is); (case c12 => k_is); (case k12 => k_is)
    (case a13 => k_is); (case l13 => k_is); (case c13 => k_is); (case k13 => k_is)
    (case a14 => k_is); (case l14 => k_is); (case c14 => k_is); (case k14 => k_is)
    (case a15 => k_is); (case l15 => k_is); (case c15 => k_is); (case k15 => k_is)
    (case a16 => k_is); (case l16 => k_is); (case c16 => k_is); (case k16 => k_is)
    (case a17 => k_is); (case l17 => k_is); (case c17 => k_is); (case k17 => k_is)
    (case a18 => k_is); (case l18 => k_is); (case c18 => k_is); (case k18 => k_is)
    (case a19 => k_is); (case l19 => k_is); (case c19 => k_is); (case k19 => k_is)
    (case a20 => k_is); (case l20 => k_is); (case c20 => k_is); (case k20 => k_is)
    (case a21 => k_is); (case l21 => k_is); (case c21 => k_is); (case k21 => k_is)
    (case z_len => k_is); (case z_tuple => k_is); (case z_list => k_is); (case z_range => k_is)
    (case z_sorted => k_is); (case z_set => k_is); (case z_min => k_is); (case z_max => k_is)
    (case z_all => k_is); (case z_any => k_is); (case z_isinstance => k_is); (case z_int => k_is)
    (case z_bool => k_is); (case z_str => k_is); (case y_MOST_PLACES => k_is); (case y_MOST_TURNS => k_is)
    (case y_FIGURES => k_is); (case u_FIGURES => k_is)
#print axioms PySem.Challenge.cw_nearturns_k91_texts_written_and_read_holds

