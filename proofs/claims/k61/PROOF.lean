import PyProof.Rows.All
import Wide.All
import OpenK.AllK
import Wide.FinOn
import PyProof.EqAt
import PyProof.EqKinds
import PyProof.TupleCall
import KE.BitLaws
import PySem.SetOps
import KE.KSortTup
import PyProof.ReprLen
import KE.KDictList
import PyProof.Rows.TupDisplay
import PyProof.Walk
import PyProof.WalkInts
import PyProof.Rows.CallKwBuiltin
import PyProof.Rows.RuleN_abs
import PyProof.Rows.SumAny
import PyProof.ExcClass3
import KE.KTryDeep
import KE.KTryMore
import OpenK.KOwn
import PyProof.ExcBaseAll.ValueError
import KE.KLam
import KE.RegKIsAll
import PyProof.Rows.FStr
import PyProof.ReprBulk
import PySem.Challenge.RW_nearturns_k61_all_webs
set_option Elab.async false
set_option linter.all false
set_option maxRecDepth 100000
/-! THE HAND LAYER, for ints, bools, texts, own classes, lists, tuples, dicts, comprehensions, walks over dicts, enumerate, zip, reversed, texts, calls, loops. Paste it whole ahead of your own text; what your proof does not reach may be deleted. -/
namespace L2
open PySem PySem.Spec PyProof.Rows

/-- a key: an int or a str -/
abbrev Key := Sum Int Str
def keyIs : Key → Value → Bool
  | .inl k, v => Value.isInt k v
  | .inr x, v => Value.isStrOf x v
def keyH (w : World) : Key → Int
  | .inl k => hashInt k
  | .inr x => hashStr w x
theorem keyIs_shape : ∀ {k : Key} {v : Value}, keyIs k v = true → (∃ i t, k = Sum.inl i ∧ v = Value.int i t) ∨ (∃ x t, k = Sum.inr x ∧ v = Value.str x t)
  | .inl i, v, h => by
    obtain ⟨t, e⟩ := Value.isInt_shape (k := i) (v := v) h
    exact .inl ⟨i, t, rfl, e⟩
  | .inr x, v, h => by
    obtain ⟨t, e⟩ := Value.isStrOf_shape (x := x) (v := v) h
    exact .inr ⟨x, t, rfl, e⟩
theorem key_ll (a b : Int) : decide ((Sum.inl a : Key) = Sum.inl b) = (a == b) := by
  by_cases e : a = b
  · subst e; simp
  · have h : ¬ (Sum.inl a : Key) = Sum.inl b := fun q => e (Sum.inl.inj q)
    rw [decide_eq_false h]
    exact (beq_eq_false_iff_ne.mpr e).symm
theorem key_rr (a b : Str) : decide ((Sum.inr a : Key) = Sum.inr b) = decide (a = b) := by
  by_cases e : a = b
  · subst e; simp
  · have h : ¬ (Sum.inr a : Key) = Sum.inr b := fun q => e (Sum.inr.inj q)
    rw [decide_eq_false h, decide_eq_false e]
theorem key_lr (a : Int) (b : Str) : decide ((Sum.inl a : Key) = Sum.inr b) = false := decide_eq_false (fun q => nomatch q)
theorem key_rl (a : Str) (b : Int) : decide ((Sum.inr a : Key) = Sum.inl b) = false := decide_eq_false (fun q => nomatch q)

def mixKind (prog : Program) (w : World) : PySem.KeyKind prog w Key where
  is := keyIs
  hash := keyH w
  inj := fun v a b ha hb => by
    rcases keyIs_shape ha with ⟨i, t, rfl, rfl⟩ | ⟨x, t, rfl, rfl⟩
    · rcases keyIs_shape hb with ⟨j, u, rfl, e⟩ | ⟨y, u, rfl, e⟩
      · injection e with e1 _; rw [e1]
      · exact nomatch e
    · rcases keyIs_shape hb with ⟨j, u, rfl, e⟩ | ⟨y, u, rfl, e⟩
      · exact nomatch e
      · injection e with e1 _; rw [e1]
  byValue := fun k v h => by
    rcases keyIs_shape h with ⟨i, t, rfl, rfl⟩ | ⟨x, t, rfl, rfl⟩ <;> rfl
  pyHash := fun hv h => by
    rcases keyIs_shape hv with ⟨i, t, rfl, rfl⟩ | ⟨x, t, rfl, rfl⟩
    · exact wpAny_pyHash_int h
    · exact wpAny_pyHash_str h
  eqBool := fun hu hv h => by
    rcases keyIs_shape hu with ⟨i, t, rfl, rfl⟩ | ⟨x, t, rfl, rfl⟩
    · rcases keyIs_shape hv with ⟨j, u, rfl, rfl⟩ | ⟨y, u, rfl, rfl⟩
      · rw [key_ll] at h; exact wpAny_eqBool_int h
      · rw [key_lr] at h; exact SeqAt.EqAt.int_str i t y u _ _ _ _ h
    · rcases keyIs_shape hv with ⟨j, u, rfl, rfl⟩ | ⟨y, u, rfl, rfl⟩
      · rw [key_rl] at h; exact SeqAt.EqAt.str_int x t j u _ _ _ _ h
      · rw [key_rr] at h; exact wpAny_eqBool_str h
  «strs» := fun k x t v h => by
    rcases keyIs_shape h with ⟨i, u, rfl, e⟩ | ⟨y, u, rfl, e⟩
    · exact nomatch e
    · injection e with e1 _
      subst e1
      cases v <;> rfl

end L2

namespace L2
open PySem PySem.Spec PyProof.Rows

/-- a value, without the heap -/
inductive V where
  | non | bl (b : Bool) | int (i : Int) | str (x : Str) | byt (b : Array UInt8) | flt (b : UInt64) | ref (a : Addr) | ty (n : String)
  deriving DecidableEq

def RelV : V → Value → Prop
  | .non, u => u = Value.none
  | .bl b, u => u = Value.bool b
  | .int i, u => ∃ t, u = Value.int i t
  | .str x, u => ∃ t, u = Value.str x t
  | .byt b, u => ∃ t, u = Value.bytes b t
  | .flt b, u => ∃ t, u = Value.float b t
  | .ref a, u => u = Value.ref a
  | .ty n, u => u = Value.type n

abbrev Vals : List V → List Value → Prop := Paired RelV
theorem Vals.length {xs : List V} {us : List Value} (r : Vals xs us) : xs.length = us.length := Paired.length r
theorem Vals.get : ∀ {xs : List V} {us : List Value} {i : Nat} {x : V}, Vals xs us → xs[i]? = some x → ∃ u, us[i]? = some u ∧ RelV x u
  | _, _, _, _, .nil, e => by simp at e
  | _, _, 0, _, .cons r _, e => by simp at e; subst e; exact ⟨_, rfl, r⟩
  | _, _, i + 1, x, .cons _ t, e => by
    obtain ⟨u, h1, h2⟩ := Vals.get (i := i) (x := x) t (by simpa using e)
    exact ⟨u, by simpa using h1, h2⟩
theorem Vals.set {x : V} {u : Value} (r : RelV x u) : ∀ {xs : List V} {us : List Value} (i : Nat), Vals xs us → Vals (xs.set i x) (us.set i u)
  | _, _, _, .nil => .nil
  | _, _, 0, .cons _ t => .cons r t
  | _, _, i + 1, .cons q t => .cons q (Vals.set r i t)
theorem Vals.append : ∀ {xs ys : List V} {us ws : List Value}, Vals xs us → Vals ys ws → Vals (xs ++ ys) (us ++ ws)
  | _, _, _, _, .nil, s => s
  | _, _, _, _, .cons r t, s => .cons r (Vals.append t s)

def RelO : Option V → Option Value → Prop
  | some v, some u => RelV v u
  | none, none => True
  | _, _ => False
def KV {κ : Type} : List (κ × V) → List (κ × Value) → Prop := Paired fun (p : κ × V) (q : κ × Value) => p.1 = q.1 ∧ RelV p.2 q.2

/-- a key of a dict (00_mix): an int or a text -/
def kV : Key → V
  | .inl i => .int i
  | .inr x => .str x

/-- what stands at a tracked address -/
inductive HO where
  /-- a list -/
  | lst (xs : List V)
  /-- a tuple (never changes) -/
  | tup (xs : List V)
  /-- a dict whose keys are ints and texts; one whose keys are tuples of ints and texts (the empty one is both) -/
  | dK (kvs : List (Key × V)) | dT (kvs : List (List Key × V))
  /-- a set of ints: its members, its size -/
  | set (S : Int → Bool) (n : Nat)
  /-- an instance of the class at C, its dict at dx, its attributes -/
  | ins (C dx : Addr) (fs : List (Str × V))
  /-- the dict of the instance at x -/
  | own (x : Addr)
  /-- the dict of an exception -/
  | xd (fs : List (Str × V))
  /-- a bound method, f of x -/
  | met (f x : Addr)
  /-- a range object lo, lo + 1, .. below hi -/
  | rng (lo hi : Int)
  /-- a thing that is known to the object (the script; a dict while a loop walks it): read, never written while it is so -/
  | frz (o : Obj) (u : HO)
  /-- a code object's table -/
  | tbl (ps : Array Value)
  /-- any other thing, by what is true of its one object (a def of one's own: SetO a S n := HO.ext fun h => ..) -/
  | ext (φ : Heap → Prop)

abbrev Hp := Addr → Option HO
def upd (H : Hp) (a : Addr) (o : HO) : Hp := fun b => if b = a then some o else H b
theorem upd_same {H : Hp} {a : Addr} {o : HO} : upd H a o a = some o := by unfold upd; rw [if_pos rfl]
theorem upd_ne {H : Hp} {a b : Addr} {o : HO} (h : b ≠ a) : upd H a o b = H b := by unfold upd; rw [if_neg h]
theorem ne_of_none {H : Hp} {a b : Addr} {o : HO} (h : H a = some o) (h' : H b = none) : a ≠ b := by
  intro e; subst e; rw [h] at h'; cases h'

section
variable (P : Program) (w : World)
/-- no dict of its own -/
def NoD (h : Heap) (a : Addr) : Prop := ∀ o, h.get? a = some o → o.dict = none
theorem NoD.of {h : Heap} {a : Addr} {ob : Obj} (e : h.get? a = some ob) (d : ob.dict = none) : NoD h a := fun o q => by rw [e] at q; cases q; exact d
def ObjOk (H : Hp) (h : Heap) (a : Addr) : HO → Prop
  | .lst xs => xs.length ≤ sizeLine ∧ ∃ (its : List Value) (n : Nat), Vals xs its ∧ h.get? a = some { cls := .type "list", data := .seq its.toArray n }
  | .tup xs => (xs.length ≤ sizeLine ∧ NoD h a) ∧ ∃ its : List Value, Vals xs its ∧ IsTup h a its.toArray
  | .dK kvs => kvs.length ≤ sizeLine ∧ (a == sysModules) = false ∧ ∃ vs, KV kvs vs ∧ h.DictOf (mixKind P w) a vs
  | .dT kvs => kvs.length ≤ sizeLine ∧ (a == sysModules) = false ∧ ∃ xs : List (List Key × Addr × Value),
      Paired (fun (p : List Key × V) (q : List Key × Addr × Value) => p.1 = q.1 ∧ H q.2.1 = some (.tup (p.1.map kV)) ∧ RelV p.2 q.2.2) kvs xs ∧
      ∃ o es ep, h.get? a = some o ∧ o.ExactDict ∧ o.data = .dict es ep ∧ es.toList = xs.map (entryOfKey (tupleKind (mixKind P w))) ∧ (xs.map (·.1)).Nodup
  | .set S n => h.SetOf (intKind P w) a S n
  | .ins C dx fs => H dx = some (.own a) ∧ fs.length ≤ 1000 ∧ dx ≠ a ∧ h.get? a = some (PySem.W.instObj C dx) ∧
      ∃ mA, h.Ns1 dx mA ∧ (∀ f, RelO (fs.lookup f) (mA f)) ∧ PySem.Within mA (fs.map (·.1))
  | .own _ => ∃ o, h.get? a = some o
  | .xd fs => ∃ mA, h.Ns1 a mA ∧ ∀ f, RelO (fs.lookup f) (mA f)
  | .rng lo hi => ∃ t u v, h.get? a = some { cls := .type "range", data := .fields #[.int lo t, .int hi u, .int 1 v] }
  | .frz o u => h.get? a = some o ∧ ObjOk H h a u
  | .tbl ps => h.get? a = some { cls := .none, data := .fields ps }
  | .met f x => h.get? a = some (PySem.W.methodObj (.ref f) (.ref x))
  | .ext φ => φ h ∧ (∃ o, h.get? a = some o) ∧ ∀ h1 h2 : Heap, φ h1 → (∀ o, h1.get? a = some o → h2.get? a = some o) → φ h2
/-- the abstract heap is held -/
def HOk (H : Hp) (h : Heap) : Prop := ∀ a o, H a = some o → ObjOk P w H h a o
end

section
variable {P : Program} {w : World} {H H' : Hp} {h h' : Heap} {a : Addr} {o : HO}
theorem ObjOk.lt (x : ObjOk P w H h a o) : a < h.objs.size := by
  cases o with
  | lst xs => obtain ⟨_, _, _, _, e⟩ := x; exact Heap.lt_size e
  | tup xs => obtain ⟨_, _, _, p⟩ := x; exact p.lt
  | dK kvs => obtain ⟨_, _, _, _, o, _, _, e, _⟩ := x; exact Heap.lt_size e
  | dT kvs => obtain ⟨_, _, _, _, o, _, _, e, _⟩ := x; exact Heap.lt_size e
  | set S n => obtain ⟨o, _, _, _, e, _⟩ := x; exact Heap.lt_size e
  | ins C dx fs => obtain ⟨_, _, _, e, _⟩ := x; exact Heap.lt_size e
  | own y => obtain ⟨_, e⟩ := x; exact Heap.lt_size e
  | xd fs => obtain ⟨_, ⟨_, _, _, e, _⟩, _⟩ := x; exact Heap.lt_size e
  | rng lo hi => obtain ⟨_, _, _, e⟩ := x; exact Heap.lt_size e
  | frz ob u => obtain ⟨e, _⟩ := x; exact Heap.lt_size e
  | tbl ps => exact Heap.lt_size (show h.get? a = some _ from x)
  | met f y => exact Heap.lt_size (show h.get? a = some _ from x)
  | ext φ => obtain ⟨_, ⟨_, e⟩, _⟩ := x; exact Heap.lt_size e
theorem Paired.mapP {α β : Type} {F G : α → β → Prop} : ∀ {l₁ : List α} {l₂ : List β}, Paired F l₁ l₂ → (∀ a b, F a b → G a b) → Paired G l₁ l₂
  | _, _, .nil, _ => .nil
  | _, _, .cons r t, f => .cons (f _ _ r) (Paired.mapP t f)
/-- what an object's description leans on: its own object, its own dict, the tuples -/
theorem ObjOk.stay (x : ObjOk P w H h a o) (k : ∀ b u, (b = a ∨ H b = some (.own a)) → h.get? b = some u → h'.get? b = some u)
    (ho : ∀ b, H b = some (.own a) → H' b = some (.own a)) (ht : ∀ b xs, H b = some (.tup xs) → H' b = some (.tup xs)) : ObjOk P w H' h' a o := by
  induction o with
  | lst xs => obtain ⟨z, its, n, r, e⟩ := x; exact ⟨z, its, n, r, k _ _ (.inl rfl) e⟩
  | tup xs => obtain ⟨⟨z, dn⟩, its, r, ob, e, c⟩ := x; exact ⟨⟨z, NoD.of (k _ _ (.inl rfl) e) (dn _ e)⟩, its, r, ob, k _ _ (.inl rfl) e, c⟩
  | dK kvs => obtain ⟨z, y, vs, r, ob, es, ep, e, c⟩ := x; exact ⟨z, y, vs, r, ob, es, ep, k _ _ (.inl rfl) e, c⟩
  | dT kvs =>
    obtain ⟨z, y, xs, r, ob, es, ep, e, c⟩ := x
    exact ⟨z, y, xs, Paired.mapP r fun p q z => ⟨z.1, ht _ _ z.2.1, z.2.2⟩, ob, es, ep, k _ _ (.inl rfl) e, c⟩
  | set S n => obtain ⟨ob, es, ep, t, e, c⟩ := x; exact ⟨ob, es, ep, t, k _ _ (.inl rfl) e, c⟩
  | ins C dx fs =>
    obtain ⟨d, z, ne, e, mA, ⟨od, es, ep, e2, c⟩, r⟩ := x
    exact ⟨ho _ d, z, ne, k _ _ (.inl rfl) e, mA, ⟨od, es, ep, k _ _ (.inr d) e2, c⟩, r⟩
  | own y => obtain ⟨ob, e⟩ := x; exact ⟨ob, k _ _ (.inl rfl) e⟩
  | xd fs => obtain ⟨mA, ⟨od, es, ep, e, c⟩, r⟩ := x; exact ⟨mA, ⟨od, es, ep, k _ _ (.inl rfl) e, c⟩, r⟩
  | rng lo hi => obtain ⟨t, u, v, e⟩ := x; exact ⟨t, u, v, k _ _ (.inl rfl) e⟩
  | frz ob u ih => obtain ⟨e, q⟩ := x; exact ⟨k _ _ (.inl rfl) e, ih q⟩
  | tbl ps =>
    have e : h.get? a = some { cls := .none, data := .fields ps } := x
    show h'.get? a = some { cls := .none, data := .fields ps }
    exact k a _ (.inl rfl) e
  | met f y =>
    have e : h.get? a = some (PySem.W.methodObj (.ref f) (.ref y)) := x
    show h'.get? a = some (PySem.W.methodObj (.ref f) (.ref y))
    exact k a _ (.inl rfl) e
  | ext φ => obtain ⟨p, ⟨o, e⟩, st⟩ := x; exact ⟨st _ _ p fun o q => k _ _ (.inl rfl) q, ⟨o, k _ _ (.inl rfl) e⟩, st⟩
theorem HOk.lt (x : HOk P w H h) (e : H a = some o) : a < h.objs.size := (x a o e).lt
theorem HOk.fresh (x : HOk P w H h) (e : h.objs.size ≤ a) : H a = none := by
  cases q : H a with
  | none => rfl
  | some u => exact absurd (Nat.lt_of_lt_of_le (x.lt q) e) (Nat.lt_irrefl _)
/-- every object of the heap is kept -/
theorem HOk.kept (x : HOk P w H h) (k : ∀ b u, h.get? b = some u → h'.get? b = some u) : HOk P w H h' := fun a o e =>
  (x a o e).stay (fun b u _ q => k b u q) (fun _ q => q) fun _ _ q => q
/-- a new object is laid and tracked -/
theorem HOk.laid (x : HOk P w H h) (k : ∀ b u, h.get? b = some u → h'.get? b = some u) (hp : h.objs.size ≤ a) (new : ObjOk P w (upd H a o) h' a o) : HOk P w (upd H a o) h' := fun b u e => by
  have hn := x.fresh hp
  by_cases hb : b = a
  · subst hb; rw [upd_same] at e; cases e; exact new
  · rw [upd_ne hb] at e
    exact (x b u e).stay (fun c v _ q => k c v q) (fun c q => by rw [upd_ne (ne_of_none q hn)]; exact q) fun c xs q => by rw [upd_ne (ne_of_none q hn)]; exact q
end

/-- what may be read as u: it is u, or a known u -/
def Rd (H : Hp) (a : Addr) (u : HO) : Prop := H a = some u ∨ ∃ o, H a = some (.frz o u)
theorem Rd.ok {P : Program} {w : World} {H : Hp} {h : Heap} {a : Addr} {u : HO} (r : Rd H a u) (x : HOk P w H h) : ObjOk P w H h a u := by
  rcases r with r | ⟨o, r⟩
  · exact x a u r
  · obtain ⟨_, q⟩ := x a _ r
    exact q
/-- what may be written -/
def Mut : Option HO → Prop
  | some (.lst _) => True
  | some (.dK _) => True
  | some (.dT _) => True
  | some (.set _ _) => True
  | some (.ins _ _ _) => True
  | some (.ext _) => True
  | _ => False
section
variable {P : Program} {w : World} {H : Hp} {h h' : Heap} {x e : Addr} {o' : HO}
/-- the object at e is changed: x itself, or the dict of the instance x -/
theorem HOk.write (ok : HOk P w H h) (mu : Mut (H x)) (he : e = x ∨ H e = some (.own x)) (k : ∀ b u, b ≠ e → h.get? b = some u → h'.get? b = some u) (heo : ∃ u, h'.get? e = some u)
    (new : ObjOk P w (upd H x o') h' x o') : HOk P w (upd H x o') h' := fun b u q => by
  have nown : ∀ c y, H c = some (.own y) → c ≠ x := fun c y r z => by subst z; rw [r] at mu; exact mu
  have ntup : ∀ c xs, H c = some (.tup xs) → c ≠ x := fun c xs r z => by subst z; rw [r] at mu; exact mu
  by_cases hb : b = x
  · subst hb; rw [upd_same] at q; cases q; exact new
  · rw [upd_ne hb] at q
    by_cases hbe : b = e
    · have q' : H b = some (.own x) := by
        rcases he with z | z
        · exact absurd (hbe.trans z) hb
        · rw [hbe]; exact z
      rw [q] at q'; cases q'
      obtain ⟨v, hv⟩ := heo
      exact ⟨v, by rw [hbe]; exact hv⟩
    · refine (ok b u q).stay (fun c v hc r => k c v ?_ r) (fun c r => by rw [upd_ne (nown c b r)]; exact r) fun c xs r => by rw [upd_ne (ntup c xs r)]; exact r
      rcases hc with rfl | hc
      · exact hbe
      · rintro rfl
        rcases he with z | z
        · exact nown c b hc z
        · rw [hc] at z; cases z; exact hb rfl
end

/-! ### kept unless tracked; of the frames at fs (the callers') the slots may change (an exception that passes writes there); of the records at ex (iterators) nothing is said -/
structure Un (fs ex : List Addr) (H H' : Hp) (h h' : Heap) : Prop where
  keep : ∀ b o, h.get? b = some o → H b = none → b ∉ fs → b ∉ ex → h'.get? b = some o
  slot : ∀ b o, h.get? b = some o → H b = none → b ∈ fs → b ∉ ex → ∃ sl, h'.get? b = some { o with slots := sl }
  free : ∀ b o, h.get? b = some o → H b = none → b ∉ ex → H' b = none
  there : ∀ b o, h.get? b = some o → b ∉ ex → ∃ o', h'.get? b = some o'
  tups : ∀ b xs, H b = some (.tup xs) → H' b = some (.tup xs)
  frzs : ∀ b o u, H b = some (.frz o u) → H' b = some (.frz o u)
  tbls : ∀ b ps, H b = some (.tbl ps) → ∃ more, H' b = some (.tbl (ps ++ more))
section
variable {fs fs' ex ex' : List Addr} {H H1 H2 : Hp} {h h1 h2 h' : Heap} {a x e : Addr} {o : HO}
theorem Un.any (u : Un fs ex H H1 h h1) {b : Addr} {ob : Obj} (q : h.get? b = some ob) (n : H b = none) (hx : b ∉ ex) : ∃ sl, h1.get? b = some { ob with slots := sl } := by
  by_cases hb : b ∈ fs
  · exact u.slot b ob q n hb hx
  · exact ⟨ob.slots, u.keep b ob q n hb hx⟩
theorem Un.kept (k : ∀ b u, h.get? b = some u → h'.get? b = some u) : Un fs ex H H h h' :=
  ⟨fun b ob q _ _ _ => k b ob q, fun b ob q _ _ _ => ⟨ob.slots, k b ob q⟩, fun _ _ _ n _ => n, fun b ob q _ => ⟨ob, k b ob q⟩, fun _ _ q => q, fun _ _ _ q => q, fun _ ps q => ⟨#[], by rw [q]; simp⟩⟩
theorem Un.refl : Un fs ex H H h h := Un.kept fun _ _ q => q
theorem Un.laid (k : ∀ b u, h.get? b = some u → h'.get? b = some u) (hp : h.objs.size ≤ a) (hn : H a = none) : Un fs ex H (upd H a o) h h' where
  keep := fun b u q _ _ _ => k b u q
  slot := fun b u q _ _ _ => ⟨u.slots, k b u q⟩
  free := fun b u q n _ => by rw [upd_ne (Nat.ne_of_lt (Nat.lt_of_lt_of_le (Heap.lt_size q) hp))]; exact n
  there := fun b u q _ => ⟨u, k b u q⟩
  tups := fun b xs q => by rw [upd_ne (ne_of_none q hn)]; exact q
  frzs := fun b u xs q => by rw [upd_ne (ne_of_none q hn)]; exact q
  tbls := fun b ps q => ⟨#[], by rw [upd_ne (ne_of_none q hn), q]; simp⟩
theorem Un.write (mu : Mut (H x)) (he : e = x ∨ H e = some (.own x)) (k : ∀ b u, b ≠ e → h.get? b = some u → h'.get? b = some u) (heo : ∃ u, h'.get? e = some u) : Un fs ex H (upd H x o) h h' := by
  have hx : ∀ b, H b = none → b ≠ x := fun b n z => by subst z; rw [n] at mu; exact mu
  have hb : ∀ b, H b = none → b ≠ e := fun b n z => by
    subst z
    rcases he with r | r
    · exact hx b n r
    · rw [n] at r; cases r
  have hm : ∀ b u, H b = some u → ¬ Mut (some u) → b ≠ x := fun b u q nm z => by subst z; rw [q] at mu; exact nm mu
  refine ⟨fun b u q n _ _ => k b u (hb b n) q, fun b u q n _ _ => ⟨u.slots, k b u (hb b n) q⟩, fun b u q n _ => by rw [upd_ne (hx b n)]; exact n, fun b u q _ => ?_,
    fun b xs q => by rw [upd_ne (hm b _ q fun z => z)]; exact q, fun b u xs q => by rw [upd_ne (hm b _ q fun z => z)]; exact q, fun b ps q => ⟨#[], by rw [upd_ne (hm b _ q fun z => z), q]; simp⟩⟩
  by_cases hbe : b = e
  · subst hbe; exact heo
  · exact ⟨u, k b u hbe q⟩
end

/-! ### the heap without what is tracked -/
def trk (h : Heap) (H : Hp) : List Addr := (List.range h.objs.size).filter fun a => (H a).isSome
def hidT (h : Heap) (H : Hp) : Heap := PySem.W.hideAll h (trk h H)
theorem hidT_size (h : Heap) (H : Hp) : (hidT h H).objs.size = h.objs.size := PySem.W.hideAll_size _ _
theorem hidT_get {h : Heap} {H : Hp} {b : Addr} {o : Obj} (e : h.get? b = some o) (n : H b = none) : (hidT h H).get? b = some o :=
  PySem.W.hideAll_get _ e fun hm => by
    have q : (H b).isSome = true := (List.mem_filter.mp hm).2
    rw [n] at q; simp at q
theorem of_hidT {h : Heap} {H : Hp} {b : Addr} {o : Obj} (e : (hidT h H).get? b = some o) : h.get? b = some o ∧ H b = none := by
  have e' : h.get? b = some o := PySem.W.of_hideAll (trk h H) e
  refine ⟨e', ?_⟩
  cases q : H b with
  | none => rfl
  | some x =>
    have hm : b ∈ trk h H := List.mem_filter.mpr ⟨List.mem_range.mpr (Heap.lt_size e'), by simp [q]⟩
    have z : (hidT h H).get? b = none := PySem.W.hideAll_none (trk h H) hm
    rw [z] at e; cases e

/-! ### OpenK's ledger, filled with every new object but one -/
end L2

namespace L2
open PySem PySem.Spec PyProof.Rows

/-- the module's facts, over the base: the heap at the law's entry without what is tracked there -/
structure Mod (K : PySem.W.Frag) (mg : Str → Option Value) (base : Heap) : Prop where
  kin : K.In base
  glob : base.Ns mainGlobals mg
  blt : ∃ mb, base.Ns builtinsNs mb ∧ ∀ x : Str, x ≠ "__name__" → mb x = bootBuiltins x
  nolimit : base.NoLimit

/-- the context: a def's body (or a comprehension's block) running. base: fixed through the whole law; s₀, H₀: the entry; outer: the frames whose slots others may change (a def's callers); stack: all frames that run;
   ex: iterators that were made ahead of the entry and are walked here (a comprehension's); fn: the names whose cells were made at the entry (a def: all; a comprehension's block: its own); calm: not within an except suite; pn: pins that every state bears; xe: what is wanted of an exception that leaves the code -/
structure Cx where
  prog : Program
  w : World
  K : PySem.W.Frag
  mg : Str → Option Value
  base : Heap
  A : Around
  N : List Str
  s_0 : Shared
  H_0 : Hp
  env : Env
  outer : List Env
  stack : List Env
  ex : List Addr
  fn : Str → Bool
  calm : Bool
  pn : List (Addr × Obj)
  xe : Value → Shared → Prop
/-- the callers' frames -/
def frs (l : List Env) : List Addr := l.filterMap (·.frame)
abbrev Cx.fs (X : Cx) : List Addr := frs X.outer

def Vis (sc : Scope) (x : Str) : Prop := sc.names.lookup x = some .local ∨ sc.names.lookup x = some .cell ∨ sc.names.lookup x = some .free
def Loc (sc : Scope) (x : Str) : Prop := sc.names.lookup x = some .local ∨ sc.names.lookup x = some .cell
def Look (env : Env) (h : Heap) (m : Str → Option Value) (x : Str) (u : Value) : Prop :=
  (env.kindOf x = some .local ∧ m x = some u) ∨ ((env.kindOf x = some .cell ∨ env.kindOf x = some .free) ∧ ∃ c, env.cells.lookup x = some c ∧ h.IsCell c (some u))

structure Cx.Ok (X : Cx) : Prop where
  mod : Mod X.K X.mg X.base
  kind : X.env.scope.kind = .function
  glob : X.env.globals = mainGlobals
  blt : X.env.builtins = builtinsNs
  above : X.s_0.heap.objs.size ≤ X.env.locals
  inj : ∀ x y c, X.env.cells.lookup x = some c → X.env.cells.lookup y = some c → x = y
  has : ∀ x, (X.env.kindOf x = some .cell ∨ X.env.kindOf x = some .free) → ∃ c, X.env.cells.lookup x = some c
  cab : ∀ x c, X.fn x = true → X.env.cells.lookup x = some c → X.s_0.heap.objs.size ≤ c
  hd : X.calm = true → X.A.handled = none
  frames : X.A.frames = some X.stack
  stk : X.stack = X.outer ∨ (X.stack = X.env :: X.outer ∧ X.env.frame = some X.env.locals)
  exf : ∀ b ∈ X.ex, b ≠ X.env.locals ∧ ∀ x c, X.env.cells.lookup x = some c → c ≠ b
  bs : ∀ b o, X.base.get? b = some o → X.s_0.heap.get? b = some o ∧ X.H_0 b = none
  bsz : X.base.objs.size ≤ X.s_0.heap.objs.size
  noex : ∀ b o, X.base.get? b = some o → b ∉ X.ex
  exfs : ∀ b ∈ X.ex, b ∉ X.fs
  funs : X.s_0.heap.FunFrames X.base X.outer
  frf : ∀ b ∈ X.fs, X.H_0 b = none

structure Inv (X : Cx) (pins : List (Addr × Obj)) (σ : List (Option V)) (H : Hp) (s : Shared) : Prop where
  ok : X.Ok
  os : s.os = X.s_0.os
  bare : AllBare s.gens
  base : Un X.fs X.ex X.H_0 H X.s_0.heap s.heap
  loc : ∃ m, s.heap.Ns X.env.locals m ∧ ∀ (i : Nat) (x : Str) (v : V), X.N[i]? = some x → σ[i]? = some (some v) → Vis X.env.scope x → ∃ u, RelV v u ∧ Look X.env s.heap m x u
  cell : ∀ x c, X.env.cells.lookup x = some c → ∃ v, s.heap.IsCell c v
  free : H X.env.locals = none
  freeC : ∀ x c, X.env.cells.lookup x = some c → H c = none
  pin : ∀ p ∈ X.pn ++ pins, s.heap.get? p.1 = some p.2 ∧ H p.1 = none ∧ p.1 ≠ X.env.locals ∧ p.1 ∉ X.fs ∧ ∀ v, p.2.data ≠ .cell v
  hok : HOk X.prog X.w H s.heap
  len : σ.length = X.N.length

section
variable {X : Cx} {pins : List (Addr × Obj)} {σ : List (Option V)} {H H' : Hp} {s : Shared} {h' : Heap}

theorem Cx.Ok.nofr (ok : X.Ok) {b : Addr} {o : Obj} (e : X.base.get? b = some o) : b ∉ X.fs := fun hb => by
  have := (ok.funs.mem hb).1
  rw [e] at this; cases this
theorem Inv.bs (I : Inv X pins σ H s) : ∀ b o, X.base.get? b = some o → s.heap.get? b = some o ∧ H b = none := fun b o e =>
  ⟨I.base.keep b o (I.ok.bs b o e).1 (I.ok.bs b o e).2 (I.ok.nofr e) (I.ok.noex b o e), I.base.free b o (I.ok.bs b o e).1 (I.ok.bs b o e).2 (I.ok.noex b o e)⟩
theorem Inv.bk (I : Inv X pins σ H s) : ∀ b o, X.base.get? b = some o → s.heap.get? b = some o := fun b o e => (I.bs b o e).1
theorem Inv.mod (I : Inv X pins σ H s) : Mod X.K X.mg X.base := I.ok.mod
theorem Inv.kIn (I : Inv X pins σ H s) : X.K.In s.heap := I.ok.mod.kin.keeps I.bk
theorem Inv.lt (I : Inv X pins σ H s) : X.env.locals < s.heap.objs.size := let ⟨_, hn, _⟩ := I.loc; hn.lt
theorem Inv.sz (I : Inv X pins σ H s) : X.s_0.heap.objs.size ≤ s.heap.objs.size := Nat.le_trans I.ok.above (Nat.le_of_lt I.lt)
theorem Inv.nofs (I : Inv X pins σ H s) {a : Addr} (h : s.heap.objs.size ≤ a) : a ∉ X.fs := fun hb => by
  obtain ⟨_, o, ho, _⟩ := I.ok.funs.mem hb
  exact absurd (Nat.lt_of_lt_of_le (Heap.lt_size ho) (Nat.le_trans I.sz h)) (Nat.lt_irrefl _)
theorem Inv.cne (I : Inv X pins σ H s) : ∀ x c, X.env.cells.lookup x = some c → c ≠ X.env.locals := fun x c e z => by
  obtain ⟨v, o, ho, hd⟩ := I.cell x c e
  obtain ⟨m, ⟨o', es, ep, ho', hd', _⟩, _⟩ := I.loc
  rw [z, ho'] at ho; cases ho; rw [hd'] at hd; cases hd
theorem Inv.funs (I : Inv X pins σ H s) : s.heap.FunFrames X.base X.outer := by
  have all : ∀ (l : List Env), (∀ b ∈ frs l, b ∈ X.fs) → X.s_0.heap.FunFrames X.base l → s.heap.FunFrames X.base l := by
    intro l
    induction l with
    | nil => intro _ _; trivial
    | cons env r ih =>
      intro hs hl
      obtain ⟨hk, ⟨L, o, hf, hn, ho, hd⟩, hr⟩ := hl
      have hL : L ∈ X.fs := hs L (by unfold frs; rw [List.filterMap_cons, hf]; exact List.mem_cons_self)
      obtain ⟨sl, e⟩ := I.base.slot L o ho (I.ok.frf L hL) hL fun z => I.ok.exfs L z hL
      exact ⟨hk, ⟨L, _, hf, hn, e, hd⟩, ih (fun b hb => hs b (by unfold frs; rw [List.filterMap_cons, hf]; exact List.mem_cons_of_mem _ hb)) hr⟩
  exact all X.outer (fun _ hb => hb) I.ok.funs

/-- the frames that run, for a call -/
theorem Inv.stack (I : Inv X pins σ H s) : s.heap.FunFrames X.base X.stack := by
  rcases I.ok.stk with e | ⟨e, hf⟩
  · rw [e]; exact I.funs
  · rw [e]
    obtain ⟨m, hn, _⟩ := I.loc
    refine .cons (by rw [I.ok.kind]; decide) hf hn ?_ I.funs
    exact Heap.get?_none_of_le (Nat.le_trans I.ok.bsz I.ok.above)
theorem Inv.stkSub (I : Inv X pins σ H s) : ∀ b ∈ frs X.stack, b ∈ X.env.locals :: X.fs := fun b hb => by
  rcases I.ok.stk with e | ⟨e, hf⟩
  · rw [e] at hb; exact List.mem_cons_of_mem _ hb
  · rw [e] at hb
    unfold frs at hb
    rw [List.filterMap_cons, hf] at hb
    exact hb
theorem Inv.stkFree (I : Inv X pins σ H s) : ∀ b ∈ frs X.stack, H b = none := fun b hb => by
  rcases List.mem_cons.mp (I.stkSub b hb) with e | hb
  · rw [e]; exact I.free
  · obtain ⟨_, o, ho, _⟩ := I.ok.funs.mem hb
    exact I.base.free b o ho (I.ok.frf b hb) fun z => I.ok.exfs b z hb

/-- THE STEP: the untracked objects but the frame and the records at ch are kept (the callers' frames up to slots), the frame's map is kept, the new abstract heap is held -/
theorem Inv.step {g' : Array GenState} {t' : Nat} {d' : Drawn} {ch : List Addr} (I : Inv X pins σ H s)
    (hch : ∀ b ∈ ch, (b ∈ X.ex ∨ X.s_0.heap.objs.size ≤ b) ∧ b ≠ X.env.locals ∧ (∀ x c, X.env.cells.lookup x = some c → c ≠ b) ∧ ∀ p ∈ X.pn ++ pins, p.1 ≠ b)
    (keep : ∀ b o, b ≠ X.env.locals → b ∉ X.fs → b ∉ ch → s.heap.get? b = some o → H b = none → h'.get? b = some o)
    (slot : ∀ b o, b ≠ X.env.locals → b ∈ X.fs → b ∉ ch → s.heap.get? b = some o → H b = none → ∃ sl, h'.get? b = some { o with slots := sl }) (free : ∀ b o, b ∉ ch → s.heap.get? b = some o → H b = none → H' b = none)
    (there : ∀ b o, b ∉ ch → s.heap.get? b = some o → ∃ o', h'.get? b = some o')
    (tups : ∀ b xs, H b = some (.tup xs) → H' b = some (.tup xs)) (frzs : ∀ b o u, H b = some (.frz o u) → H' b = some (.frz o u)) (tbls : ∀ b ps, H b = some (.tbl ps) → ∃ more, H' b = some (.tbl (ps ++ more)))
    (ns : ∀ m, s.heap.Ns X.env.locals m → h'.Ns X.env.locals m) (hok : HOk X.prog X.w H' h') (hg : AllBare g') :
    Inv X pins σ H' { s with heap := h', gens := g', drawn := d', toks := t' } := by
  have neL : ∀ b o, X.s_0.heap.get? b = some o → b ≠ X.env.locals := fun b o e => Nat.ne_of_lt (Nat.lt_of_lt_of_le (Heap.lt_size e) I.ok.above)
  have neC : ∀ b o, X.s_0.heap.get? b = some o → b ∉ X.ex → b ∉ ch := fun b o e hx hb => by
    rcases (hch b hb).1 with z | z
    · exact hx z
    · exact absurd (Nat.lt_of_lt_of_le (Heap.lt_size e) z) (Nat.lt_irrefl _)
  have cellK : ∀ x c, X.env.cells.lookup x = some c → ∀ v, s.heap.IsCell c v → h'.IsCell c v := fun x c e v ⟨o, ho, hd⟩ => by
    have nch : c ∉ ch := fun z => (hch c z).2.2.1 x c e rfl
    by_cases hc : c ∈ X.fs
    · obtain ⟨sl, q⟩ := slot c o (I.cne x c e) hc nch ho (I.freeC x c e)
      exact ⟨_, q, hd⟩
    · exact ⟨o, keep c o (I.cne x c e) hc nch ho (I.freeC x c e), hd⟩
  refine ⟨I.ok, I.os, hg, ⟨fun b o e n hb hx => ?_, fun b o e n hb hx => ?_, fun b o e n hx => ?_, fun b o e hx => ?_, fun b xs e => tups b xs (I.base.tups b xs e), fun b o xs e => frzs b o xs (I.base.frzs b o xs e), fun b ps e => ?_⟩, ?_, fun x c e => ?_, ?_, fun x c e => ?_, fun p hp => ?_, hok, I.len⟩
  · exact keep b o (neL b o e) hb (neC b o e hx) (I.base.keep b o e n hb hx) (I.base.free b o e n hx)
  · obtain ⟨sl, e1⟩ := I.base.slot b o e n hb hx
    obtain ⟨sl', e2⟩ := slot b _ (neL b o e) hb (neC b o e hx) e1 (I.base.free b o e n hx)
    exact ⟨sl', e2⟩
  · obtain ⟨o', e1⟩ := I.base.there b o e hx
    exact free b o' (neC b o e hx) e1 (I.base.free b o e n hx)
  · obtain ⟨o', e1⟩ := I.base.there b o e hx
    exact there b o' (neC b o e hx) e1
  · obtain ⟨m1, e1⟩ := I.base.tbls b ps e
    obtain ⟨m2, e2⟩ := tbls b _ e1
    exact ⟨m1 ++ m2, by rw [e2, Array.append_assoc]⟩
  · obtain ⟨m, hn, hl⟩ := I.loc
    refine ⟨m, ns m hn, fun i x v e1 e2 e3 => ?_⟩
    obtain ⟨u, r, l⟩ := hl i x v e1 e2 e3
    refine ⟨u, r, ?_⟩
    rcases l with l | ⟨k, c, e, z⟩
    · exact .inl l
    · exact .inr ⟨k, c, e, cellK x c e _ z⟩
  · obtain ⟨v, z⟩ := I.cell x c e
    exact ⟨v, cellK x c e v z⟩
  · obtain ⟨m, ⟨o, _, _, ho, _⟩, _⟩ := I.loc
    exact free _ o (fun z => (hch _ z).2.1 rfl) ho I.free
  · obtain ⟨v, o, ho, hd⟩ := I.cell x c e
    exact free c o (fun z => (hch c z).2.2.1 x c e rfl) ho (I.freeC x c e)
  · obtain ⟨e, n, ne, nf, d⟩ := I.pin p hp
    have nch : p.1 ∉ ch := fun z => (hch p.1 z).2.2.2 p hp rfl
    exact ⟨keep p.1 p.2 ne nf nch e n, free p.1 p.2 nch e n, ne, nf, d⟩
/-- .. where the frame's own object is kept too -/
theorem Inv.un {t' : Nat} (I : Inv X pins σ H s) (u : Un X.fs [] H H' s.heap h') (hok : HOk X.prog X.w H' h') : Inv X pins σ H' { s with heap := h', toks := t' } := by
  obtain ⟨m, ⟨o, es, ep, ho, r⟩, _⟩ := id I.loc
  obtain ⟨sl, hL⟩ := u.any ho I.free (by simp)
  exact I.step (g' := s.gens) (d' := s.drawn) (ch := []) (fun _ z => nomatch z) (fun b o _ hb _ e n => u.keep b o e n hb (by simp)) (fun b o _ hb _ e n => u.slot b o e n hb (by simp)) (fun b o _ e n => u.free b o e n (by simp)) (fun b o _ e => u.there b o e (by simp)) u.tups u.frzs u.tbls (fun m' hm => by
    obtain ⟨o', es', ep', ho', r'⟩ := hm
    rw [ho] at ho'; cases ho'
    exact ⟨_, es', ep', hL, r'⟩) hok I.bare
/-- behind a call (or a comprehension's block): the slots of this frame may have changed too, the records at ch may have turned -/
theorem Inv.call {g' : Array GenState} {t' : Nat} {d' : Drawn} {ch : List Addr} (I : Inv X pins σ H s) (u : Un (frs X.stack) ch H H' s.heap h') (hok : HOk X.prog X.w H' h') (hg : AllBare g')
    (hch : ∀ b ∈ ch, (b ∈ X.ex ∨ X.s_0.heap.objs.size ≤ b) ∧ b ≠ X.env.locals ∧ (∀ x c, X.env.cells.lookup x = some c → c ≠ b) ∧ ∀ p ∈ X.pn ++ pins, p.1 ≠ b) :
    Inv X pins σ H' { s with heap := h', gens := g', drawn := d', toks := t' } := by
  obtain ⟨m, ⟨o, es, ep, ho, r⟩, _⟩ := id I.loc
  obtain ⟨sl, hL⟩ := u.any ho I.free fun z => (hch _ z).2.1 rfl
  exact I.step (ch := ch) hch (fun b o hL hb hc e n => u.keep b o e n (fun z => (List.mem_cons.mp (I.stkSub b z)).elim hL hb) hc) (fun b o _ _ hc e n => u.any e n hc) (fun b o hc e n => u.free b o e n hc) (fun b o hc e => u.there b o e hc) u.tups u.frzs u.tbls (fun m' hm => by
    obtain ⟨o', es', ep', ho', r'⟩ := hm
    rw [ho] at ho'; cases ho'
    exact ⟨_, es', ep', hL, r'⟩) hok hg
/-- an untracked record of ours (an iterator) has turned -/
theorem Inv.turned {t' : Nat} {it : Addr} (I : Inv X pins σ H s) (k : ∀ b o, b ≠ it → s.heap.get? b = some o → h'.get? b = some o) (hn : H it = none) (hL : it ≠ X.env.locals)
    (h1 : it ∈ X.ex ∨ X.s_0.heap.objs.size ≤ it) (h2 : ∀ x c, X.env.cells.lookup x = some c → c ≠ it) (h3 : ∀ p ∈ X.pn ++ pins, p.1 ≠ it) : Inv X pins σ H { s with heap := h', toks := t' } := by
  have nit : ∀ b u, H b = some u → b ≠ it := fun b u e z => by rw [z, hn] at e; cases e
  refine I.step (g' := s.gens) (d' := s.drawn) (ch := [it]) (fun b hb => ?_) (fun b o _ _ hc e _ => k b o (fun z => hc (by simp [z])) e) (fun b o _ _ hc e _ => ⟨o.slots, k b o (fun z => hc (by simp [z])) e⟩) (fun _ _ _ _ n => n)
    (fun b o hc e => ⟨o, k b o (fun z => hc (by simp [z])) e⟩) (fun _ _ e => e) (fun _ _ _ e => e) (fun b ps e => ⟨#[], by rw [e]; simp⟩) (fun m hm => ?_) (fun b u e => ?_) I.bare
  · have e : b = it := by simpa using hb
    subst e
    exact ⟨h1, hL, h2, h3⟩
  · obtain ⟨o, es, ep, ho, r⟩ := hm
    exact ⟨o, es, ep, k _ o (Ne.symm hL) ho, r⟩
  · refine (I.hok b u e).stay (fun c v hc q => k c v ?_ q) (fun _ q => q) fun _ _ q => q
    rcases hc with z | z
    · rw [z]; exact nit b u e
    · exact nit c _ z
theorem Inv.tok (I : Inv X pins σ H s) (t : Nat) : Inv X pins σ H { s with toks := t } := I.un (h' := s.heap) (t' := t) Un.refl I.hok
/-- all objects kept -/
theorem Inv.kept {t' : Nat} (I : Inv X pins σ H s) (k : ∀ b u, s.heap.get? b = some u → h'.get? b = some u) : Inv X pins σ H { s with heap := h', toks := t' } := I.un (Un.kept k) (I.hok.kept k)
/-- a new object laid and tracked -/
theorem Inv.laid {a : Addr} {o : HO} {t' : Nat} (I : Inv X pins σ H s) (k : ∀ b u, s.heap.get? b = some u → h'.get? b = some u) (hp : s.heap.objs.size ≤ a) (new : ObjOk X.prog X.w (upd H a o) h' a o) :
    Inv X pins σ (upd H a o) { s with heap := h', toks := t' } := I.un (Un.laid k hp (I.hok.fresh hp)) (I.hok.laid k hp new)
/-- an object written -/
theorem Inv.write {x e : Addr} {o : HO} {t' : Nat} (I : Inv X pins σ H s) (mu : Mut (H x)) (he : e = x ∨ H e = some (.own x)) (k : ∀ b u, b ≠ e → s.heap.get? b = some u → h'.get? b = some u) (heo : ∃ u, h'.get? e = some u)
    (new : ObjOk X.prog X.w (upd H x o) h' x o) : Inv X pins σ (upd H x o) { s with heap := h', toks := t' } := I.un (Un.write mu he k heo) (I.hok.write mu he k heo new)
/-- forgetting slots, pins -/
theorem Inv.weak {σ' : List (Option V)} (I : Inv X pins σ H s) (hl : σ'.length = σ.length) (w : ∀ (i : Nat) v, σ'[i]? = some (some v) → σ[i]? = some (some v)) : Inv X pins σ' H s :=
  ⟨I.ok, I.os, I.bare, I.base, let ⟨m, hn, hl'⟩ := I.loc; ⟨m, hn, fun i x v e1 e2 e3 => hl' i x v e1 (w i v e2) e3⟩, I.cell, I.free, I.freeC, I.pin, I.hok, hl.trans I.len⟩
theorem Inv.pins_of {pins' : List (Addr × Obj)} (I : Inv X pins σ H s) (h : ∀ p ∈ pins', s.heap.get? p.1 = some p.2 ∧ H p.1 = none ∧ p.1 ≠ X.env.locals ∧ p.1 ∉ X.fs ∧ ∀ v, p.2.data ≠ .cell v) : Inv X pins' σ H s :=
  ⟨I.ok, I.os, I.bare, I.base, I.loc, I.cell, I.free, I.freeC, fun p hp => (List.mem_append.mp hp).elim (fun z => I.pin p (List.mem_append_left _ z)) (h p), I.hok, I.len⟩

theorem nodup_ix {N : List Str} (hN : N.Nodup) {i j : Nat} {x : Str} (a : N[i]? = some x) (b : N[j]? = some x) : i = j := by
  obtain ⟨h1, e1⟩ := List.getElem?_eq_some_iff.mp a
  obtain ⟨h2, e2⟩ := List.getElem?_eq_some_iff.mp b
  exact (List.getElem_inj hN).mp (e1.trans e2.symm)

/-- a name is stored; what changed -/
theorem store_ok2 {M : Model} {A : Around} {E : Value → Shared → Prop} {i : Nat} {x : Str} {v : V} {u : Value} {Q : Unit → Shared → Prop} (I : Inv X pins σ H s) (hN : X.N.Nodup) (hi : X.N[i]? = some x) (hx : Loc X.env.scope x) (r : RelV v u)
    (h : ∀ s', Inv X pins (σ.set i (some v)) H s' → (∃ a, Heap.SameBut a s.heap s'.heap ∧ (a = X.env.locals ∨ X.env.cells.lookup x = some a)) → Q () s') (hf : X.fn x = true ∨ X.env.scope.names.lookup x = some .local := by first | exact .inl rfl | exact .inr rfl | assumption) : wpAny M A (storeName X.env x u) Q E s := by
  obtain ⟨m, hn, hl⟩ := id I.loc
  have hcls : (X.env.scope.kind == .class || (X.env.scope.kind == .module && X.env.locals != X.env.globals)) = false := by rw [I.ok.kind]; rfl
  have hiσ : i < σ.length := by rw [I.len]; exact (List.getElem?_eq_some_iff.mp hi).1
  have cne := I.cne
  have tracked : ∀ {a : Addr} {h' : Heap}, (∃ o, s.heap.get? a = some o ∧ H a = none) → Heap.SameBut a s.heap h' → HOk X.prog X.w H h' := fun {a h'} ha hs b ob e => by
    obtain ⟨_, _, hfree⟩ := ha
    refine (I.hok b ob e).stay (fun c w' hc q => (hs.2 c ?_).trans q) (fun _ q => q) fun _ _ q => q
    rintro rfl
    rcases hc with rfl | hc
    · rw [hfree] at e; cases e
    · rw [hfree] at hc; cases hc
  rcases hx with hk | hk
  · refine wpAny_storeName_local hk hn (fun h' hn' hs => ?_) hcls
    obtain ⟨oL, _, _, hoL, _⟩ := id hn
    refine h _ ⟨I.ok, I.os, I.bare, ⟨fun b o e n hb hx => ?_, fun b o e n hb hx => ?_, I.base.free, fun b o e hx => ?_, I.base.tups, I.base.frzs, I.base.tbls⟩, ⟨_, hn', fun j y v' e1 e2 e3 => ?_⟩, fun y c e => ?_, I.free, I.freeC, fun p hp => ?_, tracked ⟨oL, hoL, I.free⟩ hs, by simpa using I.len⟩ ⟨_, hs, .inl rfl⟩
    · exact (hs.2 b (Nat.ne_of_lt (Nat.lt_of_lt_of_le (Heap.lt_size e) I.ok.above))).trans (I.base.keep b o e n hb hx)
    · obtain ⟨sl, e1⟩ := I.base.slot b o e n hb hx
      exact ⟨sl, (hs.2 b (Nat.ne_of_lt (Nat.lt_of_lt_of_le (Heap.lt_size e) I.ok.above))).trans e1⟩
    · obtain ⟨o', e1⟩ := I.base.there b o e hx
      exact ⟨o', (hs.2 b (Nat.ne_of_lt (Nat.lt_of_lt_of_le (Heap.lt_size e) I.ok.above))).trans e1⟩
    · by_cases hj : j = i
      · subst hj
        rw [hi] at e1; cases e1
        rw [List.getElem?_set_self hiσ] at e2
        cases e2
        exact ⟨u, r, .inl ⟨hk, by simp⟩⟩
      · rw [List.getElem?_set_ne (Ne.symm hj)] at e2
        obtain ⟨u', r', q⟩ := hl j y v' e1 e2 e3
        refine ⟨u', r', ?_⟩
        rcases q with ⟨k, e⟩ | ⟨k, c, e, z⟩
        · refine .inl ⟨k, ?_⟩
          have : y ≠ x := fun e => hj (nodup_ix hN e1 (e ▸ hi))
          simp [this, e]
        · exact .inr ⟨k, c, e, z.sameBut hs (cne y c e)⟩
    · obtain ⟨w', z⟩ := I.cell y c e
      exact ⟨w', z.sameBut hs (cne y c e)⟩
    · obtain ⟨e, n, ne, nf, d⟩ := I.pin p hp
      exact ⟨(hs.2 p.1 ne).trans e, n, ne, nf, d⟩
  · have hfn : X.fn x = true := by
      rcases hf with z | z
      · exact z
      · rw [z] at hk; cases hk
    obtain ⟨c, hc⟩ := I.ok.has x (.inl hk)
    obtain ⟨w', z⟩ := I.cell x c hc
    refine wpAny_storeName_cell I.ok.kind hk hc z (fun h' hc' hs => ?_)
    obtain ⟨oc, hoc, hocd⟩ := id z
    refine h { s with heap := h' } ⟨I.ok, I.os, I.bare, ⟨fun b o e n hb hx => ?_, fun b o e n hb hx => ?_, I.base.free, fun b o e hx => ?_, I.base.tups, I.base.frzs, I.base.tbls⟩, ⟨m, hn.sameBut hs (Ne.symm (cne x c hc)), fun j y v' e1 e2 e3 => ?_⟩, fun y c' e => ?_, I.free, I.freeC, fun p hp => ?_, tracked ⟨oc, hoc, I.freeC x c hc⟩ hs, by simpa using I.len⟩ ⟨c, hs, .inr hc⟩
    · exact (hs.2 b (Nat.ne_of_lt (Nat.lt_of_lt_of_le (Heap.lt_size e) (I.ok.cab x c hfn hc)))).trans (I.base.keep b o e n hb hx)
    · obtain ⟨sl, e1⟩ := I.base.slot b o e n hb hx
      exact ⟨sl, (hs.2 b (Nat.ne_of_lt (Nat.lt_of_lt_of_le (Heap.lt_size e) (I.ok.cab x c hfn hc)))).trans e1⟩
    · obtain ⟨o', e1⟩ := I.base.there b o e hx
      exact ⟨o', (hs.2 b (Nat.ne_of_lt (Nat.lt_of_lt_of_le (Heap.lt_size e) (I.ok.cab x c hfn hc)))).trans e1⟩
    · by_cases hj : j = i
      · subst hj
        rw [hi] at e1; cases e1
        rw [List.getElem?_set_self hiσ] at e2
        cases e2
        exact ⟨u, r, .inr ⟨.inl hk, c, hc, hc'⟩⟩
      · rw [List.getElem?_set_ne (Ne.symm hj)] at e2
        obtain ⟨u', r', q⟩ := hl j y v' e1 e2 e3
        refine ⟨u', r', ?_⟩
        rcases q with q | ⟨k, c', e, z'⟩
        · exact .inl q
        · refine .inr ⟨k, c', e, z'.sameBut hs ?_⟩
          rintro rfl
          exact hj (nodup_ix hN e1 (I.ok.inj _ _ _ e hc ▸ hi))
    · by_cases hcc : c' = c
      · subst hcc; exact ⟨_, hc'⟩
      · obtain ⟨w2, z2⟩ := I.cell y c' e
        exact ⟨w2, z2.sameBut hs hcc⟩
    · obtain ⟨e, n, ne, nf, d⟩ := I.pin p hp
      refine ⟨(hs.2 p.1 ?_).trans e, n, ne, nf, d⟩
      intro q
      rw [q, hoc] at e
      have q' : oc = p.2 := Option.some.inj e
      exact d w' (by rw [← q']; exact hocd)
theorem store_ok {M : Model} {A : Around} {E : Value → Shared → Prop} {i : Nat} {x : Str} {v : V} {u : Value} {Q : Unit → Shared → Prop} (I : Inv X pins σ H s) (hN : X.N.Nodup) (hi : X.N[i]? = some x) (hx : Loc X.env.scope x) (r : RelV v u)
    (h : ∀ s', Inv X pins (σ.set i (some v)) H s' → Q () s') (hf : X.fn x = true ∨ X.env.scope.names.lookup x = some .local := by first | exact .inl rfl | exact .inr rfl | assumption) : wpAny M A (storeName X.env x u) Q E s :=
  store_ok2 I hN hi hx r (fun s' I' _ => h s' I') hf
/-- behind a call or a block, the state as it is -/
theorem Inv.call' {s' : Shared} {ch : List Addr} (I : Inv X pins σ H s) (ho : s'.os = s.os) (u : Un (frs X.stack) ch H H' s.heap s'.heap) (hok : HOk X.prog X.w H' s'.heap) (hg : AllBare s'.gens)
    (hch : ∀ b ∈ ch, (b ∈ X.ex ∨ X.s_0.heap.objs.size ≤ b) ∧ b ≠ X.env.locals ∧ (∀ x c, X.env.cells.lookup x = some c → c ≠ b) ∧ ∀ p ∈ X.pn ++ pins, p.1 ≠ b) : Inv X pins σ H' s' := by
  obtain ⟨h', g', d', t', o'⟩ := s'
  have e : o' = s.os := ho
  subst e
  exact I.call (g' := g') (t' := t') (d' := d') u hok hg hch
end

/-! ### the judgements -/
/-- an exception: its class, its own dict's address (where it has one), the abstract heap behind it -/
abbrev XK := Value → Option Addr → Hp → Prop
abbrev St := List (Option V)
abbrev VK := V → Hp → Prop
/-- an expression's reading; a test's; an argument list's -/
abbrev TE := St → Hp → VK → Prop
abbrev TT := St → Hp → (Bool → Hp → Prop) → Prop
abbrev TA := St → Hp → (List V → Hp → Prop) → Prop
/-- what is wanted behind a statement -/
structure Ends where
  nx : St → Hp → Prop
  rt : VK
  bk : St → Hp → Prop := fun _ _ => False
  ct : St → Hp → Prop := fun _ _ => False
abbrev TS := Ends → St → Hp → Prop

def EP (X : Cx) (pins : List (Addr × Obj)) (σ : St) (Q : VK) (u : Value) (s' : Shared) : Prop := ∃ v H', Inv X pins σ H' s' ∧ RelV v u ∧ Q v H'
def TP (X : Cx) (pins : List (Addr × Obj)) (σ : St) (Q : Bool → Hp → Prop) (b : Bool) (s' : Shared) : Prop := ∃ H', Inv X pins σ H' s' ∧ Q b H'
def AP (X : Cx) (pins : List (Addr × Obj)) (σ : St) (Q : List V → Hp → Prop) (us : List Value) (s' : Shared) : Prop := ∃ vs H', Inv X pins σ H' s' ∧ Vals vs us ∧ Q vs H'
def SP (X : Cx) (pins : List (Addr × Obj)) (D : Ends) (f : Flow) (s' : Shared) : Prop :=
  match f with
  | .next => ∃ σ' H', Inv X pins σ' H' s' ∧ D.nx σ' H'
  | .brk => ∃ σ' H', Inv X pins σ' H' s' ∧ D.bk σ' H'
  | .cont => ∃ σ' H', Inv X pins σ' H' s' ∧ D.ct σ' H'
  | .ret u => ∃ v σ' H', Inv X pins σ' H' s' ∧ RelV v u ∧ D.rt v H'

def PE (X : Cx) (e : Expr) (t : TE) : Prop :=
  ∀ (pins : List (Addr × Obj)) (s : Shared) (σ : St) (H : Hp) (Q : VK), Inv X pins σ H s → t σ H Q → wpAny (model X.prog X.w) X.A (eval e X.env) (EP X pins σ Q) X.xe s
def PT (X : Cx) (e : Expr) (t : TT) : Prop :=
  ∀ (pins : List (Addr × Obj)) (s : Shared) (σ : St) (H : Hp) (Q : Bool → Hp → Prop), Inv X pins σ H s → t σ H Q → wpAny (model X.prog X.w) X.A (isTrue e X.env (eval e X.env)) (TP X pins σ Q) X.xe s
/-- a test whatever its 'whole' is (and, or) -/
def PW (X : Cx) (e : Expr) (t : TT) : Prop :=
  ∀ (whole : Sem Value) (pins : List (Addr × Obj)) (s : Shared) (σ : St) (H : Hp) (Q : Bool → Hp → Prop), Inv X pins σ H s → t σ H Q → wpAny (model X.prog X.w) X.A (isTrue e X.env whole) (TP X pins σ Q) X.xe s
theorem PW.pt {X : Cx} {e : Expr} {t : TT} (h : PW X e t) : PT X e t := h _
/-- an argument list (no star), from the left -/
def PA (X : Cx) (es : List Expr) (t : TA) : Prop :=
  ∀ (pos : Pos) (pins : List (Addr × Obj)) (s : Shared) (σ : St) (H : Hp) (Q : List V → Hp → Prop), Inv X pins σ H s → t σ H Q → wpAny (model X.prog X.w) X.A (spliced (backTo pos (starEach es X.env))) (AP X pins σ Q) X.xe s
def PS (X : Cx) (st : Stmt) (t : TS) : Prop :=
  ∀ (pins : List (Addr × Obj)) (s : Shared) (σ : St) (H : Hp) (D : Ends), Inv X pins σ H s → t D σ H → wpAny (model X.prog X.w) X.A (exec st X.env) (SP X pins D) X.xe s
def PSs (X : Cx) (st : List Stmt) (t : TS) : Prop :=
  ∀ (pins : List (Addr × Obj)) (s : Shared) (σ : St) (H : Hp) (D : Ends), Inv X pins σ H s → t D σ H → wpAny (model X.prog X.w) X.A (execs st X.env) (SP X pins D) X.xe s
/-- weaken the end -/
theorem thn {α : Type} {t : Sem α} {Q Q' : α → Shared → Prop} {M : Model} {A : Around} {E : Value → Shared → Prop} {s : Shared} (h : wpAny M A t Q E s) (hQ : ∀ a s, Q a s → Q' a s) : wpAny M A t Q' E s := wpAny_mono h hQ fun _ _ x => x
end L2

namespace L2
open PySem PySem.Spec PyProof.Rows
section
variable {X : Cx}


/-! ### names and constants -/
def tVar (i : Nat) : TE := fun σ H Q => ∃ v, σ[i]? = some (some v) ∧ Q v H
def tC (v : V) : TE := fun _ H Q => Q v H
theorem pe_var {i : Nat} {x : Str} {pos : Pos} (hN : X.N[i]? = some x) (hv : Vis X.env.scope x) (hd : (x == ("__debug__" : Str)) = false := by decide) (hcd : (x == ("__classdict__" : Str)) = false := by decide) : PE X (.Name x pos) (tVar i) := by
  intro pins s σ H Q I h
  obtain ⟨v, e, h⟩ := h
  obtain ⟨m, hn, hl⟩ := I.loc
  obtain ⟨u, r, l⟩ := hl i x v hN e hv
  have fin : EP X pins σ Q u s := ⟨v, H, I, r, h⟩
  rcases l with ⟨hk, hm⟩ | ⟨hk, c, hc, hcell⟩
  · exact wpAny_Name (wpAny_loadName_local I.ok.kind hk hn hm fin) hd
  · rcases hk with hk | hk
    · exact wpAny_Name (wpAny_loadName_cell I.ok.kind hk hc hcell fin) hd
    · exact wpAny_Name (wpAny_loadName_free I.ok.kind hk hc hcell fin hcd) hd
theorem pe_int {i j pos} : PE X (.Constant (.int i) j pos) (tC (.int i)) := fun _ _ _ H _ I h => wpAny_Constant_int ⟨.int i, H, I.tok _, ⟨_, rfl⟩, h⟩
theorem pe_bl {b j pos} : PE X (.Constant (.bool b) j pos) (tC (.bl b)) := fun _ _ _ H _ I h => Constant_bool ⟨.bl b, H, I, rfl, h⟩
theorem pe_non {j pos} : PE X (.Constant .none j pos) (tC .non) := fun _ _ _ H _ I h => Constant_none ⟨.non, H, I, rfl, h⟩

/-- a global name of the def -/
def Gl (X : Cx) (x : Str) : Prop := X.env.kindOf x = some .globalImplicit
theorem ld_glob {E : Value → Shared → Prop} {pins : List (Addr × Obj)} {s : Shared} {σ : St} {H : Hp} {x : Str} {u : Value} {pos : Pos} {Q : Value → Shared → Prop} (I : Inv X pins σ H s) (hg : Gl X x) (hm : X.mg x = some u) (h : Q u s)
    (hd : (x == ("__debug__" : Str)) = false := by decide) : wpAny (model X.prog X.w) X.A (eval (.Name x pos) X.env) Q E s :=
  Calls.Name_function_global I.ok.kind hg (Calls.loadGlobal_global (by rw [I.ok.glob]; exact I.mod.glob.keeps I.bk) hm h) hd
theorem ld_blt {E : Value → Shared → Prop} {pins : List (Addr × Obj)} {s : Shared} {σ : St} {H : Hp} {x : Str} {u : Value} {pos : Pos} {Q : Value → Shared → Prop} (I : Inv X pins σ H s) (hg : Gl X x) (hm : X.mg x = none) (hv : bootBuiltins x = some u) (h : Q u s)
    (hn : x ≠ "__name__" := by decide) (hd : (x == ("__debug__" : Str)) = false := by decide) : wpAny (model X.prog X.w) X.A (eval (.Name x pos) X.env) Q E s := by
  obtain ⟨mb, h1, h2⟩ := I.mod.blt
  exact Calls.Name_function_global I.ok.kind hg (Calls.loadGlobal_builtin (by rw [I.ok.glob]; exact I.mod.glob.keeps I.bk) hm (by rw [I.ok.blt]; exact h1.keeps I.bk) ((h2 x hn).trans hv) h) hd
/-- a module's constant, a class, a function, as a value -/
theorem pe_glob {x : Str} {v : V} {u : Value} {pos : Pos} (hg : Gl X x) (hm : X.mg x = some u) (r : RelV v u) (hd : (x == ("__debug__" : Str)) = false := by decide) : PE X (.Name x pos) (tC v) :=
  fun _ _ _ H _ I h => ld_glob I hg hm ⟨v, H, I, r, h⟩ hd
theorem pe_bltn {x : Str} {v : V} {u : Value} {pos : Pos} (hg : Gl X x) (hm : X.mg x = none) (hv : bootBuiltins x = some u) (r : RelV v u) (hn : x ≠ "__name__" := by decide) (hd : (x == ("__debug__" : Str)) = false := by decide) : PE X (.Name x pos) (tC v) :=
  fun _ _ _ H _ I h => ld_blt I hg hm hv ⟨v, H, I, r, h⟩ hn hd

/-! ### arithmetic -/
variable {a b : Expr} {ta tb : TE} {pos : Pos}

/-! ### comparisons -/
/-- a comparison as a value, as a test -/
def tB (t : TE) : TT := fun σ H Q => t σ H fun x H1 => ∃ c, x = .bl c ∧ Q c H1
/-- an expression whose value is a bool, as a test -/
theorem pt_val {e : Expr} {t : TE} (h : PE X e t) (he : ∀ whole, isTrue e X.env whole = (do let v ← whole; standAt e.pos; holding [v] (truthy v)) := by intro _; rfl) : PT X e (tB t) := by
  intro pins s σ H Q I hw
  refine isTrue_plain (thn (h pins s σ H _ I hw) fun v s1 ⟨x, H1, I1, r1, q1⟩ => ?_) (he _)
  obtain ⟨d, rfl, q⟩ := q1
  cases r1
  exact wpAny_truthy_bool ⟨H1, I1, q⟩

/-! ### and, or, not -/
variable {tA tB' : TT} {rest : List Expr}
def tOr (t u : TT) : TT := fun σ H Q => t σ H fun c H1 => if c = true then Q true H1 else u σ H1 Q
def tNot (t : TT) : TT := fun σ H Q => t σ H fun c H1 => Q (!c) H1
theorem pw_or1 (ha : PT X a tA) : PW X (.BoolOp .Or [a] pos) tA := by
  intro wh pins s σ H Q I h
  refine isTrue_or (thn (ha pins s σ H Q I h) fun c s1 e => ?_)
  cases c with
  | false => exact isTrue_or_nil e
  | true => exact e
theorem pw_or (ha : PT X a tA) (hb : PW X (.BoolOp .Or (b :: rest) pos) tB') : PW X (.BoolOp .Or (a :: b :: rest) pos) (tOr tA tB') := by
  intro wh pins s σ H Q I h
  refine isTrue_or (thn (ha pins s σ H _ I h) fun c s1 ⟨H1, I1, q1⟩ => ?_)
  cases c with
  | true => exact ⟨H1, I1, q1⟩
  | false => exact hb wh pins s1 σ H1 Q I1 q1
theorem pt_not (ha : PT X a tA) : PT X (.UnaryOp .Not a pos) (tNot tA) := by
  intro pins s σ H Q I h
  exact isTrue_not (ha pins s σ H (fun c H1 => Q (!c) H1) I h)
end
end L2

namespace L2
open PySem PySem.Spec PyProof.Rows

/-! ### a list, a tuple that is read: tracked, frozen, or an object of the module -/
def SqL (K : PySem.W.Frag) (H : Hp) (a : Addr) (xs : List V) : Prop :=
  Rd H a (.lst xs) ∨
    ∃ (o : Obj) (its : Array Value) (n : Nat), K.lookup a = some o ∧ o.cls = .type "list" ∧ o.dict = none ∧ o.data = .seq its n ∧ its.size ≤ sizeLine ∧ Vals xs its.toList
def SqT (K : PySem.W.Frag) (H : Hp) (a : Addr) (xs : List V) : Prop :=
  Rd H a (.tup xs) ∨
    ∃ (o : Obj) (its : Array Value) (n : Nat), K.lookup a = some o ∧ o.cls = .type "tuple" ∧ o.dict = none ∧ o.data = .seq its n ∧ its.size ≤ sizeLine ∧ Vals xs its.toList
def absV : Value → Option V
  | .none => some .non
  | .bool b => some (.bl b)
  | .int i _ => some (.int i)
  | .str x _ => some (.str x)
  | .bytes b _ => some (.byt b)
  | .float b _ => some (.flt b)
  | .ref a => some (.ref a)
  | .type n => some (.ty n)
  | _ => none
theorem RelV.abs {x : V} {u : Value} (r : RelV x u) : absV u = some x := by
  cases x with
  | non => cases r; rfl
  | bl _ => cases r; rfl
  | int _ => obtain ⟨t, rfl⟩ := r; rfl
  | str _ => obtain ⟨t, rfl⟩ := r; rfl
  | byt _ => obtain ⟨t, rfl⟩ := r; rfl
  | flt _ => obtain ⟨t, rfl⟩ := r; rfl
  | ref _ => cases r; rfl
  | ty _ => cases r; rfl
theorem RelV.inj {x y : V} {u : Value} (r : RelV x u) (q : RelV y u) : x = y := Option.some.inj (r.abs.symm.trans q.abs)
theorem Vals.inj : ∀ {xs ys : List V} {us : List Value}, Vals xs us → Vals ys us → xs = ys
  | _, _, _, .nil, .nil => rfl
  | _, _, _, .cons r t, .cons r' t' => by rw [r.inj r', Vals.inj t t']
section
variable {X : Cx} {pins : List (Addr × Obj)} {σ : St} {H : Hp} {s : Shared} {a : Addr} {xs ys : List V}
theorem SqL.of {K : PySem.W.Frag} (h : H a = some (.lst xs)) : SqL K H a xs := .inl (.inl h)
theorem Inv.list (I : Inv X pins σ H s) (h : SqL X.K H a xs) : ∃ its : List Value, Vals xs its ∧ PlainL s.heap a its.toArray ∧ xs.length ≤ sizeLine := by
  rcases h with h | ⟨o, its, n, hk, hc, hd, hs, hz, r⟩
  · obtain ⟨z, its, n, r, e⟩ := h.ok I.hok
    exact ⟨its, r, ⟨_, n, e, rfl, rfl, rfl⟩, z⟩
  · refine ⟨its.toList, r, ⟨o, n, I.kIn a o hk, hc, hd, by simpa using hs⟩, ?_⟩
    have e := r.length
    simp only [Array.length_toList] at e
    omega
theorem Inv.tuple (I : Inv X pins σ H s) (h : SqT X.K H a xs) : ∃ its : List Value, Vals xs its ∧ IsTup s.heap a its.toArray ∧ xs.length ≤ sizeLine := by
  rcases h with h | ⟨o, its, n, hk, hc, _, hs, hz, r⟩
  · obtain ⟨⟨z, _⟩, its, r, p⟩ := h.ok I.hok
    exact ⟨its, r, p, z⟩
  · refine ⟨its.toList, r, ⟨o, I.kIn a o hk, hc, n, by simpa using hs⟩, ?_⟩
    have e := r.length
    simp only [Array.length_toList] at e
    omega
theorem Inv.list_inj (I : Inv X pins σ H s) (h : SqL X.K H a xs) (h' : SqL X.K H a ys) : xs = ys := by
  obtain ⟨its, r, ⟨o, n, e, _, _, d⟩, _⟩ := I.list h
  obtain ⟨its', r', ⟨o', n', e', _, _, d'⟩, _⟩ := I.list h'
  rw [e] at e'; cases e'
  rw [d] at d'
  injection d' with d1 _
  have : its = its' := by simpa using congrArg Array.toList d1
  subst this
  exact r.inj r'
theorem Inv.tuple_inj (I : Inv X pins σ H s) (h : SqT X.K H a xs) (h' : SqT X.K H a ys) : xs = ys := by
  obtain ⟨its, r, ⟨o, e, _, n, d⟩, _⟩ := I.tuple h
  obtain ⟨its', r', ⟨o', e', _, n', d'⟩, _⟩ := I.tuple h'
  rw [e] at e'; cases e'
  rw [d] at d'
  injection d' with d1 _
  have : its = its' := by simpa using congrArg Array.toList d1
  subst this
  exact r.inj r'
end

/-! ### another wish about exceptions -/
abbrev Cx.wish (X : Cx) (E : Value → Shared → Prop) : Cx := { X with xe := E }
/-- no exception leaves -/
abbrev Cx.nox (X : Cx) : Cx := X.wish fun _ _ => False
theorem Cx.Ok.wish {X : Cx} (ok : X.Ok) (E : Value → Shared → Prop) : (X.wish E).Ok :=
  ⟨ok.mod, ok.kind, ok.glob, ok.blt, ok.above, ok.inj, ok.has, ok.cab, ok.hd, ok.frames, ok.stk, ok.exf, ok.bs, ok.bsz, ok.noex, ok.exfs, ok.funs, ok.frf⟩
theorem Cx.Ok.unwish {X : Cx} {E : Value → Shared → Prop} (ok : (X.wish E).Ok) : X.Ok :=
  ⟨ok.mod, ok.kind, ok.glob, ok.blt, ok.above, ok.inj, ok.has, ok.cab, ok.hd, ok.frames, ok.stk, ok.exf, ok.bs, ok.bsz, ok.noex, ok.exfs, ok.funs, ok.frf⟩
section
variable {X : Cx} {pins : List (Addr × Obj)} {σ : St} {H : Hp} {s : Shared} {E : Value → Shared → Prop}
theorem Inv.wish (I : Inv X pins σ H s) (E : Value → Shared → Prop) : Inv (X.wish E) pins σ H s := ⟨I.ok.wish E, I.os, I.bare, I.base, I.loc, I.cell, I.free, I.freeC, I.pin, I.hok, I.len⟩
theorem Inv.unwish (I : Inv (X.wish E) pins σ H s) : Inv X pins σ H s := ⟨I.ok.unwish, I.os, I.bare, I.base, I.loc, I.cell, I.free, I.freeC, I.pin, I.hok, I.len⟩
theorem SP.unwish {D : Ends} {f : Flow} {s' : Shared} (h : SP (X.wish E) pins D f s') : SP X pins D f s' := by
  cases f with
  | next => obtain ⟨σ', H', I, q⟩ := h; exact ⟨σ', H', I.unwish, q⟩
  | brk => obtain ⟨σ', H', I, q⟩ := h; exact ⟨σ', H', I.unwish, q⟩
  | cont => obtain ⟨σ', H', I, q⟩ := h; exact ⟨σ', H', I.unwish, q⟩
  | ret u => obtain ⟨v, σ', H', I, r, q⟩ := h; exact ⟨v, σ', H', I.unwish, r, q⟩
theorem PSs.nox {st : List Stmt} {t : TS} (h : PSs X.nox st t) : PSs X st t := fun pins s σ H D I hw =>
  wpAny_mono (h pins s σ H D (I.wish _) hw) (fun _ _ q => q.unwish) fun _ _ z => False.elim z
end

/-! ### blocks and small statements -/
section
variable {X : Cx} {st : Stmt} {rest : List Stmt} {t u : TS} {e : Expr} {te : TE} {pos : Pos}
def tNext : TS := fun D σ H => D.nx σ H
def tSeq (t u : TS) : TS := fun D σ H => t { D with nx := u D } σ H
theorem pss_nil : PSs X [] tNext := fun _ _ σ H _ I h => wpAny_execs_nil ⟨σ, H, I, h⟩
theorem pss_cons (h1 : PS X st t) (h2 : PSs X rest u) : PSs X (st :: rest) (tSeq t u) := by
  intro pins s σ H D I h
  refine wpAny_execs_cons (thn (h1 pins s σ H { D with nx := u D } I h) fun f s1 q => ?_)
  cases f with
  | next =>
    obtain ⟨σ', H', I', q⟩ := q
    exact h2 pins s1 σ' H' D I' q
  | ret v => exact q
  | brk => exact q
  | cont => exact q
theorem pss_one (h1 : PS X st t) : PSs X [st] t := by
  intro pins s σ H D I h
  refine wpAny_execs_cons (thn (h1 pins s σ H D I h) fun f s1 q => ?_)
  cases f with
  | next => exact wpAny_execs_nil q
  | ret v => exact q
  | brk => exact q
  | cont => exact q
/-- in a def's body nothing is shown -/
theorem Inv.quiet {pins : List (Addr × Obj)} {σ : St} {H : Hp} {s : Shared} (I : Inv X pins σ H s) : interactive X.env = false := by simp [interactive, I.ok.kind]
/-- an expression whose value is dropped -/
def tDrop (te : TE) : TS := fun D σ H => te σ H fun _ H1 => D.nx σ H1
theorem ps_expr (he : PE X e te) (hs : swapsWith e none pos.line X.env = pure false := by rfl) : PS X (.Expr e pos) (tDrop te) := by
  intro pins s σ H D I h
  exact wpAny_Expr_any (thn (he pins s σ H _ I h) fun v s1 ⟨x, H1, I1, r1, q1⟩ => ⟨σ, H1, I1, q1⟩) I.quiet hs
def tRet (te : TE) : TS := fun D σ H => te σ H D.rt
theorem ps_ret (he : PE X e te) : PS X (.Return (some e) pos) (tRet te) := by
  intro pins s σ H D I h
  exact wpAny_Return_some (thn (he pins s σ H _ I h) fun v s1 ⟨x, H1, I1, r1, q1⟩ => ⟨x, σ, H1, I1, r1, q1⟩)
def tIfS (c : TT) (t u : TS) : TS := fun D σ H => c σ H fun b H1 => if b = true then t D σ H1 else u D σ H1
theorem ps_if {c : Expr} {a b : List Stmt} {tc : TT} (hc : PT X c tc) (ha : PSs X a t) (hb : PSs X b u) : PS X (.If c a b pos) (tIfS tc t u) := by
  intro pins s σ H D I h
  refine wpAny_If (thn (hc pins s σ H _ I h) fun d s1 ⟨H1, I1, q1⟩ => ?_)
  cases d with
  | true => exact ha pins s1 σ H1 D I1 q1
  | false => exact hb pins s1 σ H1 D I1 q1
end

/-! ### targets -/
abbrev TG := V → St → Hp → (St → Hp → Prop) → Prop
abbrev TGs := List V → St → Hp → (St → Hp → Prop) → Prop
def PG (X : Cx) (target : Expr) (t : TG) : Prop :=
  ∀ (pins : List (Addr × Obj)) (s : Shared) (σ : St) (H : Hp) (v : V) (u : Value) (Q : St → Hp → Prop), Inv X pins σ H s → RelV v u → t v σ H Q →
    wpAny (model X.prog X.w) X.A (assign target X.env u) (fun _ s' => ∃ σ' H', Inv X pins σ' H' s' ∧ Q σ' H') X.xe s
/-- several targets, one after another -/
def PGs (X : Cx) (ts : List Expr) (t : TGs) : Prop :=
  ∀ (pins : List (Addr × Obj)) (s : Shared) (σ : St) (H : Hp) (vs : List V) (us : List Value) (Q : St → Hp → Prop), Inv X pins σ H s → Vals vs us → t vs σ H Q →
    wpAny (model X.prog X.w) X.A (assignInOrder ((assignEach ts X.env).map (·.2)) us) (fun _ s' => ∃ σ' H', Inv X pins σ' H' s' ∧ Q σ' H') X.xe s
/-- o[i] = v, by values -/
abbrev TSet := V → V → V → Hp → (Hp → Prop) → Prop
def PSet (X : Cx) (t : TSet) : Prop :=
  ∀ (pins : List (Addr × Obj)) (s : Shared) (σ : St) (H : Hp) (o i v : V) (ov iv u : Value) (Q : Hp → Prop), Inv X pins σ H s → RelV o ov → RelV i iv → RelV v u → t o i v H Q →
    wpAny (model X.prog X.w) X.A (setItem ov iv u) (fun _ s' => ∃ H', Inv X pins σ H' s' ∧ Q H') X.xe s
section
variable {X : Cx} {pos : Pos}
def gName (i : Nat) : TG := fun v σ H Q => Q (σ.set i (some v)) H
theorem pg_name {i : Nat} {x : Str} (hN : X.N.Nodup) (hi : X.N[i]? = some x) (hx : Loc X.env.scope x) (hf : X.fn x = true ∨ X.env.scope.names.lookup x = some .local := by first | exact .inl rfl | exact .inr rfl | assumption) : PG X (.Name x pos) (gName i) := by
  intro pins s σ H v u Q I r h
  exact wpAny_assign_Name (store_ok I hN hi hx r (fun s' I' => ⟨_, H, I', h⟩) hf)
def gNil : TGs := fun vs σ H Q => vs = [] ∧ Q σ H
def gCons (t : TG) (u : TGs) : TGs := fun vs σ H Q => ∃ v r, vs = v :: r ∧ t v σ H fun σ' H' => u r σ' H' Q
theorem pgs_nil : PGs X [] gNil := by
  intro pins s σ H vs us Q I r h
  obtain ⟨e, h⟩ := h
  subst e
  cases r
  exact assignInOrder_nil ⟨σ, H, I, h⟩
theorem pgs_cons {e : Expr} {es : List Expr} {t : TG} {u : TGs} (h1 : PG X e t) (h2 : PGs X es u)
    (hs : (assignEach (e :: es) X.env).map (·.2) = assign e X.env :: (assignEach es X.env).map (·.2) := by rfl) : PGs X (e :: es) (gCons t u) := by
  intro pins s σ H vs us Q I r h
  obtain ⟨v, vr, e1, h⟩ := h
  subst e1
  cases r with
  | cons r rr =>
    rw [hs]
    refine assignInOrder_cons (thn (h1 pins s σ H _ _ _ I r h) fun _ s1 ⟨σ1, H1, I1, q1⟩ => ?_)
    exact h2 pins s1 σ1 H1 _ _ Q I1 rr q1
/-- (a, b, ..) = a tuple of that length -/
def gTup (K : PySem.W.Frag) (n : Nat) (t : TGs) : TG := fun v σ H Q => ∃ a xs, v = .ref a ∧ SqT K H a xs ∧ xs.length = n ∧ t xs σ H Q
theorem pg_tup {es : List Expr} {k : Nat} {t : TGs} {n : Nat} (hc : X.calm = true) (h : PGs X es t)
    (hn : (assignEach es X.env).length = n := by rfl) (hst : (assignEach es X.env).findIdx? (·.1) = none := by rfl) : PG X (.Tuple es k pos) (gTup X.K n t) := by
  intro pins s σ H v u Q I r hw
  obtain ⟨a, xs, e1, hq, hl, hw⟩ := hw
  subst e1
  cases r
  obtain ⟨its, rv, ht, hz⟩ := I.tuple hq
  refine assign_Tuple_tuple (I.ok.hd hc) ht (by simp [hn, ← hl, rv.length]) hst fun h' hx => ?_
  have I1 : Inv X pins σ H { s with heap := h' } := I.kept (t' := s.toks) fun b o e => hx b o (Nat.ne_of_lt (Heap.lt_size e)) e
  exact h pins _ σ H xs _ Q I1 (by simpa using rv) hw
/-- o[i] = .. -/
def gSub (to ti : TE) (t : TSet) : TG := fun v σ H Q => to σ H fun o H1 => ti σ H1 fun i H2 => t o i v H2 fun H3 => Q σ H3
theorem pg_sub {o i : Expr} {to ti : TE} {t : TSet} (ho : PE X o to) (hi : PE X i ti) (hs : PSet X t)
    (ha : ∀ v, assign (.Subscript o i pos) X.env v = (do
      let ov ← holding [v] (eval o X.env)
      let iv ← holding [v, ov] (eval i X.env)
      standAt pos
      holding [v, ov, iv] (setItem ov iv v)
      release [v, ov, iv] []) := by intro _; rfl) : PG X (.Subscript o i pos) (gSub to ti t) := by
  intro pins s σ H v u Q I r h
  rw [ha]
  refine wpAny_bind (wpAny_holding (thn (ho pins s σ H _ I h) fun ov s1 ⟨x, H1, I1, r1, q1⟩ => ?_))
  refine wpAny_bind (wpAny_holding (thn (hi pins s1 σ H1 _ I1 q1) fun iv s2 ⟨y, H2, I2, r2, q2⟩ => ?_))
  refine wpAny_bind (wpAny_standAt (wpAny_bind (wpAny_holding (thn (hs pins s2 σ H2 x y v ov iv u _ I2 r1 r2 r q2) fun _ s3 ⟨H3, I3, q3⟩ => ?_))))
  exact wpAny_release ⟨σ, H3, I3, q3⟩
/-- target = value -/
def tAsg (te : TE) (g : TG) : TS := fun D σ H => te σ H fun x H1 => g x σ H1 D.nx
theorem ps_asg {tg e : Expr} {te : TE} {g : TG} (he : PE X e te) (hg : PG X tg g) (hs : swapsWithSole [tg] e pos.line X.env = pure false := by rfl) (hw : swappedStores [tg] e X.env = pure none := by rfl)
    (h1 : (assignEach [tg] X.env).map (·.2) = [assign tg X.env] := by rfl) : PS X (.Assign [tg] e pos) (tAsg te g) := by
  intro pins s σ H D I h
  refine wpAny_Assign_stores (thn (he pins s σ H _ I h) fun v s1 ⟨x, H1, I1, r1, q1⟩ => ?_) hs hw
  rw [h1]
  exact thn (hg pins s1 σ H1 x v _ I1 r1 q1) fun _ s2 q => q
/-- name = value -/
theorem ps_set {i : Nat} {x : Str} {e : Expr} {te : TE} {pos' : Pos} (hN : X.N.Nodup) (hi : X.N[i]? = some x) (hx : Loc X.env.scope x) (he : PE X e te) (hs : swapsWith e (some (.Name x pos')) pos.line X.env = pure false := by rfl) (hf : X.fn x = true ∨ X.env.scope.names.lookup x = some .local := by first | exact .inl rfl | exact .inr rfl | assumption) :
    PS X (.Assign [.Name x pos'] e pos) (tAsg te (gName i)) := by
  intro pins s σ H D I h
  refine wpAny_Assign_Name (thn (he pins s σ H _ I h) fun v s1 ⟨y, H1, I1, r1, q1⟩ => ?_) hs
  exact store_ok I1 hN hi hx r1 (fun s2 I2 => ⟨_, H1, I2, q1⟩) hf
end

/-! ### while -/
section
variable {X : Cx} {pos : Pos}
end

/-! ### what a loop or a comprehension walks -/
/-- at turn i: it yields x (the heap may grow), or it stops -/
structure It where
  go : Nat → Hp → Prop
  yld : Nat → Hp → V → Hp → Prop
  stop : Nat → Hp → Prop
/-- the iterator's own objects may turn: they are not the frame's, not pinned, younger than the entry (or a comprehension's own) -/
def FpOk (X : Cx) (pins : List (Addr × Obj)) (H : Hp) (b : Addr) : Prop :=
  H b = none ∧ b ≠ X.env.locals ∧ b ∉ X.fs ∧ (b ∈ X.ex ∨ X.s_0.heap.objs.size ≤ b) ∧ (∀ x c, X.env.cells.lookup x = some c → c ≠ b) ∧ ∀ p ∈ X.pn ++ pins, p.1 ≠ b
theorem Inv.fpOk {X : Cx} {pins : List (Addr × Obj)} {σ : St} {H H' : Hp} {s : Shared} {b : Addr} (I : Inv X pins σ H s) (hb : s.heap.objs.size ≤ b) (hn : H' b = none) : FpOk X pins H' b := by
  refine ⟨hn, Nat.ne_of_gt (Nat.lt_of_lt_of_le I.lt hb), I.nofs hb, .inr (Nat.le_trans I.sz hb), fun x c e z => ?_, fun p hp z => ?_⟩
  · obtain ⟨v, q⟩ := I.cell x c e
    exact absurd (Nat.lt_of_lt_of_le q.lt (by rw [z]; exact hb)) (Nat.lt_irrefl _)
  · exact absurd (Nat.lt_of_lt_of_le (Heap.lt_size (I.pin p hp).1) (by rw [z]; exact hb)) (Nat.lt_irrefl _)
structure Turn (P : Program) (w : World) (K : PySem.W.Frag) (tg : Expr) (J : It) (fp : List Addr) (it : Addr) (tn : Nat → Heap → Prop) : Prop where
  mem : it ∈ fp
  obj : ∀ i h, tn i h → ∀ b ∈ fp, ∃ o, h.get? b = some o ∧ ∀ v, o.data ≠ .cell v
  keep : ∀ i h h', tn i h → (∀ b ∈ fp, ∀ o, h.get? b = some o → h'.get? b = some o) → tn i h'
  item : ∀ (X : Cx), X.prog = P → X.w = w → X.K = K → X.calm = true → ∀ (i : Nat) (pins : List (Addr × Obj)) (s : Shared) (σ : St) (H : Hp) (E : Value → Shared → Prop), Inv X pins σ H s → (∀ b ∈ fp, FpOk X pins H b) → tn i s.heap → J.go i H →
    wpAny (model P w) X.A (pyNext (.ref it)) (fun r s1 => ∃ u, r = some u ∧
      wpAny (model P w) X.A (letOwnedTupleGo tg (.ref it) u) (fun _ s2 => ∃ x H', Inv X pins σ H' s2 ∧ RelV x u ∧ J.yld i H x H' ∧ tn (i + 1) s2.heap ∧ ∀ b ∈ fp, H' b = none) E s1) E s
  done : ∀ (X : Cx), X.prog = P → X.w = w → X.K = K → X.calm = true → ∀ (i : Nat) (pins : List (Addr × Obj)) (s : Shared) (σ : St) (H : Hp) (E : Value → Shared → Prop), Inv X pins σ H s → (∀ b ∈ fp, FpOk X pins H b) → tn i s.heap → J.stop i H →
    wpAny (model P w) X.A (pyNext (.ref it)) (fun r s1 => r = none ∧ Inv X pins σ H s1) E s
  self : ∀ (A : Around) (i : Nat) (s : Shared) (Q : Value → Shared → Prop) (E : Value → Shared → Prop), tn i s.heap → Q (.ref it) s → wpAny (model P w) A (pyIter (.ref it)) Q E s
abbrev TI := St → Hp → (It → Hp → Prop) → Prop
/-- an iterator has come -/
def PIE (X : Cx) (pins : List (Addr × Obj)) (σ : St) (tg : Expr) (R : It → Hp → Prop) (itv : Value) (s2 : Shared) : Prop :=
  ∃ (it : Addr) (fp : List Addr) (tn : Nat → Heap → Prop) (J : It) (H' : Hp), itv = .ref it ∧ Inv X pins σ H' s2 ∧ Turn X.prog X.w X.K tg J fp it tn ∧ tn 0 s2.heap ∧ (∀ b ∈ fp, FpOk X pins H' b) ∧ R J H'
def PI (X : Cx) (tg iter : Expr) (wi : TI) : Prop :=
  ∀ (pins : List (Addr × Obj)) (s : Shared) (σ : St) (H : Hp) (R : It → Hp → Prop), Inv X pins σ H s → wi σ H R →
    wpAny (model X.prog X.w) X.A (eval iter X.env) (fun v s1 => wpAny (model X.prog X.w) X.A (pyIter v) (PIE X pins σ tg R) X.xe s1) X.xe s

/-- the step ahead of the store is nothing for an iterator that keeps no tuple -/
theorem go_of {M : Model} {A : Around} {E : Value → Shared → Prop} {s : Shared} {tg : Expr} {it : Addr} {u : Value} {o : Obj} {n : String} {vs : Array Value} {Q : Unit → Shared → Prop} (ho : s.heap.get? it = some o) (hc : o.cls = .type n) (hd : o.data = .fields vs)
    (hn : ["enumerate", "zip", "dict_itemiterator", "dict_reverseitemiterator", "odict_iterator", "itertools.zip_longest", "itertools.pairwise"].contains n = false) (hQ : Q () s) : wpAny M A (letOwnedTupleGo tg (.ref it) u) Q E s := by
  unfold letOwnedTupleGo
  cases tg <;> first
    | exact wpAny_pure hQ
    | (cases u <;> first
        | exact wpAny_pure hQ
        | (refine wpAny_bind (wpAny_load ho ?_)
           rw [hc, hd]
           show wpAny M A (if (["enumerate", "zip", "dict_itemiterator", "dict_reverseitemiterator", "odict_iterator", "itertools.zip_longest", "itertools.pairwise"].contains n && vs[0]? == some (rawInt _)) = true then _ else _) Q E s
           rw [if_neg (by intro h; rw [hn, Bool.false_and] at h; cases h)]
           exact wpAny_pure hQ))

/-- the list at a, as it stands at each turn (a loop may append to it) -/
def Itl (K : PySem.W.Frag) (a : Addr) : It :=
  ⟨fun i H => ∃ xs x, SqL K H a xs ∧ xs[i]? = some x, fun i H x H' => H' = H ∧ ∀ xs, SqL K H a xs → xs[i]? = some x, fun i H => ∃ xs, SqL K H a xs ∧ xs.length ≤ i⟩
def Itt (K : PySem.W.Frag) (a : Addr) : It :=
  ⟨fun i H => ∃ xs x, SqT K H a xs ∧ xs[i]? = some x, fun i H x H' => H' = H ∧ ∀ xs, SqT K H a xs → xs[i]? = some x, fun i H => ∃ xs, SqT K H a xs ∧ xs.length ≤ i⟩
/-- lo, lo + 1, .. (n of them) -/
def Itr (lo : Int) (n : Nat) : It := ⟨fun i _ => i < n, fun i H x H' => H' = H ∧ x = .int (lo + i), fun i _ => n ≤ i⟩
theorem turn_list {P : Program} {w : World} {K : PySem.W.Frag} {tg : Expr} (a it : Addr) : Turn P w K tg (Itl K a) [it] it (fun i h => h.IsListIter it a i) where
  mem := by simp
  obj := fun i h st b hb => by
    have e : b = it := by simpa using hb
    subst e
    obtain ⟨o, e, c, d⟩ := st
    exact ⟨o, e, fun v z => by rw [d] at z; cases z⟩
  keep := fun i h h' st k => st.at fun o e => k it (by simp) o e
  item := by
    intro X hP hw hK hc i pins s σ H E I hf st hg
    subst hP hw hK
    obtain ⟨xs, x, hq, hx⟩ := hg
    obtain ⟨its, rv, p, hz⟩ := I.list hq
    obtain ⟨u, hu, ru⟩ := rv.get hx
    obtain ⟨f0, f1, f2, f3, f4, f5⟩ := hf it (by simp)
    refine wpAny_pyNext_list_item st p.isList (x := u) (by simpa using hu) fun h' st' sb => ?_
    have I1 : Inv X pins σ H { s with heap := h' } := I.turned (t' := s.toks) (fun b o hb e => (sb.2 b hb).trans e) f0 f1 f3 f4 f5
    obtain ⟨o, e, c, d⟩ := id st'
    exact ⟨u, rfl, go_of (s := { s with heap := h' }) e c d (by decide) ⟨x, H, I1, ru, ⟨rfl, fun ys hy => by rw [I.list_inj hy hq]; exact hx⟩, st', fun b hb => (hf b hb).1⟩⟩
  done := by
    intro X hP hw hK hc i pins s σ H E I hf st hg
    subst hP hw hK
    obtain ⟨xs, hq, hx⟩ := hg
    obtain ⟨its, rv, p, hz⟩ := I.list hq
    obtain ⟨f0, f1, f2, f3, f4, f5⟩ := hf it (by simp)
    have hl := rv.length
    exact wpAny_pyNext_list_end (I.ok.hd hc) st p.isList (by simp; omega) fun h' eb => ⟨rfl, I.turned (t' := s.toks) (fun b o hb e => eb b o hb e) f0 f1 f3 f4 f5⟩
  self := fun _ _ _ _ _ st h => wpAny_pyIter_listiter st h
theorem turn_tuple {P : Program} {w : World} {K : PySem.W.Frag} {tg : Expr} (a it : Addr) : Turn P w K tg (Itt K a) [it] it (fun i h => h.IsTupleIter it a i) where
  mem := by simp
  obj := fun i h st b hb => by
    have e : b = it := by simpa using hb
    subst e
    obtain ⟨o, e, c, d⟩ := st
    exact ⟨o, e, fun v z => by rw [d] at z; cases z⟩
  keep := fun i h h' st k => st.at fun o e => k it (by simp) o e
  item := by
    intro X hP hw hK hc i pins s σ H E I hf st hg
    subst hP hw hK
    obtain ⟨xs, x, hq, hx⟩ := hg
    obtain ⟨its, rv, p, hz⟩ := I.tuple hq
    obtain ⟨u, hu, ru⟩ := rv.get hx
    obtain ⟨f0, f1, f2, f3, f4, f5⟩ := hf it (by simp)
    refine wpAny_pyNext_tuple_item st (show s.heap.IsTuple a its.toArray from p) (x := u) (by simpa using hu) fun h' st' sb => ?_
    have I1 : Inv X pins σ H { s with heap := h' } := I.turned (t' := s.toks) (fun b o hb e => (sb.2 b hb).trans e) f0 f1 f3 f4 f5
    obtain ⟨o, e, c, d⟩ := id st'
    exact ⟨u, rfl, go_of (s := { s with heap := h' }) e c d (by decide) ⟨x, H, I1, ru, ⟨rfl, fun ys hy => by rw [I.tuple_inj hy hq]; exact hx⟩, st', fun b hb => (hf b hb).1⟩⟩
  done := by
    intro X hP hw hK hc i pins s σ H E I hf st hg
    subst hP hw hK
    obtain ⟨xs, hq, hx⟩ := hg
    obtain ⟨its, rv, p, hz⟩ := I.tuple hq
    obtain ⟨f0, f1, f2, f3, f4, f5⟩ := hf it (by simp)
    have hl := rv.length
    exact wpAny_pyNext_tuple_end (I.ok.hd hc) st (show s.heap.IsTuple a its.toArray from p) (by simp; omega) fun h' eb => ⟨rfl, I.turned (t' := s.toks) (fun b o hb e => eb b o hb e) f0 f1 f3 f4 f5⟩
  self := fun _ _ _ _ _ st h => wpAny_pyIter_tupleiter st h
theorem turn_range {P : Program} {w : World} {K : PySem.W.Frag} {tg : Expr} (it : Addr) (lo : Int) (n : Nat) : Turn P w K tg (Itr lo n) [it] it (fun i h => IsRangeIter h it (lo + (i : Nat) * 1) ((n : Int) - (i : Nat)) 1) where
  mem := by simp
  obj := fun i h st b hb => by
    have e : b = it := by simpa using hb
    subst e
    exact ⟨_, st, fun v z => by
      have z' : Data.fields _ = Data.cell v := z
      cases z'⟩
  keep := fun i h h' st k => k it (by simp) _ st
  item := by
    intro X hP hw hK hc i pins s σ H E I hf st hg
    subst hP hw hK
    obtain ⟨f0, f1, f2, f3, f4, f5⟩ := hf it (by simp)
    have W := Walks.range (prog := X.prog) (w := X.w) (I.ok.hd hc) it lo 1 n
    refine W.item i s _ _ hg st fun v h' tk hv st' kk => ?_
    obtain ⟨t, rfl⟩ := hv
    have I1 : Inv X pins σ H { s with heap := h', toks := tk } := I.turned (fun b o hb e => kk b o (by simpa using hb) e) f0 f1 f3 f4 f5
    refine ⟨_, rfl, go_of (s := { s with heap := h', toks := tk }) (n := "range_iterator") st' rfl rfl (by decide) ⟨.int (lo + i), H, I1, ⟨t, ?_⟩, ⟨rfl, rfl⟩, st', fun b hb => (hf b hb).1⟩⟩
    rw [Int.mul_one]
  done := by
    intro X hP hw hK hc i pins s σ H E I hf st hg
    subst hP hw hK
    obtain ⟨f0, f1, f2, f3, f4, f5⟩ := hf it (by simp)
    exact wpAny_pyNext_range_end (I.ok.hd hc) st (by have : n ≤ i := hg; omega) fun h' eb => ⟨rfl, I.turned (t' := s.toks) (fun b o hb e => eb b o hb e) f0 f1 f3 f4 f5⟩
  self := fun _ _ _ _ _ st h => wpAny_pyIter_rangeiter st h
end L2

namespace L2
open PySem PySem.Spec PyProof.Rows
section
variable {X : Cx} {tg : Expr}
/-- a range object just made, walked -/
theorem range_it {pins : List (Addr × Obj)} {σ : St} {H : Hp} {s : Shared} {R : It → Hp → Prop} {E : Value → Shared → Prop} {lo hi : Int} {t u v : Tok} {tk : Nat} (I : Inv X pins σ H s) (h1 : -(2 ^ 62) ≤ lo) (h2 : lo < 2 ^ 62) (h3 : -(2 ^ 62) ≤ hi) (h4 : hi < 2 ^ 62)
    (q : R (Itr lo (hi - lo).toNat) H) : wpAny (model X.prog X.w) X.A (pyIter (.ref s.heap.objs.size)) (PIE X pins σ tg R) E { s with heap := s.heap.push { cls := .type "range", data := .fields #[.int lo t, .int hi u, .int 1 v] }, toks := tk } := by
  refine wpAny_pyIter_range (IsRange.new ..) (small_one h1 h2 h3 h4) ?_
  have I1 : Inv X pins σ H { s with heap := s.heap.push { cls := .type "range", data := .fields #[.int lo t, .int hi u, .int 1 v] }, toks := tk } := I.kept fun b o e => Heap.get?_push_of_some _ e
  refine ⟨(s.heap.push { cls := .type "range", data := .fields #[.int lo t, .int hi u, .int 1 v] }).objs.size, [(s.heap.push { cls := .type "range", data := .fields #[.int lo t, .int hi u, .int 1 v] }).objs.size], _, _, H, rfl,
    I1.kept (t' := tk) fun b o e => Heap.get?_push_of_some _ e, turn_range _ lo (hi - lo).toNat, ?_, fun b hb => ?_, q⟩
  · have e1 : lo + ((0 : Nat) : Int) * 1 = lo := by simp
    have e2 : (((hi - lo).toNat : Nat) : Int) - ((0 : Nat) : Int) = Builtin.Range.rangeSize lo hi 1 := by rw [rangeSize_one]; split <;> omega
    show IsRangeIter _ _ (lo + ((0 : Nat) : Int) * 1) ((((hi - lo).toNat : Nat) : Int) - ((0 : Nat) : Int)) 1
    rw [e1, e2]
    exact Heap.get?_push_size _ rfl
  · have e : b = (s.heap.push { cls := .type "range", data := .fields #[.int lo t, .int hi u, .int 1 v] }).objs.size := by simpa using hb
    subst e
    exact I1.fpOk (Nat.le_refl _) (I1.hok.fresh (Nat.le_refl _))
def iRng1 (ta : TA) : TI := fun σ H R => ta σ H fun vs H1 => ∃ j : Int, vs = [.int j] ∧ -(2 ^ 62) ≤ j ∧ j < 2 ^ 62 ∧ R (Itr 0 j.toNat) H1
def iRng2 (ta : TA) : TI := fun σ H R => ta σ H fun vs H1 => ∃ i j : Int, vs = [.int i, .int j] ∧ (-(2 ^ 62) ≤ i ∧ i < 2 ^ 62 ∧ -(2 ^ 62) ≤ j ∧ j < 2 ^ 62) ∧ R (Itr i (j - i).toNat) H1
theorem pi_range1 {a : Expr} {ta : TA} {p pos : Pos} (hg : Gl X "range") (hm : X.mg "range" = none) (ha : PA X [a] ta) (hs : starEach [a] X.env = [(false, eval a X.env)] := by rfl) : PI X tg (.Call (.Name "range" p) [a] [] pos) (iRng1 ta) := by
  intro pins s σ H R I h
  refine Call_ (ld_blt I hg hm boot_range (PyProof.Rows.callWith_type1 (thn (ha pos pins s σ H _ I h) fun us s1 ⟨vs, H1, I1, r1, q1⟩ => ?_) hs rfl))
  obtain ⟨j, e, q1, q2, q⟩ := q1
  subst e
  cases r1 with
  | cons r rr =>
    cases rr
    obtain ⟨t, rfl⟩ := r
    exact call_range_1 (range_it I1 (by omega) (by omega) q1 q2 (by simpa using q))
theorem pi_range2 {a b : Expr} {ta : TA} {p pos : Pos} (hg : Gl X "range") (hm : X.mg "range" = none) (ha : PA X [a, b] ta) (hs : starEach [a, b] X.env = [(false, eval a X.env), (false, eval b X.env)] := by rfl) (hs2 : starEach [b] X.env = [(false, eval b X.env)] := by rfl) :
    PI X tg (.Call (.Name "range" p) [a, b] [] pos) (iRng2 ta) := by
  intro pins s σ H R I h
  refine Call_ (ld_blt I hg hm boot_range (PyProof.Rows.callWith_type1 (thn (ha pos pins s σ H _ I h) fun us s1 ⟨vs, H1, I1, r1, q1⟩ => ?_) (by rw [hs, hs2]) (by rw [hs2]; rfl)))
  obtain ⟨i, j, e, ⟨q1, q2, q3, q4⟩, q⟩ := q1
  subst e
  cases r1 with
  | cons r rr =>
    cases rr with
    | cons r' rr =>
      cases rr
      obtain ⟨t, rfl⟩ := r
      obtain ⟨t', rfl⟩ := r'
      exact call_range_2 (range_it I1 q1 q2 q3 q4 q)

/-! ### for -/
/-- W: the invariant by the turn and a measure; N: what the body is to reach -/
def tFor (wi : TI) (g : TG) (tb : TS) : TS := fun D σ H => wi σ H fun J H1 => ∃ W : Nat → Nat → St → Hp → Prop, (∃ m, W 0 m σ H1) ∧ ∀ i m σ H, W i m σ H →
  (J.stop i H ∧ D.nx σ H) ∨ (J.go i H ∧ ∃ N : St → Hp → Prop, (∀ σ' H', N σ' H' → ∃ m', m' < m ∧ W (i + 1) m' σ' H') ∧ ∀ x H', J.yld i H x H' → g x σ H' fun σ2 H2 => tb { D with nx := N, ct := N, bk := D.nx } σ2 H2)
/-- the records at fp as they stand -/
def pinsAt (fp : List Addr) (h : Heap) : List (Addr × Obj) := fp.filterMap fun b => (h.get? b).map fun o => (b, o)
theorem mem_pinsAt {fp : List Addr} {h : Heap} {b : Addr} {o : Obj} (hb : b ∈ fp) (e : h.get? b = some o) : (b, o) ∈ pinsAt fp h := List.mem_filterMap.mpr ⟨b, hb, by rw [e]; rfl⟩
theorem of_pinsAt {fp : List Addr} {h : Heap} {p : Addr × Obj} (hp : p ∈ pinsAt fp h) : p.1 ∈ fp ∧ h.get? p.1 = some p.2 := by
  obtain ⟨b, hb, e⟩ := List.mem_filterMap.mp hp
  cases q : h.get? b with
  | none => rw [q] at e; cases e
  | some o =>
    rw [q] at e
    have e' : (b, o) = p := Option.some.inj e
    subst e'
    exact ⟨hb, q⟩
theorem Inv.pinned {pins : List (Addr × Obj)} {σ : St} {H : Hp} {s : Shared} {fp : List Addr} (I : Inv X pins σ H s) (hf : ∀ b ∈ fp, FpOk X pins H b) (ho : ∀ b ∈ fp, ∃ o, s.heap.get? b = some o ∧ ∀ v, o.data ≠ .cell v) : Inv X (pins ++ pinsAt fp s.heap) σ H s :=
  I.pins_of fun p hp => (List.mem_append.mp hp).elim (fun z => I.pin p (List.mem_append_right _ z)) fun z => by
    obtain ⟨hb, e⟩ := of_pinsAt z
    obtain ⟨f0, f1, f2, _⟩ := hf p.1 hb
    obtain ⟨o, e', d⟩ := ho p.1 hb
    rw [e] at e'; cases e'
    exact ⟨e, f0, f1, f2, d⟩
theorem Inv.unpinned {pins pl : List (Addr × Obj)} {σ : St} {H : Hp} {s : Shared} (I : Inv X (pins ++ pl) σ H s) : Inv X pins σ H s := I.pins_of fun p hp => I.pin p (List.mem_append_right _ (List.mem_append_left _ hp))
theorem ps_for {iter : Expr} {body : List Stmt} {wi : TI} {g : TG} {tb : TS} {pos : Pos} (hp : PassesOwn (model X.prog X.w) X.A X.env X.xe) (hc : X.calm = true) (hi : PI X tg iter wi) (hg : PG X tg g) (hb : PSs X body tb)
    (hs : ∀ x, foldedSetIterable iter X.env x = pure x := by intro _; rfl) : PS X (.For tg iter body [] pos) (tFor wi g tb) := by
  intro pins s σ H D I h
  refine wpAny_For (thn (hi pins s σ H _ I h) fun v s1 h1 => thn h1 fun itv s2 h2 => ?_) hs
  obtain ⟨it, fp, tn, J, H2, e, I2, T, st2, f2, W, ⟨m0, w0⟩, turn⟩ := h2
  subst e
  -- what stays true of the iterator's objects through the loop
  have stat : ∀ {H' : Hp}, (∀ b ∈ fp, H' b = none) → ∀ b ∈ fp, FpOk X pins H' b := fun hn b hb => ⟨hn b hb, (f2 b hb).2⟩
  refine codeAny_forLoop_any (fun n s' => ∃ i σ' H', Inv X pins σ' H' s' ∧ tn i s'.heap ∧ (∀ b ∈ fp, H' b = none) ∧ W i n σ' H') ?_ m0 ⟨0, σ, H2, I2, st2, fun b hb => (f2 b hb).1, w0⟩
  rintro n s3 ⟨i, σ3, H3, I3, st3, fr3, w3⟩
  rcases turn i n σ3 H3 w3 with ⟨stop, qn⟩ | ⟨go, N, hN, step⟩
  · refine wpAny_passesOwn hp (thn (T.done X rfl rfl rfl hc i pins s3 σ3 H3 X.xe I3 (stat fr3) st3 stop) fun r s4 ⟨hr, I4⟩ => ?_)
    subst hr
    exact wpAny_execs_nil ⟨σ3, H3, I4, qn⟩
  · refine wpAny_passesOwn hp (thn (T.item X rfl rfl rfl hc i pins s3 σ3 H3 X.xe I3 (stat fr3) st3 go) fun r s4 ⟨u, hr, h4⟩ => ?_)
    subst hr
    refine wpAny_passesOwn hp (thn h4 fun _ s5 ⟨x, H5, I5, r5, y5, st5, fr5⟩ => ?_)
    have I5' := I5.pinned (stat fr5) (T.obj _ _ st5)
    refine wpAny_passesOwn hp (thn (hg _ s5 σ3 H5 x u _ I5' r5 (step x H5 y5)) fun _ s6 ⟨σ6, H6, I6, q6⟩ => ?_)
    refine wpAny_passesOwn hp (thn (hb _ s6 σ6 H6 _ I6 q6) fun f s7 q7 => ?_)
    have again : ∀ {σ7 : St} {H7 : Hp}, Inv X (pins ++ pinsAt fp s5.heap) σ7 H7 s7 → N σ7 H7 → ∃ m, m < n ∧ ∃ i σ' H', Inv X pins σ' H' s7 ∧ tn i s7.heap ∧ (∀ b ∈ fp, H' b = none) ∧ W i m σ' H' := fun {σ7 H7} I7 n7 => by
      obtain ⟨m', hm, w7⟩ := hN σ7 H7 n7
      refine ⟨m', hm, i + 1, σ7, H7, I7.unpinned, T.keep _ _ _ st5 fun b hb o e => (I7.pin (b, o) (List.mem_append_right _ (List.mem_append_right _ (mem_pinsAt hb e)))).1, fun b hb => ?_, w7⟩
      obtain ⟨o, e, d⟩ := T.obj _ _ st5 b hb
      exact (I7.pin (b, o) (List.mem_append_right _ (List.mem_append_right _ (mem_pinsAt hb e)))).2.1
    cases f with
    | next => obtain ⟨σ7, H7, I7, n7⟩ := q7; exact again I7 n7
    | cont => obtain ⟨σ7, H7, I7, n7⟩ := q7; exact again I7 n7
    | brk => obtain ⟨σ7, H7, I7, q7⟩ := q7; exact ⟨σ7, H7, I7.unpinned, q7⟩
    | ret v => obtain ⟨x7, σ7, H7, I7, r7, q7⟩ := q7; exact ⟨x7, σ7, H7, I7.unpinned, r7, q7⟩
end

/-! ### the forms one uses -/
end L2

namespace L2
open PySem PySem.Spec PyProof.Rows

abbrev R2 := V → V → Hp → VK → Prop
/-- a two-place operation on values: f is binaryOp op, inplaceOp op or compareOp op -/
def OpR (X : Cx) (f : Value → Value → Sem Value) (r : R2) : Prop :=
  ∀ (pins : List (Addr × Obj)) (s : Shared) (σ : St) (H : Hp) (x y : V) (v u : Value) (Q : VK), Inv X pins σ H s → RelV x v → RelV y u → r x y H Q →
    wpAny (model X.prog X.w) X.A (f v u) (EP X pins σ Q) X.xe s
/-- a call of a value that is known (a builtin, a type) with values -/
def CallR (X : Cx) (f : Value) (r : List V → Hp → VK → Prop) : Prop :=
  ∀ (pins : List (Addr × Obj)) (s : Shared) (σ : St) (H : Hp) (xs : List V) (us : List Value) (Q : VK), Inv X pins σ H s → Vals xs us → r xs H Q →
    wpAny (model X.prog X.w) X.A (call f us) (EP X pins σ Q) X.xe s
/-- a value's truth -/
def TruR (X : Cx) (r : V → Hp → (Bool → Hp → Prop) → Prop) : Prop :=
  ∀ (pins : List (Addr × Obj)) (s : Shared) (σ : St) (H : Hp) (x : V) (v : Value) (Q : Bool → Hp → Prop), Inv X pins σ H s → RelV x v → r x H Q →
    wpAny (model X.prog X.w) X.A (truthy v) (TP X pins σ Q) X.xe s

def tOp (r : R2) (ta tb : TE) : TE := fun σ H Q => ta σ H fun x H1 => tb σ H1 fun y H2 => r x y H2 Q
def tUn (r : V → Hp → VK → Prop) (ta : TE) : TE := fun σ H Q => ta σ H fun x H1 => r x H1 Q
/-- ints in, under C, and a value out -/
def rI (C : Int → Int → Prop) (g : Int → Int → V) : R2 := fun x y H Q => ∃ i j, x = .int i ∧ y = .int j ∧ C i j ∧ Q (g i j) H
def rI0 (g : Int → Int → V) : R2 := fun x y H Q => ∃ i j, x = .int i ∧ y = .int j ∧ Q (g i j) H

section
variable {X : Cx} {a b c : Expr} {ta tb tc : TE} {pos : Pos}

theorem binT (ha : PE X a ta) (hb : PE X b tb) {pins : List (Addr × Obj)} {s : Shared} {σ : St} {H : Hp} {R : V → V → Hp → Prop} (I : Inv X pins σ H s)
    (h : ta σ H fun x H1 => tb σ H1 fun y H2 => R x y H2) {Q : Value → Shared → Prop} {f : Value → Value → Sem Value}
    (hf : ∀ v u s2 x y H2, Inv X pins σ H2 s2 → RelV x v → RelV y u → R x y H2 → wpAny (model X.prog X.w) X.A (f v u) Q X.xe s2) :
    wpAny (model X.prog X.w) X.A (eval a X.env) (fun v s₁ => wpAny (model X.prog X.w) X.A (eval b X.env) (fun u s₂ => wpAny (model X.prog X.w) X.A (f v u) Q X.xe s₂) X.xe s₁) X.xe s := by
  refine thn (ha pins s σ H _ I h) fun v s1 ⟨x, H1, I1, r1, q1⟩ => ?_
  refine thn (hb pins s1 σ H1 _ I1 q1) fun u s2 ⟨y, H2, I2, r2, q2⟩ => ?_
  exact hf v u s2 x y H2 I2 r1 r2 q2

theorem pe_op {op : Operator} {r : R2} (ho : OpR X (binaryOp op) r) (ha : PE X a ta) (hb : PE X b tb) : PE X (.BinOp a op b pos) (tOp r ta tb) := by
  intro pins s σ H Q I h
  exact wpAny_BinOp (binT ha hb I h fun v u s2 x y H2 I2 rx ry q => ho pins s2 σ H2 x y v u Q I2 rx ry q)

/-! ### ints -/
theorem opI {f : Value → Value → Sem Value} {C : Int → Int → Prop} {g : Int → Int → Int}
    (rule : ∀ (i j : Int) (t u : Tok) (s : Shared) (Q : Value → Shared → Prop) (E : Value → Shared → Prop), C i j → Q (.int (g i j) s.toks) { s with toks := s.toks + 1 } → wpAny (model X.prog X.w) X.A (f (.int i t) (.int j u)) Q E s) :
    OpR X f (rI C fun i j => .int (g i j)) := by
  intro pins s σ H x y v u Q I rx ry h
  obtain ⟨i, j, rfl, rfl, hc, q⟩ := h
  obtain ⟨t, rfl⟩ := rx
  obtain ⟨t', rfl⟩ := ry
  exact rule i j t t' s _ _ hc ⟨.int (g i j), H, I.tok _, ⟨_, rfl⟩, q⟩
theorem opI0 {f : Value → Value → Sem Value} {g : Int → Int → Int}
    (rule : ∀ (i j : Int) (t u : Tok) (s : Shared) (Q : Value → Shared → Prop) (E : Value → Shared → Prop), Q (.int (g i j) s.toks) { s with toks := s.toks + 1 } → wpAny (model X.prog X.w) X.A (f (.int i t) (.int j u)) Q E s) :
    OpR X f (rI0 fun i j => .int (g i j)) := by
  intro pins s σ H x y v u Q I rx ry h
  obtain ⟨i, j, rfl, rfl, q⟩ := h
  obtain ⟨t, rfl⟩ := rx
  obtain ⟨t', rfl⟩ := ry
  exact rule i j t t' s _ _ ⟨.int (g i j), H, I.tok _, ⟨_, rfl⟩, q⟩
theorem opB0 {f : Value → Value → Sem Value} {g : Int → Int → Bool}
    (rule : ∀ (i j : Int) (t u : Tok) (s : Shared) (Q : Value → Shared → Prop) (E : Value → Shared → Prop), Q (.bool (g i j)) s → wpAny (model X.prog X.w) X.A (f (.int i t) (.int j u)) Q E s) :
    OpR X f (rI0 fun i j => .bl (g i j)) := by
  intro pins s σ H x y v u Q I rx ry h
  obtain ⟨i, j, rfl, rfl, q⟩ := h
  obtain ⟨t, rfl⟩ := rx
  obtain ⟨t', rfl⟩ := ry
  exact rule i j t t' s _ _ ⟨.bl (g i j), H, I, rfl, q⟩

def CDiv (i j : Int) : Prop := 0 < j ∧ j < 1073741824
def CPow (i j : Int) : Prop := 0 ≤ j ∧ j ≤ 1000000 ∧ i.natAbs < 2 ^ 64
def CMul (i j : Int) : Prop := (-(2 ^ 64) < i ∧ i < 2 ^ 64) ∨ (-(2 ^ 64) < j ∧ j < 2 ^ 64)
theorem CMul.ok {i j : Int} (h : CMul i j) : IntMulOk i j := by
  rcases h with ⟨h1, h2⟩ | ⟨h1, h2⟩
  · exact .of_left (intBits_le_64 h1 h2)
  · exact .of_right (intBits_le_64 h1 h2)
theorem two_pow_nn (k : Nat) : (0 : Int) ≤ 2 ^ k := by
  rw [two_pow_cast]
  exact Int.natCast_nonneg _

theorem op_add : OpR X (binaryOp .Add) (rI0 fun i j => .int (i + j)) := opI0 fun _ _ _ _ _ _ _ q => add_int q
theorem op_sub : OpR X (binaryOp .Sub) (rI0 fun i j => .int (i - j)) := opI0 fun _ _ _ _ _ _ _ q => sub_int q
theorem op_mul : OpR X (binaryOp .Mult) (rI CMul fun i j => .int (i * j)) := opI fun _ _ _ _ _ _ _ hc q => mul_int q hc.ok
/-- // by a positive divisor -/
theorem op_fdiv : OpR X (binaryOp .FloorDiv) (rI CDiv fun i j => .int (i / j)) := opI fun i j _ _ _ _ _ hc q => by
  have h1 : (0 : Int) < j := hc.1
  have h2 : j < 1073741824 := hc.2
  exact floordiv_int (by omega) (by rw [Int.fdiv_eq_ediv_of_nonneg i (by omega)]; exact q) (.inl (PyProof.noPylong_small (by omega)))
/-- % by a positive divisor of any size -/
theorem op_mod : OpR X (binaryOp .Mod) (rI (fun _ j => 0 < j) fun i j => .int (i % j)) := opI fun i j _ _ _ _ _ hc q => by
  have h1 : (0 : Int) < j := hc
  exact mod_int' (by omega) (by rw [Int.fmod_eq_emod_of_nonneg i (by omega)]; exact q)
theorem op_pow : OpR X (binaryOp .Pow) (rI CPow fun i j => .int (i ^ j.toNat)) := opI fun _ _ _ _ _ _ _ hc q => pow_int_small hc.1 hc.2.1 hc.2.2 q
theorem op_shl : OpR X (binaryOp .LShift) (rI CPow fun i j => .int (i * 2 ^ j.toNat)) := opI fun _ _ _ _ _ _ _ hc q => lshift_int_small hc.1 hc.2.1 hc.2.2 q
theorem op_shr : OpR X (binaryOp .RShift) (rI (fun _ j => 0 ≤ j) fun i j => .int (i / 2 ^ j.toNat)) := opI fun i j _ _ _ _ _ hc q =>
  rshift_int hc (by rw [Int.fdiv_eq_ediv_of_nonneg i (two_pow_nn _)]; exact q)



/-! ### bools among ints: n += (a < b) -/
end

/-! ### comparisons -/
/-- the scalars that == tells apart as data does -/
def scal : V → V → Bool
  | .non, .non => true | .non, .int _ => true | .int _, .non => true | .non, .bl _ => true | .bl _, .non => true | .non, .str _ => true | .str _, .non => true
  | .int _, .int _ => true | .bl _, .bl _ => true | .str _, .str _ => true | .byt _, .byt _ => true
  | .int _, .str _ => true | .str _, .int _ => true | .bl _, .str _ => true | .str _, .bl _ => true
  | _, _ => false
def rEq : R2 := fun x y H Q => scal x y = true ∧ Q (.bl (decide (x = y))) H

theorem dec_int {i j : Int} : decide (V.int i = V.int j) = (i == j) := by
  rw [Bool.eq_iff_iff]
  simp
theorem dec_bl {i j : Bool} : decide (V.bl i = V.bl j) = (i == j) := by
  rw [Bool.eq_iff_iff]
  simp
theorem dec_str {i j : Str} : decide (V.str i = V.str j) = (i == j) := by
  rw [Bool.eq_iff_iff]
  simp
theorem dec_byt {i j : Array UInt8} : decide (V.byt i = V.byt j) = (i.toList == j.toList) := by
  rw [Bool.eq_iff_iff]
  cases i
  cases j
  simp

section
variable {X : Cx} {a b c : Expr} {ta tb tc : TE} {pos : Pos}
theorem fin_bl {pins : List (Addr × Obj)} {σ : St} {H : Hp} {s : Shared} {Q : VK} {k k' : Bool} (I : Inv X pins σ H s) (q : Q (.bl k) H) (e : k = k') : EP X pins σ Q (.bool k') s := by
  subst e
  exact ⟨.bl k, H, I, rfl, q⟩
theorem op_eq : OpR X (compareOp .Eq) rEq := by
  intro pins s σ H x y v u Q I rx ry h
  obtain ⟨hs, q⟩ := h
  cases x with
  | non =>
    cases rx
    cases y with
    | non => cases ry; exact PySem.EqNone.eq_none_none (fin_bl I q (by simp))
    | bl j => cases ry; exact PySem.EqNone.eq_none_bool (fin_bl I q (by simp))
    | int j => obtain ⟨t', rfl⟩ := ry; exact PySem.EqNone.eq_none_int (fin_bl I q (by simp))
    | str j => obtain ⟨t', rfl⟩ := ry; exact PySem.EqNone.eq_none_str (fin_bl I q (by simp))
    | _ => exact absurd (show false = true from hs) Bool.false_ne_true
  | bl i =>
    cases rx
    cases y with
    | non => cases ry; exact PySem.EqNone.eq_bool_none (fin_bl I q (by simp))
    | bl j => cases ry; exact eq_bool (fin_bl I q dec_bl)
    | str j => obtain ⟨t', rfl⟩ := ry; exact PySem.EqMixed.eq_bool_str (fin_bl I q (by simp))
    | _ => exact absurd (show false = true from hs) Bool.false_ne_true
  | int i =>
    obtain ⟨t, rfl⟩ := rx
    cases y with
    | non => cases ry; exact PySem.EqNone.eq_int_none (fin_bl I q (by simp))
    | int j => obtain ⟨t', rfl⟩ := ry; exact eq_int (fin_bl I q dec_int)
    | str j => obtain ⟨t', rfl⟩ := ry; exact PySem.EqMixed.eq_int_str (fin_bl I q (by simp))
    | _ => exact absurd (show false = true from hs) Bool.false_ne_true
  | str i =>
    obtain ⟨t, rfl⟩ := rx
    cases y with
    | non => cases ry; exact PySem.EqNone.eq_str_none (fin_bl I q (by simp))
    | bl j => cases ry; exact PySem.EqMixed.eq_str_bool (fin_bl I q (by simp))
    | int j => obtain ⟨t', rfl⟩ := ry; exact PySem.EqMixed.eq_str_int (fin_bl I q (by simp))
    | str j => obtain ⟨t', rfl⟩ := ry; exact eq_str (fin_bl I q dec_str)
    | _ => exact absurd (show false = true from hs) Bool.false_ne_true
  | byt i =>
    obtain ⟨t, rfl⟩ := rx
    cases y with
    | byt j => obtain ⟨t', rfl⟩ := ry; exact PySem.W.eq_bytes (fin_bl I q dec_byt)
    | _ => exact absurd (show false = true from hs) Bool.false_ne_true
  | _ => cases y <;> exact absurd (show false = true from hs) Bool.false_ne_true

theorem op_lt : OpR X (compareOp .Lt) (rI0 fun i j => .bl (decide (i < j))) := opB0 fun _ _ _ _ _ _ _ q => lt_int q
theorem op_gt : OpR X (compareOp .Gt) (rI0 fun i j => .bl (decide (j < i))) := opB0 fun _ _ _ _ _ _ _ q => gt_int q
theorem op_ge : OpR X (compareOp .GtE) (rI0 fun i j => .bl (decide (j ≤ i))) := opB0 fun _ _ _ _ _ _ _ q => ge_int q




/-- a comparison as a value; hm: nomark b, or (for in, not in) by with_unfolding_all rfl -/
theorem pe_cmpR {op : CmpOp} {r : R2} (ho : OpR X (compareOp op) r) (ha : PE X a ta) (hb : PE X b tb) (hm : behindInMarks op b = false) : PE X (.Compare a [op] [b] pos) (tOp r ta tb) := by
  intro pins s σ H Q I h
  exact wpAny_Compare1 (binT ha hb I h fun v u s2 x y H2 I2 rx ry q => ho pins s2 σ H2 x y v u Q I2 rx ry q) hm
/-- a reading of a value as a test -/
def tTest (t : TE) : TT := fun σ H Q => t σ H fun x H' => ∃ k, x = .bl k ∧ Q k H'
theorem pt_cmpR {op : CmpOp} {r : R2} (ho : OpR X (compareOp op) r) (ha : PE X a ta) (hb : PE X b tb) (hm : behindInMarks op b = false) : PT X (.Compare a [op] [b] pos) (tTest (tOp r ta tb)) := by
  intro pins s σ H Q I h
  refine wpAny_isTrue_Compare1 (thn (ha pins s σ H _ I h) fun v s1 ⟨x, H1, I1, r1, q1⟩ => thn (hb pins s1 σ H1 _ I1 q1) fun u s2 ⟨y, H2, I2, r2, q2⟩ =>
    thn (ho pins s2 σ H2 x y v u _ I2 r1 r2 q2) fun c s3 ⟨z, H3, I3, r3, k, e, q3⟩ => ?_) hm
  subst e
  cases r3
  exact wpAny_truthy_bool ⟨H3, I3, q3⟩

/-! ### truth -/
/-- a value's truth by the abstract heap -/
def TruV (K : PySem.W.Frag) (x : V) (H : Hp) (k : Bool) : Prop :=
  match x with
  | .non => k = false
  | .bl b => k = b
  | .int i => k = (i != 0)
  | .str y => y.length ≤ sizeLine ∧ k = ((y.length : Int) != 0)
  | .byt y => y.size ≤ sizeLine ∧ k = ((y.size : Int) != 0)
  | .ref p => (∃ xs, SqL K H p xs ∧ k = !xs.isEmpty) ∨ (∃ xs, SqT K H p xs ∧ k = !xs.isEmpty) ∨ ∃ kvs, H p = some (.dK kvs) ∧ k = !kvs.isEmpty
  | _ => False
theorem isEmpty_kv {κ : Type} {kvs : List (κ × V)} {vs : List (κ × Value)} (r : KV kvs vs) : (!vs.isEmpty) = !kvs.isEmpty := by
  cases r <;> rfl
theorem isEmpty_of {xs : List V} {its : List Value} (r : Vals xs its) : (!its.toArray.isEmpty) = !xs.isEmpty := by
  cases r <;> simp
theorem line63 : (sizeLine : Nat) < 2 ^ 63 := by rw [sizeLine_eq]; decide
theorem tru_ok : TruR X (fun x H Q => ∃ k, TruV X.K x H k ∧ Q k H) := by
  intro pins s σ H x v Q I rx h
  obtain ⟨k, e, q⟩ := h
  have hl := line63
  have hs : sizeLine = 16777216 := sizeLine_eq
  cases x with
  | non =>
    cases rx
    have e' : k = false := e
    subst e'
    exact truthy_none ⟨H, I, q⟩
  | bl b =>
    cases rx
    have e' : k = b := e
    subst e'
    exact wpAny_truthy_bool ⟨H, I, q⟩
  | int i =>
    obtain ⟨t, rfl⟩ := rx
    have e' : k = (i != 0) := e
    subst e'
    exact PySem.P.truthy_int ⟨H, I, q⟩
  | str y =>
    obtain ⟨t, rfl⟩ := rx
    obtain ⟨hy, e'⟩ : y.length ≤ sizeLine ∧ k = ((y.length : Int) != 0) := e
    subst e'
    exact PySem.P.truthy_str (by omega) ⟨H, I.tok _, q⟩
  | byt y =>
    obtain ⟨t, rfl⟩ := rx
    obtain ⟨hy, e'⟩ : y.size ≤ sizeLine ∧ k = ((y.size : Int) != 0) := e
    subst e'
    exact PySem.W.truthy_bytes (by omega) ⟨H, I.tok _, q⟩
  | ref p =>
    cases rx
    have e' : (∃ xs, SqL X.K H p xs ∧ k = !xs.isEmpty) ∨ (∃ xs, SqT X.K H p xs ∧ k = !xs.isEmpty) ∨ ∃ kvs, H p = some (.dK kvs) ∧ k = !kvs.isEmpty := e
    rcases e' with ⟨xs, hx, e'⟩ | ⟨xs, hx, e'⟩ | ⟨kvs, hx, e'⟩
    · subst e'
      obtain ⟨its, r, pl, hz⟩ := I.list hx
      have hlen := r.length
      exact wpAny_truthy_list pl.isList (by simp only [List.size_toArray]; omega) ⟨H, I.tok _, by rw [isEmpty_of r]; exact q⟩
    · subst e'
      obtain ⟨its, r, pl, hz⟩ := I.tuple hx
      have hlen := r.length
      exact truthy_tuple pl (by simp only [List.size_toArray]; omega) ⟨H, I.tok _, by rw [isEmpty_of r]; exact q⟩
    · subst e'
      obtain ⟨hz, hS, vs, r, m⟩ : kvs.length ≤ sizeLine ∧ (p == sysModules) = false ∧ ∃ vs, KV kvs vs ∧ s.heap.DictOf (mixKind X.prog X.w) p vs := I.hok p _ hx
      have hlen : kvs.length = vs.length := Paired.length r
      exact wpAny_truthy_dict hS m (by omega) ⟨H, I.tok _, by rw [isEmpty_kv r]; exact q⟩
  | _ => exact (show False from e).elim
/-- any expression whose test is its value's truth (a name, a call, a subscript, a field ..: he by fun _ => rfl) -/
theorem pt_truth (ha : PE X a ta) (he : ∀ whole, isTrue a X.env whole = (do let v ← whole; standAt a.pos; holding [v] (truthy v))) :
    PT X a (fun σ H Q => ta σ H fun x H' => ∃ k, TruV X.K x H' k ∧ Q k H') := by
  intro pins s σ H Q I h
  exact isTrue_plain (thn (ha pins s σ H _ I h) fun v s1 ⟨x, H1, I1, r1, q1⟩ => tru_ok pins s1 σ H1 x v Q I1 r1 q1) (he _)

/-! ### strs and bytes -/


/-! ### scalar builtins, by CallR -/
theorem vals1 {x : V} {us : List Value} (r : Vals [x] us) : ∃ u, us = [u] ∧ RelV x u := by
  cases r with
  | cons r1 r2 => cases r2; exact ⟨_, rfl, r1⟩
theorem vals2 {x y : V} {us : List Value} (r : Vals [x, y] us) : ∃ u w', us = [u, w'] ∧ RelV x u ∧ RelV y w' := by
  cases r with
  | cons r1 r2 =>
    cases r2 with
    | cons r3 r4 => cases r4; exact ⟨_, _, rfl, r1, r3⟩
theorem call_max2 (hc : X.calm = true) : CallR X (.builtin "max") (fun xs H Q => ∃ i j, xs = [.int i, .int j] ∧ Q (.int (if j > i then j else i)) H) := by
  intro pins s σ H xs us Q I r h
  obtain ⟨i, j, rfl, q⟩ := h
  obtain ⟨u, w', rfl, ⟨t, rfl⟩, ⟨t', rfl⟩⟩ := vals2 r
  refine max_two_ints (I.ok.hd hc) fun h' tk k => ⟨_, H, I.kept k, ?_, q⟩
  by_cases hj : j > i
  · rw [if_pos hj, if_pos hj]; exact ⟨_, rfl⟩
  · rw [if_neg hj, if_neg hj]; exact ⟨_, rfl⟩
theorem call_min2 (hc : X.calm = true) : CallR X (.builtin "min") (fun xs H Q => ∃ i j, xs = [.int i, .int j] ∧ Q (.int (if j < i then j else i)) H) := by
  intro pins s σ H xs us Q I r h
  obtain ⟨i, j, rfl, q⟩ := h
  obtain ⟨u, w', rfl, ⟨t, rfl⟩, ⟨t', rfl⟩⟩ := vals2 r
  refine min_two_ints (I.ok.hd hc) fun h' tk k => ⟨_, H, I.kept k, ?_, q⟩
  by_cases hj : j < i
  · rw [if_pos hj, if_pos hj]; exact ⟨_, rfl⟩
  · rw [if_neg hj, if_neg hj]; exact ⟨_, rfl⟩
end
end L2

namespace L2
open PySem PySem.Spec PyProof.Rows

/-! ### an instance, its attributes a map -/
structure ObjM (h : Heap) (x dx C : Addr) (mA : Str → Option Value) : Prop where
  obj : h.get? x = some (PySem.W.instObj C dx)
  ns : h.Ns1 dx mA
  ne : dx ≠ x

theorem lookIn_ns {h : Heap} {dx : Addr} {mA : Str → Option Value} (n : h.Ns1 dx mA) : ∃ od, h.get? dx = some od ∧ ∀ name, PySem.W.lookIn name od = some (mA name) := by
  obtain ⟨o, es, ep, ho, hd, hk, _, hm⟩ := n
  refine ⟨o, ho, fun name => ?_⟩
  have e := hm name
  unfold nsFind findBy at e
  rw [← Array.find?_toList] at e
  unfold PySem.W.lookIn
  rw [hd]
  dsimp only
  split
  · rename_i y q
    rw [q] at e
    exact congrArg some e
  · rename_i q
    rw [q] at e
    have a : es.toList.any (·.refKey) = false := by
      rw [List.any_eq_false]
      intro y hy
      obtain ⟨z, t, hkey⟩ := hk y (Array.mem_toList_iff.mp hy)
      simp [DictEntry.refKey, hkey]
    have a' : ¬ es.toList.any (·.refKey) = true := by rw [a]; exact Bool.false_ne_true
    rw [if_neg a']
    exact congrArg some e

theorem ObjM.look {h : Heap} {x dx C : Addr} {mA : Str → Option Value} (I : ObjM h x dx C mA) : ∃ od, PySem.W.InstAt h x (PySem.W.instObj C dx) C (some od) ∧ ∀ name, PySem.W.lookIn name od = some (mA name) :=
  let ⟨od, ho, hl⟩ := lookIn_ns I.ns
  ⟨od, ⟨I.obj, rfl, rfl, ho⟩, hl⟩

section
variable {prog : Program} {w : World} {A : Around} {E : Value → Shared → Prop} {s : Shared} {K : PySem.W.Frag} {x dx C f : Addr} {mA : Str → Option Value} {name : Str} {v : Value}





end

/-! ### the attributes as a list of pairs -/


section
variable {P : Program} {w : World} {H H' : Hp} {h h' : Heap} {a C dx : Addr} {fs fs' : List (Str × V)}
theorem ins_get (hok : HOk P w H h) (e : H a = some (.ins C dx fs)) : ∃ mA, ObjM h a dx C mA ∧ (∀ f, RelO (fs.lookup f) (mA f)) ∧ PySem.Within mA (fs.map (·.1)) ∧ fs.length ≤ 1000 ∧ H dx = some (.own a) := by
  obtain ⟨d, z, ne, ob, mA, n, r, q⟩ := (show ObjOk P w H h a (.ins C dx fs) from hok a _ e)
  exact ⟨mA, ⟨ob, n, ne⟩, r, q, z, d⟩
end

/-! ### what of the text a class must have -/
structure Cls (K : PySem.W.Frag) (C : Addr) : Prop where
  pg : PySem.W.plainGet K C Str.empty = true
  hd : PySem.W.hasDictIn K C = true
  po : PySem.W.plainOver K C = true
  sa : PySem.W.findIn K (.ref C) "__setattr__" = some (some (.builtin "object.__setattr__"))
theorem Cls.get {K : PySem.W.Frag} {C : Addr} (c : Cls K C) (f : Str) : PySem.W.plainGet K C f = true := c.pg

section
variable {X : Cx} {pins : List (Addr × Obj)} {σ : St} {H : Hp} {s : Shared} {a C dx : Addr} {fs : List (Str × V)} {f : Str} {v : V} {A : Around} {E : Value → Shared → Prop}






end

/-! ### readings and rules -/

section
variable {X : Cx} {o e value : Expr} {f : Str} {pos pos' tpos : Pos} {ta tv : TE}

end

/-! ### isinstance -/
section
variable {X : Cx} {pins : List (Addr × Obj)} {σ : St} {H : Hp} {s : Shared} {A : Around} {E : Value → Shared → Prop} {Q : Value → Shared → Prop} {c : Value} {b : Bool}
/-- the type of a value, as the fragment's deciders take it; for an instance its class -/
inductive TyOf (K : PySem.W.Frag) (H : Hp) : V → Value → Prop where
  | non : TyOf K H .non (.type "NoneType")
  | bl (x : Bool) : TyOf K H (.bl x) (.type "bool")
  | int (i : Int) : TyOf K H (.int i) (.type "int")
  | str (x : Str) : TyOf K H (.str x) (.type "str")
  | flt (x : UInt64) : TyOf K H (.flt x) (.type "float")
  | lst {a : Addr} {xs : List V} (e : H a = some (.lst xs)) : TyOf K H (.ref a) (.type "list")
  | frz {a : Addr} {o : Obj} {xs : List V} (e : H a = some (.frz o (.lst xs))) : TyOf K H (.ref a) (.type "list")
  | tup {a : Addr} {xs : List V} (e : H a = some (.tup xs)) : TyOf K H (.ref a) (.type "tuple")
  | dK {a : Addr} {kvs : List (Key × V)} (e : H a = some (.dK kvs)) : TyOf K H (.ref a) (.type "dict")
  | dT {a : Addr} {kvs : List (List Key × V)} (e : H a = some (.dT kvs)) : TyOf K H (.ref a) (.type "dict")
  | ins {a C dx : Addr} {fs : List (Str × V)} (e : H a = some (.ins C dx fs)) (cl : Cls K C) (ha : PySem.W.findIn K (.ref C) "__class__" = some (some (.builtin "object.__class__")))
      (hn : PySem.W.specialIn K (.builtin "object.__class__") "__get__" = some (some (.builtin "getset_descriptor.__get__"))) (htk : PySem.W.takesIn K (.builtin "object.__class__") = some true)
      (hm : PySem.W.mroIn K C (.type "object") = some true) : TyOf K H (.ref a) (.ref C)
/-- isinstance(x, c) for one class c, a built-in or an own one: kitOne's answer -/
theorem isinst_ok {x : V} {u t : Value} (I : Inv X pins σ H s) (rx : RelV x u) (ty : TyOf X.K H x t) (e : PySem.W.kitOne X.K t c = some b) (h : ∀ tk, Q (.bool b) { s with toks := tk }) :
    wpAny (model X.prog X.w) A (call (.builtin "isinstance") [u, c]) Q E s := by
  cases ty with
  | non => cases (show u = Value.none from rx); exact PySem.W.kia_one PySem.W.kitx_none I.kIn True.intro e (fun z => nomatch z) h
  | bl y => cases (show u = Value.bool y from rx); exact PySem.W.kia_one PySem.W.kitx_bool I.kIn True.intro e (fun z => nomatch z) h
  | int i => obtain ⟨t, q⟩ := (show ∃ t, u = Value.int i t from rx); cases q; exact PySem.W.kia_one PySem.W.kitx_int I.kIn True.intro e (fun z => nomatch z) h
  | str y => obtain ⟨t, q⟩ := (show ∃ t, u = Value.str y t from rx); cases q; exact PySem.W.kia_one PySem.W.kitx_str I.kIn True.intro e (fun z => nomatch z) h
  | flt y => obtain ⟨t, q⟩ := (show ∃ t, u = Value.float y t from rx); cases q; exact PySem.W.kia_one PySem.W.kitx_float I.kIn True.intro e (fun z => nomatch z) h
  | @lst a xs ea =>
    cases (show u = Value.ref a from rx)
    obtain ⟨_, _, n, _, h1⟩ := (show ObjOk X.prog X.w H s.heap a (.lst xs) from I.hok a _ ea)
    exact PySem.W.kia_one PySem.W.kitx_list I.kIn ⟨_, h1, rfl⟩ e (fun z => nomatch z) h
  | @frz a ob xs ea =>
    cases (show u = Value.ref a from rx)
    obtain ⟨_, _, _, n, _, h1⟩ := (show ObjOk X.prog X.w H s.heap a (.frz ob (.lst xs)) from I.hok a _ ea)
    exact PySem.W.kia_one PySem.W.kitx_list I.kIn ⟨_, h1, rfl⟩ e (fun z => nomatch z) h
  | @tup a xs ea =>
    cases (show u = Value.ref a from rx)
    obtain ⟨_, _, _, p⟩ := (show ObjOk X.prog X.w H s.heap a (.tup xs) from I.hok a _ ea)
    obtain ⟨o, h1, h2, _⟩ := p
    exact PySem.W.kia_one PySem.W.kitx_tuple I.kIn ⟨o, h1, h2⟩ e (fun z => nomatch z) h
  | @dK a kvs ea =>
    cases (show u = Value.ref a from rx)
    obtain ⟨_, _, vs, _, p⟩ := (show ObjOk X.prog X.w H s.heap a (.dK kvs) from I.hok a _ ea)
    obtain ⟨o, es, ep, h1, h2, _⟩ := p
    exact PySem.W.kia_one PySem.W.kitx_dict I.kIn ⟨o, h1, h2.1⟩ e (fun z => nomatch z) h
  | @dT a kvs ea =>
    cases (show u = Value.ref a from rx)
    obtain ⟨_, _, xs, _, o, es, ep, h1, h2, _⟩ := (show ObjOk X.prog X.w H s.heap a (.dT kvs) from I.hok a _ ea)
    exact PySem.W.kia_one PySem.W.kitx_dict I.kIn ⟨o, h1, h2.1⟩ e (fun z => nomatch z) h
  | @ins a C dx fs ea cl ha hn htk hm =>
    cases (show u = Value.ref a from rx)
    obtain ⟨mA, O, _⟩ := ins_get I.hok ea
    obtain ⟨od, J, _⟩ := O.look
    exact PySem.W.kia_one (PySem.W.kitx_own (cl.get _) cl.hd ha hn htk hm) I.kIn J e (fun z => nomatch z) h
end
end L2

namespace L2
open PySem PySem.Spec PyProof.Rows

/-! ### room -/
structure Room (k : Nat) (A : Around) : Prop where
  hd : A.handled = none
  dp : A.depth + 3 * k + 5 < recursionLimit
  un : A.units + 16 * k + 200 < cLine
  gd : A.guards = some []
theorem Room.mono {j k : Nat} {A : Around} (r : Room k A) (h : j ≤ k) : Room j A := ⟨r.hd, by have := r.dp; omega, by have := r.un; omega, r.gd⟩
theorem Room.deeper {k : Nat} {A : Around} (r : Room (k + 1) A) (env : Env) : Room k (A.deeper env) :=
  ⟨r.hd, by have := r.dp; show A.depth + 1 + 3 * k + 5 < _; omega, by have := r.un; show A.units + 3 + 16 * k + 200 < _; omega, r.gd⟩
theorem Room.depth {k : Nat} {A : Around} (r : Room k A) : A.depth < recursionLimit := by have := r.dp; omega

/-! ### argument lists and displays -/
def tNil : TA := fun _ H Q => Q [] H
def tCons (ta : TE) (tr : TA) : TA := fun σ H Q => ta σ H fun x H1 => tr σ H1 fun xs H2 => Q (x :: xs) H2
section
variable {X : Cx} {e : Expr} {es : List Expr} {te : TE} {t : TA} {pos : Pos}
theorem pa_nil : PA X [] tNil := fun _ _ _ _ H Q I h => Calls.spliced_nil ⟨[], H, I, .nil, h⟩
theorem pa_cons (ha : PE X e te) (hr : PA X es t) (hs : starEach (e :: es) X.env = (false, eval e X.env) :: starEach es X.env := by rfl) : PA X (e :: es) (tCons te t) := by
  intro pos pins s σ H Q I h
  rw [hs]
  show wpAny _ _ (spliced ((false, eval e X.env) :: backTo pos (starEach es X.env))) _ _ s
  refine Calls.spliced_cons (thn (ha pins s σ H _ I h) fun u s1 ⟨x, H1, I1, r1, q1⟩ => ?_)
  exact thn (hr pos pins s1 σ H1 _ I1 q1) fun us s2 ⟨xs, H2, I2, r2, q2⟩ => ⟨x :: xs, H2, I2, .cons r1 r2, q2⟩

/-- a tuple, a list of written items -/
def tTup (t : TA) : TE := fun σ H Q => t σ H fun xs H1 => xs.length ≤ sizeLine ∧ ∀ p, H1 p = none → Q (.ref p) (upd H1 p (.tup xs))
def tLst (t : TA) : TE := fun σ H Q => t σ H fun xs H1 => xs.length ≤ sizeLine ∧ ∀ p, H1 p = none → Q (.ref p) (upd H1 p (.lst xs))
theorem pe_tup {x1} (h : PA X es t) : PE X (.Tuple es x1 pos) (tTup t) := by
  intro pins s σ H Q I hq
  refine wpAny_Tuple_spliced (thn (h pos pins s σ H _ I hq) fun us s1 ⟨xs, H1, I1, r, z, q⟩ => ⟨by rw [← r.length]; exact z, ?_⟩)
  have hf : H1 s1.heap.objs.size = none := I1.hok.fresh (Nat.le_refl _)
  refine ⟨.ref s1.heap.objs.size, upd H1 s1.heap.objs.size (.tup xs), I1.laid (t' := s1.toks) (fun b u e => Heap.get?_push_of_some _ e) (Nat.le_refl _) ?_, rfl, q _ hf⟩
  exact ⟨⟨z, NoD.of (Heap.get?_push_size _ rfl) rfl⟩, us, r, ⟨_, Heap.get?_push_size _ rfl, rfl, _, rfl⟩⟩
theorem pe_lst (h : PA X es t) : PE X (.List es pos) (tLst t) := by
  intro pins s σ H Q I hq
  refine wpAny_List_spliced (thn (h pos pins s σ H _ I hq) fun us s1 ⟨xs, H1, I1, r, z, q⟩ => ⟨by rw [← r.length]; exact z, ?_⟩)
  have hf : H1 s1.heap.objs.size = none := I1.hok.fresh (Nat.le_refl _)
  refine ⟨.ref s1.heap.objs.size, upd H1 s1.heap.objs.size (.lst xs), I1.laid (t' := s1.toks) (fun b u e => Heap.get?_push_of_some _ e) (Nat.le_refl _) ?_, rfl, q _ hf⟩
  exact ⟨z, us, 0, r, Heap.get?_push_size _ rfl⟩
end

/-! ### what a def promises -/
/-- a def's promise: the bound arguments in the parameters' order, the heap, the wanted end, the wanted exception -/
abbrev Sp := List V → Hp → VK → XK → Prop
/-- how an exception lies behind a call (file 08 gives it): the callers' frames, abstract heap and state ahead of the call, the wish, the exception, the state -/
abbrev CXT := List Env → Hp → Shared → XK → Value → Shared → Prop

/-- the state at a call -/
structure Env0 (P : Program) (w : World) (K : PySem.W.Frag) (mg : Str → Option Value) (base : Heap) (A : Around) (outer : List Env) (s : Shared) (H : Hp) : Prop where
  frames : A.frames = some outer
  mod : Mod K mg base
  bs : ∀ b o, base.get? b = some o → s.heap.get? b = some o ∧ H b = none
  bsz : base.objs.size ≤ s.heap.objs.size
  funs : s.heap.FunFrames base outer
  frf : ∀ b ∈ frs outer, H b = none
  hok : HOk P w H s.heap
  bare : AllBare s.gens
/-- a call's end -/
def CE (outer : List Env) (P : Program) (w : World) (H : Hp) (s : Shared) (Q : VK) (u : Value) (s' : Shared) : Prop :=
  ∃ v H', s'.os = s.os ∧ AllBare s'.gens ∧ Un (frs outer) [] H H' s.heap s'.heap ∧ HOk P w H' s'.heap ∧ RelV v u ∧ Q v H'
def CR (CX : CXT) (outer : List Env) (P : Program) (w : World) (H : Hp) (s : Shared) (Q : VK) (E : XK) (r : Result) (s' : Shared) : Prop :=
  match r with
  | .ok (.ret u) => CE outer P w H s Q u s'
  | .ok _ => False
  | .error e => CX outer H s E e s'
structure FnOk (P : Program) (w : World) (K : PySem.W.Frag) (mg : Str → Option Value) (base : Heap) (CX : CXT) (k : Nat) (f : Addr) (fd : FuncData) (ps : List Str) (sp : Sp) : Prop where
  len : ∀ vs H Q E, sp vs H Q E → vs.length = ps.length
  run : ∀ (A : Around) (outer : List Env) (s : Shared) (H : Hp) (args : Args) (us : List Value) (vs : List V) (Q : VK) (E : XK), Room k A → Env0 P w K mg base A outer s H → BindsTo s fd args (ps.zip us) → Vals vs us → sp vs H Q E →
    codeAny (model P w) A (.call (.ref f) args) (CR CX outer P w H s Q E) s


section
variable {X : Cx} {pins : List (Addr × Obj)} {σ : St} {H : Hp} {s s' : Shared}
/-- from a body: what a callee wants -/
theorem Inv.env0 (I : Inv X pins σ H s) : Env0 X.prog X.w X.K X.mg X.base X.A X.stack s H :=
  ⟨I.ok.frames, I.ok.mod, I.bs, Nat.le_trans I.ok.bsz I.sz, I.stack, I.stkFree, I.hok, I.bare⟩
/-- behind a call -/
theorem Inv.after {Q : VK} {u : Value} (I : Inv X pins σ H s) (h : CE X.stack X.prog X.w H s Q u s') : EP X pins σ Q u s' := by
  obtain ⟨v, H', os, bare, un, hok, r, q⟩ := h
  obtain ⟨hh, g, d, t, os'⟩ := s'
  obtain rfl : os' = s.os := os
  exact ⟨v, H', I.call (h' := hh) (g' := g) (d' := d) (t' := t) (ch := []) un hok bare (fun b z => absurd z (by simp)), r, q⟩
end

/-! ### calls -/
/-- f(..): the written arguments, then the defaults dvs; E: what is wanted of an exception -/
def tCall (sp : Sp) (dvs : List V) (E : XK) (t : TA) : TE := fun σ H Q => t σ H fun vs H1 => sp (vs ++ dvs) H1 Q E

/-- how the parameters are bound: us the positional arguments, kw the keywords' values by name, ds the defaults that fill up -/
def Binds (K : PySem.W.Frag) (fd : FuncData) (ps : List Str) (ds : List Value) : Prop :=
  ∀ (s : Shared) (us : List Value), K.In s.heap → (us ++ ds).length = ps.length → BindsTo s fd ⟨us, []⟩ (ps.zip (us ++ ds))
/-- every parameter is given -/
theorem Binds.all {K : PySem.W.Frag} {fd : FuncData} {ps : List Str} (h : ∀ us : List Value, us.length = ps.length → bindArgs fd ⟨us, []⟩ = pure (ps.zip us)) : Binds K fd ps [] := fun s us _ hl => by
  rw [List.append_nil] at hl ⊢
  exact .of_eq (h us hl)

/-- an exception of a callee reaches what this body wants of exceptions -/
def Passes (CX : CXT) (X : Cx) (E : XK) : Prop := ∀ (pins : List (Addr × Obj)) (σ : St) (H : Hp) (s : Shared) (e : Value) (s' : Shared), Inv X pins σ H s → CX X.stack H s E e s' → X.xe e s'

section
variable {X : Cx} {CX : CXT} {k : Nat} {f C : Addr} {fd : FuncData} {ps : List Str} {sp : Sp} {dvs : List V} {ds : List Value} {E : XK} {x m : Str} {p pos apos : Pos} {e o : Expr} {es : List Expr} {ta : TE} {t : TA}

/-- the callee runs -/
theorem run_fn {pins : List (Addr × Obj)} {σ : St} {H : Hp} {s : Shared} {Q : VK} {us : List Value} {vs : List V} (F : FnOk X.prog X.w X.K X.mg X.base CX k f fd ps sp) (hr : Room k X.A) (hb : Binds X.K fd ps ds) (hd : Vals dvs ds) (hx : Passes CX X E)
    (I : Inv X pins σ H s) (r : Vals vs us) (h : sp (vs ++ dvs) H Q E) : wpAny (model X.prog X.w) X.A (call (.ref f) us) (EP X pins σ Q) X.xe s := by
  have r2 : Vals (vs ++ dvs) (us ++ ds) := r.append hd
  have hl : (us ++ ds).length = ps.length := by rw [← r2.length]; exact F.len _ _ _ _ h
  refine wpAny_call (codeAny_mono (F.run X.A X.stack s H ⟨us, []⟩ (us ++ ds) (vs ++ dvs) Q E hr I.env0 (hb s us I.kIn hl) r2 h) fun r s' hq => ?_)
  cases r with
  | error e => exact hx pins σ H s e s' I hq
  | ok fl =>
    cases fl with
    | ret u => exact I.after hq
    | next => exact False.elim hq
    | brk => exact False.elim hq
    | cont => exact False.elim hq

theorem pe_call (F : FnOk X.prog X.w X.K X.mg X.base CX k f fd ps sp) (hr : Room k X.A) (hg : Gl X x) (hm : X.mg x = some (.ref f)) (hk : PySem.W.keepIn X.K (.ref f) = true) (hb : Binds X.K fd ps ds) (hd : Vals dvs ds) (hx : Passes CX X E)
    (ha : PA X (e :: es) t) (hdb : (x == ("__debug__" : Str)) = false := by decide) (he : starEach (e :: es) X.env = (false, eval e X.env) :: starEach es X.env := by rfl) (hpl : (backTo pos (starEach es X.env)).any (·.1) = false := by rfl) :
    PE X (.Call (.Name x p) (e :: es) [] pos) (tCall sp dvs E t) := by
  intro pins s σ H Q I h
  refine wpAny_Call_Name_kw (ld_glob I hg hm ?_ hdb)
  refine PySem.W.callWith_K (h₀ := X.base) I.ok.mod.kin hk (thn (ha pos pins s σ H _ I h) fun us s1 ⟨vs, H1, I1, r, q⟩ => ⟨I1.kIn, ?_⟩) he hpl
  exact run_fn F hr hb hd hx I1 r q



end

/-! ### keywords -/
section
variable {X : Cx} {CX : CXT} {k : Nat} {f C : Addr} {fd : FuncData} {ps ks : List Str} {sp : Sp} {E : XK} {x m : Str} {p pos apos kpos : Pos} {e o : Expr} {es : List Expr} {kws : List Keyword} {te ta : TE} {t tk : TA} {nm : Option Str}

variable {g : List Value → List Value → List Value} {gV : List V → List V → List V}
end

/-! ### a def's body keeps its promise -/
/-- names: the parameters first -/
structure FnScope (N P : List Str) (sc : Scope) : Prop where
  kind : sc.kind = .function
  co : sc.isCoroutine = false
  gen : sc.isGenerator = false
  nd : N.Nodup
  pre : N.take P.length = P
  par : ∀ x ∈ P, sc.names.lookup x = some .local ∨ sc.names.lookup x = some .cell
  nofree : ∀ y ∈ sc.names, y.2 ≠ .free

theorem bindL_out {kindOf : Str → Option NameKind} {x : Str} : ∀ {binds : List (Str × Value)} {m : Str → Option Value}, (∀ v, (x, v) ∉ binds) → bindL kindOf binds m x = m x
  | [], _, _ => rfl
  | (n, v) :: r, m, h => by
    unfold bindL
    rw [bindL_out fun w hw => h w (List.mem_cons_of_mem _ hw)]
    split
    · have : x ≠ n := by rintro rfl; exact h v List.mem_cons_self
      simp [this]
    · rfl
theorem bindC_out {kindOf : Str → Option NameKind} {x : Str} : ∀ {binds : List (Str × Value)} {m : Str → Option Value}, (∀ v, (x, v) ∉ binds) → bindC kindOf binds m x = m x
  | [], _, _ => rfl
  | (n, v) :: r, m, h => by
    unfold bindC
    rw [bindC_out fun w hw => h w (List.mem_cons_of_mem _ hw)]
    split
    · rfl
    · have : x ≠ n := by rintro rfl; exact h v List.mem_cons_self
      simp [this]
theorem bindL_get {kindOf : Str → Option NameKind} {x : Str} {v : Value} : ∀ {P : List Str} {vs : List Value} {i : Nat} {m : Str → Option Value}, P.Nodup → P[i]? = some x → vs[i]? = some v → kindOf x = some .local →
    bindL kindOf (P.zip vs) m x = some v
  | [], _, _, _, _, h, _, _ => by simp at h
  | _ :: _, [], _, _, _, _, h, _ => by simp at h
  | p :: P, w :: vs, 0, m, nd, h1, h2, hk => by
    simp at h1 h2; subst h1; subst h2
    show bindL kindOf ((p, w) :: P.zip vs) m p = _
    unfold bindL
    rw [bindL_out fun v hv => (List.nodup_cons.mp nd).1 (List.of_mem_zip hv).1, if_pos hk]
    simp
  | p :: P, w :: vs, i + 1, m, nd, h1, h2, hk => by
    show bindL kindOf ((p, w) :: P.zip vs) m x = _
    unfold bindL
    exact bindL_get (i := i) (List.nodup_cons.mp nd).2 (by simpa using h1) (by simpa using h2) hk
theorem bindC_get {kindOf : Str → Option NameKind} {x : Str} {v : Value} : ∀ {P : List Str} {vs : List Value} {i : Nat} {m : Str → Option Value}, P.Nodup → P[i]? = some x → vs[i]? = some v → kindOf x ≠ some .local →
    bindC kindOf (P.zip vs) m x = some v
  | [], _, _, _, _, h, _, _ => by simp at h
  | _ :: _, [], _, _, _, _, h, _ => by simp at h
  | p :: P, w :: vs, 0, m, nd, h1, h2, hk => by
    simp at h1 h2; subst h1; subst h2
    show bindC kindOf ((p, w) :: P.zip vs) m p = _
    unfold bindC
    rw [bindC_out fun v hv => (List.nodup_cons.mp nd).1 (List.of_mem_zip hv).1, if_neg hk]
    simp
  | p :: P, w :: vs, i + 1, m, nd, h1, h2, hk => by
    show bindC kindOf ((p, w) :: P.zip vs) m x = _
    unfold bindC
    exact bindC_get (i := i) (List.nodup_cons.mp nd).2 (by simpa using h1) (by simpa using h2) hk

/-- the names' values at the entry -/
def start (N : List Str) (vs : List V) : St := vs.map some ++ List.replicate (N.length - vs.length) none

/-- the context of a def's body, at its entry; an exception leaves the frame, then lies as CX says -/
def cxOf (CX : CXT) (P : Program) (w : World) (K : PySem.W.Frag) (mg : Str → Option Value) (base : Heap) (N : List Str) (qual : Str) (scope : Scope) (f : Addr) (cd : Value) (A : Around) (outer : List Env) (s : Shared) (H : Hp) (E : XK) : Cx where
  prog := P
  w := w
  K := K
  mg := mg
  base := base
  A := A.deeper (envOfC qual scope s.heap.objs.size f cd)
  N := N
  s_0 := s
  H_0 := H
  env := envOfC qual scope s.heap.objs.size f cd
  outer := outer
  stack := envOfC qual scope s.heap.objs.size f cd :: outer
  ex := []
  calm := true
  fn := fun _ => true
  pn := []
  xe := fun e s' => wpAny (model P w) (A.deeper (envOfC qual scope s.heap.objs.size f cd)) (leaving (envOfC qual scope s.heap.objs.size f cd) e) (fun _ s'' => CX outer H s E e s'') (fun e' s'' => CX outer H s E e' s'') s'

theorem cell_has {sc : Scope} {n : Nat} {x : Str} (h : sc.names.lookup x = some .cell) : ∃ c, (cellsFrom n sc.names []).lookup x = some c := by
  have q := PySem.W.cellsFrom_some sc.names n [] (.inl h)
  exact Option.isSome_iff_exists.mp q

theorem inv_start {CX : CXT} {P : Program} {w : World} {K : PySem.W.Frag} {mg : Str → Option Value} {base : Heap} {N ps : List Str} {qual : Str} {scope : Scope} {f : Addr} {cd : Value} {A : Around} {outer : List Env} {s s1 : Shared} {H : Hp} {E : XK} {us : List Value} {vs : List V}
    (S : FnScope N ps scope) (hd : A.handled = none) (e0 : Env0 P w K mg base A outer s H) (hl : vs.length = ps.length) (r : Vals vs us)
    (x : InCallC s s.heap.objs.size (bindL (envOfC qual scope s.heap.objs.size f cd).kindOf (ps.zip us) fun _ => none) (cellsFrom (s.heap.objs.size + 1) scope.names []) (bindC (envOfC qual scope s.heap.objs.size f cd).kindOf (ps.zip us) fun _ => none) s1) :
    Inv (cxOf CX P w K mg base N qual scope f cd A outer s H E) [] (start N vs) H s1 := by
  have hpl : ps.length ≤ N.length := by have := congrArg List.length S.pre; rw [List.length_take] at this; omega
  obtain ⟨h1, tk, rfl, hk⟩ := x.done
  have noA : ∀ b : Addr, b ∉ (cxOf CX P w K mg base N qual scope f cd A outer s H E).ex := fun b z => absurd (show b ∈ ([] : List Addr) from z) (by simp)
  refine ⟨⟨e0.mod, S.kind, rfl, rfl, Nat.le_refl _, fun y z c h1 h2 => ?_, fun y hy => ?_, fun y c _ h => ?_, fun _ => hd, Around.frames_deeper e0.frames, .inr ⟨rfl, rfl⟩, fun b z => absurd z (noA b), e0.bs, e0.bsz, fun b _ _ => noA b, fun b z => absurd z (noA b), e0.funs, e0.frf⟩,
    rfl, e0.bare, Un.kept hk, ⟨_, x.toInCall.ns, fun i y v h1 h2 h3 => ?_⟩, fun y c h => ⟨_, x.cell y c h⟩, e0.hok.fresh (Nat.le_refl _), fun y c h => ?_, fun p hp => absurd (show p ∈ ([] : List (Addr × Obj)) from hp) (by simp), e0.hok.kept hk, ?_⟩
  · exact name_of_addr x.apart (PySem.mem_of_lookup h1) (PySem.mem_of_lookup h2)
  · have hy : scope.names.lookup y = some .cell ∨ scope.names.lookup y = some .free := hy
    rcases hy with hy | hy
    · exact cell_has hy
    · exact absurd rfl (S.nofree _ (PySem.mem_of_lookup hy))
  · exact Nat.le_of_lt (x.above y c (PySem.mem_of_lookup h))
  · have hi : i < vs.length := by
      unfold start at h2
      by_cases hi : i < vs.length
      · exact hi
      · rw [List.getElem?_append_right (by simpa using hi)] at h2
        rw [List.getElem?_replicate] at h2
        split at h2 <;> cases h2
    have ha : vs[i]? = some v := by
      unfold start at h2
      rw [List.getElem?_append_left (by simpa using hi), List.getElem?_map] at h2
      cases e : vs[i]? with
      | none => rw [e] at h2; cases h2
      | some a => rw [e] at h2; cases h2; rfl
    obtain ⟨u, hu, rv⟩ := r.get ha
    have hp : ps[i]? = some y := by
      rw [← S.pre, List.getElem?_take_of_lt (by omega)]; exact h1
    have ndP : ps.Nodup := by rw [← S.pre]; exact S.nd.sublist (List.take_sublist _ _)
    refine ⟨u, rv, ?_⟩
    rcases S.par y (List.mem_of_getElem? hp) with k | k
    · exact .inl ⟨k, bindL_get ndP hp hu k⟩
    · obtain ⟨c, e⟩ := cell_has (n := s.heap.objs.size + 1) k
      refine .inr ⟨.inl k, c, e, ?_⟩
      have q := x.cell y c e
      rw [bindC_get ndP hp hu (by show scope.names.lookup y ≠ _; rw [k]; decide)] at q
      exact q
  · exact e0.hok.fresh (Nat.le_of_lt (x.above y c (PySem.mem_of_lookup h)))
  · unfold start
    show _ = N.length
    rw [List.length_append, List.length_map, List.length_replicate]
    omega

/-- THE RULE: a def (or a method) of the text, by its body. The body's reading t is chosen for each entry; it is run at the parameters' values -/
theorem fn_of {CX : CXT} {P : Program} {w : World} {K : PySem.W.Frag} {mg : Str → Option Value} {base : Heap} {k : Nat} {f : Addr} {name qual : Str} {params : Arguments} {body : List Stmt} {scope : Scope} {dV kV doc pm cdv ct oc : Value} {an od : Option Addr}
    {osl : Array (Option Value)} {N ps : List Str} {sp : Sp} (lk : K.lookup f = some ⟨oc, od, .func (PySem.W.fnOf name qual params body scope dV kV doc pm an cdv ct), osl⟩) (hcd : PySem.W.codeIn K cdv qual = true) (S : FnScope N ps scope)
    (len : ∀ vs H Q E, sp vs H Q E → vs.length = ps.length)
    (hbody : ∀ (A : Around) (outer : List Env) (s : Shared) (H : Hp) (vs : List V) (Q : VK) (E : XK), Room k (A.deeper (envOfC qual scope s.heap.objs.size f cdv)) → sp vs H Q E →
      ∃ t, PSs (cxOf CX P w K mg base N qual scope f cdv A outer s H E) body t ∧ t { nx := fun _ H' => Q .non H', rt := Q } (start N vs) H) :
    FnOk P w K mg base CX (k + 1) f (PySem.W.fnOf name qual params body scope dV kV doc pm an cdv ct) ps sp := by
  refine ⟨len, fun A outer s H args us vs Q E hr e0 hb r hsp => ?_⟩
  have hl := len _ _ _ _ hsp
  have KX : K.In s.heap := e0.mod.kin.keeps fun b o e => (e0.bs b o e).1
  have lim : s.heap.NoLimit := e0.mod.nolimit.keeps fun b o e => (e0.bs b o e).1
  have hkind : ∀ y ∈ ps.zip us, scope.names.lookup y.1 = some .local ∨ (scope.names.lookup y.1 = some .cell ∧ ((cellsFrom (s.heap.objs.size + 1) scope.names []).lookup y.1).isSome = true) := fun ⟨n, v⟩ hy => by
    rcases S.par n (List.of_mem_zip hy).1 with q | q
    · exact .inl q
    · exact .inr ⟨q, PySem.W.cellsFrom_some _ _ _ (.inl q)⟩
  refine codeAny_call_function hr.depth (KX _ _ lk) rfl S.co S.gen rfl (PySem.W.codeRec_of KX hcd) (hb _ _ _ _ ?_)
  refine wpAny_newFunctionEnv_cells S.kind hkind fun env he s1 x => ?_
  subst he
  refine ⟨lim.keeps x.toInCall.keep, codeAny_func ?_⟩
  obtain ⟨t, ht, hq⟩ := hbody A outer s H vs Q E (hr.deeper _) hsp
  have I : Inv (cxOf CX P w K mg base N qual scope f cdv A outer s H E) [] (start N vs) H s1 := inv_start S hr.hd e0 hl r x
  refine wpAny_mono (ht [] s1 (start N vs) H _ I hq) (fun fl s' hs => ?_) fun e s' hs => hs
  have fin : ∀ {σ' : St} {H' : Hp} {v : V} {u : Value}, Inv (cxOf CX P w K mg base N qual scope f cdv A outer s H E) [] σ' H' s' → RelV v u → Q v H' → CE outer P w H s Q u s' :=
    fun {σ' H' v u} J rv q => ⟨v, H', J.os, J.bare, J.base, J.hok, rv, q⟩
  cases fl with
  | ret u =>
    obtain ⟨v, σ', H', J, rv, q⟩ := hs
    exact fin J rv q
  | next =>
    obtain ⟨σ', H', J, q⟩ := hs
    exact fin (v := V.non) (u := Value.none) J rfl q
  | brk =>
    obtain ⟨_, _, _, q⟩ := hs
    exact False.elim q
  | cont =>
    obtain ⟨_, _, _, q⟩ := hs
    exact False.elim q
end L2

namespace L2
open PySem PySem.Spec PyProof.Rows
section
variable {X : Cx} {x : Str} {p pos : Pos} {e : Expr} {es : List Expr} {t : TA} {id T : String} {r : List V → Hp → VK → Prop}

def tCB (r : List V → Hp → VK → Prop) (t : TA) : TE := fun σ H Q => t σ H fun vs H1 => r vs H1 Q
/-- f(e, ..), f a built-in function -/
theorem pe_callB (hc : CallR X (.builtin id) r) (hg : Gl X x) (hm : X.mg x = none) (hv : bootBuiltins x = some (.builtin id)) (ha : PA X (e :: es) t) (hn : x ≠ "__name__" := by decide) (hdb : (x == ("__debug__" : Str)) = false := by decide)
    (he : starEach (e :: es) X.env = (false, eval e X.env) :: starEach es X.env := by rfl) (hpl : (backTo pos (starEach es X.env)).any (·.1) = false := by rfl) : PE X (.Call (.Name x p) (e :: es) [] pos) (tCB r t) := by
  intro pins s σ H Q I h
  refine wpAny_Call_Name_kw (ld_blt I hg hm hv ?_ hn hdb)
  exact PyProof.Rows.callWith_builtin1 (thn (ha pos pins s σ H _ I h) fun us s1 ⟨vs, H1, I1, r1, q1⟩ => hc pins s1 σ H1 vs us Q I1 r1 q1) he hpl
/-- T(e, ..), T a built-in type -/
theorem pe_callTy (hc : CallR X (.type T) r) (hg : Gl X x) (hm : X.mg x = none) (hv : bootBuiltins x = some (.type T)) (ha : PA X (e :: es) t) (hn : x ≠ "__name__" := by decide) (hdb : (x == ("__debug__" : Str)) = false := by decide)
    (he : starEach (e :: es) X.env = (false, eval e X.env) :: starEach es X.env := by rfl) (hpl : (backTo pos (starEach es X.env)).any (·.1) = false := by rfl) : PE X (.Call (.Name x p) (e :: es) [] pos) (tCB r t) := by
  intro pins s σ H Q I h
  refine wpAny_Call_Name_kw (ld_blt I hg hm hv ?_ hn hdb)
  exact PyProof.Rows.callWith_type1 (thn (ha pos pins s σ H _ I h) fun us s1 ⟨vs, H1, I1, r1, q1⟩ => hc pins s1 σ H1 vs us Q I1 r1 q1) he hpl
end
end L2

namespace HT
open PySem PyProof.Rows

/-- t < u of tuples of ints -/
def lexLt : List Int → List Int → Bool
  | [], [] => false
  | [], _ :: _ => true
  | _ :: _, [] => false
  | x :: xs, y :: ys => if x = y then lexLt xs ys else decide (x < y)
theorem lexLt_cons (x y : Int) (xs ys : List Int) : lexLt (x :: xs) (y :: ys) = if x = y then lexLt xs ys else decide (x < y) := rfl
theorem lexLt_nil_nil : lexLt [] [] = false := rfl
theorem lexLt_nil_cons (y : Int) (ys : List Int) : lexLt [] (y :: ys) = true := rfl
theorem lexLt_cons_nil (x : Int) (xs : List Int) : lexLt (x :: xs) [] = false := rfl

theorem eqAt_int (A : Around) (s : Shared) (a : Int) (t : Tok) (c : Int) (u : Tok) : ∃ e, SeqAt.EqAt A s (.int a t) (.int c u) e ∧ (e = true ↔ a = c) :=
  ⟨(a == c), SeqAt.EqAt.int_int a t c u, by simp⟩
theorem rcLt_int (A : Around) (s : Shared) (a : Int) (t : Tok) (c : Int) (u : Tok) (prog : Program) (w : World) (E : Value → Shared → Prop) (Q : Value → Shared → Prop) (h : Q (.bool (decide (a < c))) s) :
    wpAny (model prog w) A (richCompare .Lt (.int a t) (.int c u)) Q E s :=
  (PyProof.Rows.lt_int h : wpAny (model prog w) A (compareOp .Lt (.int a t) (.int c u)) Q E s)

section
open PySem.SeqAt
open PySem.AutoSeq1 (wpAny_loadPart')
open PySem.MeetsSeq PySem.MeetsSeq2 PySem.MeetsSeq3

theorem tuple_lt_ints (l b : Addr) (items items2 : Array Value) (n n2 : Nat) (dd dd2 : Option Addr) (sl sl2 : Array (Option Value)) (ns ms : List Int) (hi : IntsAre items.toList ns) (hj : IntsAre items2.toList ms) :
    Meets (Builtin.«tuple.__lt__» ⟨[.ref l, .ref b], []⟩)
      (fun _ R s => s.heap.get? l = some { cls := .type "tuple", dict := dd, data := .seq items n, slots := sl } ∧ s.heap.get? b = some { cls := .type "tuple", dict := dd2, data := .seq items2 n2, slots := sl2 } ∧
        R (.ok (.ret (.bool (lexLt ns ms)))) s) :=
  .of_wp fun prog w A R s h => by
    obtain ⟨hp, g, d, tk, os⟩ := s; obtain ⟨hl, hb, h⟩ := h
    have f2 := AutoSeq1.sub_tuple_tuple
    have z1 : items.size = ns.length := by rw [← hi.length]; simp
    have z2 : items2.size = ms.length := by rw [← hj.length]; simp
    wp_walk using wpAny_loadPart' hl, wpAny_loadPart' hb, wpAny_forIn_list _ (fun rest b s' => b.1 = none ∧ s' = ⟨hp, g, d, tk, os⟩ ∧ ∃ (vs ws : List Value) (ns' ms' : List Int), rest = vs.zip ws ∧
      IntsAre vs ns' ∧ IntsAre ws ms' ∧ ns'.length + items2.size = ms'.length + items.size ∧ R (.ok (.ret (.bool (lexLt ns' ms')))) ⟨hp, g, d, tk, os⟩) _
    case turn =>
      rintro ⟨y, x⟩ rest b s' ⟨hb', rfl, vs, ws, ns', ms', hz, hvi, hwi, hlen, hR⟩
      cases hvi with
      | nil => rw [List.zip_nil_left] at hz; cases hz
      | cons a t hvi' =>
        cases hwi with
        | nil => rw [List.zip_nil_right] at hz; cases hz
        | cons c u hwi' =>
          rw [List.zip_cons_cons] at hz
          injection hz with hyx hrest
          injection hyx with hy hx
          subst hy hx
          rw [lexLt_cons] at hR
          simp only [List.length_cons] at hlen
          obtain ⟨e, he, hiff⟩ := eqAt_int A.in1 ⟨hp, g, d, tk, os⟩ a t c u
          refine wpAny_bind (he prog w _ _ ?_)
          cases e with
          | true =>
            rw [if_pos (hiff.mp rfl)] at hR
            wp_walk
            exact ⟨rfl, rfl, _, _, _, _, hrest, hvi', hwi', by omega, hR⟩
          | false =>
            rw [if_neg (fun q => absurd (hiff.mpr q) Bool.false_ne_true)] at hR
            have hri := rcLt_int A.in1 ⟨hp, g, d, tk, os⟩ a t c u prog w
            wp_walk using hri
            exact ⟨_, rfl, by simpa using hR⟩
    case fin =>
      rintro ⟨b1, b2⟩ s' ⟨hb', rfl, vs, ws, ns', ms', hz, hvi, hwi, hlen, hR⟩
      simp only at hb'
      subst hb'
      have hv : lexLt ns' ms' = decide (items.size < items2.size) := by
        cases hvi with
        | nil =>
          cases hwi with
          | nil =>
            simp only [List.length_nil] at hlen
            rw [lexLt_nil_nil]
            exact (decide_eq_false (by omega)).symm
          | cons c u hw =>
            simp only [List.length_nil, List.length_cons] at hlen
            rw [lexLt_nil_cons]
            exact (decide_eq_true (by omega)).symm
        | cons a t hv =>
          cases hwi with
          | nil =>
            simp only [List.length_nil, List.length_cons] at hlen
            rw [lexLt_cons_nil]
            exact (decide_eq_false (by omega)).symm
          | cons c u hw =>
            rw [List.zip_cons_cons] at hz
            cases hz
      rw [hv] at hR
      wp_walk
      exact ⟨_, rfl, by simpa [Builtin.Tuple.tupleCompareSizes] using hR⟩
    case h =>
      exact ⟨rfl, rfl, items.toList, items2.toList, ns, ms, rfl, hi, hj, by omega, h⟩
end

section
variable {prog : Program} {w : World} {A : Around} {E : Value → Shared → Prop} {s : Shared}

theorem lt_tupInts {l b : Addr} {items items2 : Array Value} {ns ms : List Int} {Q : Value → Shared → Prop} (hl : IsTup s.heap l items) (hb : IsTup s.heap b items2) (hi : IntsAre items.toList ns) (hj : IntsAre items2.toList ms)
    (hu : A.units < cLine) (h : Q (.bool (lexLt ns ms)) s) : wpAny (model prog w) A (compareOp .Lt (.ref l) (.ref b)) Q E s := by
  obtain ⟨⟨cls, dd, data, sl⟩, ho, hc, n, hd⟩ := id hl
  obtain ⟨⟨cls2, dd2, data2, sl2⟩, ho2, hc2, n2, hd2⟩ := id hb
  simp only at hc hd hc2 hd2
  subst hc hd hc2 hd2
  exact richCompare_meets_room (op := .Lt) ⟨_, ho, rfl⟩ ⟨_, ho2, rfl⟩ PySem.F.slot_tuple_lt PySem.F.entry_tuple_lt (PySem.F.args_tuple_lt_2 _ _) (tuple_lt_ints l b items items2 n n2 dd dd2 sl sl2 ns ms hi hj)
    ⟨ho, ho2, show Value.bool (lexLt ns ms) ≠ Value.notImplemented ∧ Q (.bool (lexLt ns ms)) s from ⟨(fun x => nomatch x), h⟩⟩ hu

/-- t + u, t not empty -/
theorem cat_tup {t b : Addr} {vs ws : List Value} {Q : Value → Shared → Prop} (ht : IsTup s.heap t vs.toArray) (hb : IsTup s.heap b ws.toArray) (hv : vs ≠ [])
    (h1 : ws = [] → Q (.ref t) s) (h2 : ws ≠ [] → Q (.ref s.heap.objs.size) { s with heap := s.heap.push { cls := .type "tuple", data := .seq (vs ++ ws).toArray } })
    (hsz : vs.length + ws.length ≤ sizeLine) : wpAny (model prog w) A (binaryOp .Add (.ref t) (.ref b)) Q E s := by
  obtain ⟨⟨cls, dd, data, sl⟩, ho, hc, n, hd⟩ := id ht
  obtain ⟨⟨cls2, dd2, data2, sl2⟩, ho2, hc2, n2, hd2⟩ := id hb
  simp only at hc hd hc2 hd2
  subst hc hd hc2 hd2
  have e : vs.toArray ++ ws.toArray = (vs ++ ws).toArray := by simp
  by_cases hw : ws = []
  · exact concat_meets ⟨_, ho, rfl⟩ ⟨_, ho2, rfl⟩ noFill_tuple_add seq_tuple_add PySem.F.slot_tuple_add PySem.F.entry_tuple_add (PySem.F.args_tuple_add_2 _ _)
      (tuple_addW1 t b vs.toArray ws.toArray n n2 dd dd2 sl sl2 (by simpa using hv) (by simp [hw])) ⟨ho, ho2, h1 hw⟩
  · refine concat_meets ⟨_, ho, rfl⟩ ⟨_, ho2, rfl⟩ noFill_tuple_add seq_tuple_add PySem.F.slot_tuple_add PySem.F.entry_tuple_add (PySem.F.args_tuple_add_2 _ _)
      (tuple_addW2 t b vs.toArray ws.toArray n n2 dd dd2 sl sl2 (by simpa using hv) (by simpa using hw) (by rw [List.size_toArray, List.size_toArray]; exact hsz)) ⟨ho, ho2, ?_⟩
    rw [e]
    exact h2 hw

/-! ### t[a:b], not the whole -/

end
end HT

namespace L2
open PySem PySem.Spec PyProof.Rows

/-! ### the parts of a slice -/


section
variable {X : Cx} {e : Expr} {te : TE} {lo hi : Option Expr} {tl th : TO} {pos p2 : Pos}




/-! ### t < u, t + u -/
theorem Vals.nil_iff {xs : List V} {us : List Value} (r : Vals xs us) : us = [] ↔ xs = [] := by
  cases r with
  | nil => simp
  | cons _ _ => simp
end
end L2

namespace L2
open PySem PySem.Spec PyProof.Rows

/-! ### places -/
/-- the place that an index of any sign means -/
def ixN (n : Nat) (i : Int) : Option Nat := if 0 ≤ i then (if i < n then some i.toNat else none) else if -(n : Int) ≤ i then some (i + n).toNat else none
def atI {α : Type} (xs : List α) (i : Int) : Option α := (ixN xs.length i).bind fun j => xs[j]?
theorem ixN_seq {n : Nat} {i : Int} {j : Nat} (h : ixN n i = some j) : seqIndex? i n = some j ∧ j < n ∧ -(n : Int) ≤ i ∧ i < n := by
  unfold ixN at h
  by_cases h0 : 0 ≤ i
  · rw [if_pos h0] at h
    by_cases h1 : i < n
    · rw [if_pos h1] at h
      have e : i.toNat = j := Option.some.inj h
      exact ⟨by rw [seqIndex_of h0 h1, e], by omega, by omega, h1⟩
    · rw [if_neg h1] at h; cases h
  · rw [if_neg h0] at h
    by_cases h1 : -(n : Int) ≤ i
    · rw [if_pos h1] at h
      have e : (i + n).toNat = j := Option.some.inj h
      exact ⟨by rw [seqIndex_neg (by omega) h1, e], by omega, h1, by omega⟩
    · rw [if_neg h1] at h; cases h
theorem atI_get {α : Type} {xs : List α} {i : Int} {v : α} (h : atI xs i = some v) : ∃ j, seqIndex? i xs.length = some j ∧ xs[j]? = some v ∧ j < xs.length ∧ -(xs.length : Int) ≤ i ∧ i < xs.length := by
  unfold atI at h
  cases e : ixN xs.length i with
  | none => rw [e] at h; cases h
  | some j =>
    rw [e] at h
    obtain ⟨h1, h2, h3, h4⟩ := ixN_seq e
    exact ⟨j, h1, h, h2, h3, h4⟩
theorem atI_nat {α : Type} {xs : List α} {j : Nat} {v : α} (h : xs[j]? = some v) : atI xs (j : Int) = some v := by
  have hj : j < xs.length := (List.getElem?_eq_some_iff.mp h).1
  have e : ixN xs.length (j : Int) = some j := by
    unfold ixN
    rw [if_pos (by omega), if_pos (by omega)]; simp
  unfold atI; rw [e]; exact h

/-! ### what may be subscripted -/
/-- what stands as an index of a plain subscript -/
def PlainIx (b : Expr) : Prop := ∀ o i, subscripted b false o i = operate [o, i] (getItem o i)
/-- a subscript by values -/
def IxR (X : Cx) (r : R2) : Prop :=
  ∀ (value slice : Expr) (pins : List (Addr × Obj)) (s : Shared) (σ : St) (H : Hp) (x y : V) (v u : Value) (Q : VK), Inv X pins σ H s → RelV x v → RelV y u → r x y H Q →
    subscripted slice false v u = operate [v, u] (getItem v u) → wpAny (model X.prog X.w) X.A (subscriptTail value slice v u) (EP X pins σ Q) X.xe s
/-- a call of a builtin's method by values: the receiver, the arguments -/
def MtR (X : Cx) (id : String) (r : V → List V → Hp → VK → Prop) : Prop :=
  ∀ (pins : List (Addr × Obj)) (s : Shared) (σ : St) (H : Hp) (x : V) (xs : List V) (v : Value) (us : List Value) (Q : VK), Inv X pins σ H s → RelV x v → Vals xs us → r x xs H Q →
    wpAny (model X.prog X.w) X.A (call (.builtin id) (v :: us)) (EP X pins σ Q) X.xe s
section
variable {X : Cx} {a b : Expr} {ta tb : TE} {pos : Pos}
theorem IxR.or {r r' : R2} (h : IxR X r) (h' : IxR X r') : IxR X (fun x y H Q => r x y H Q ∨ r' x y H Q) := by
  intro value slice pins s σ H x y v u Q I rx ry q hs
  rcases q with q | q
  · exact h value slice pins s σ H x y v u Q I rx ry q hs
  · exact h' value slice pins s σ H x y v u Q I rx ry q hs
/-- a[b] -/
theorem pe_ix {r : R2} (hr : IxR X r) (ha : PE X a ta) (hb : PE X b tb) (hs : PlainIx b) : PE X (.Subscript a b pos) (tOp r ta tb) := by
  intro pins s σ H Q I h
  exact Subscript_ (binT ha hb I h fun v u s2 x y H2 I2 rx ry q => hr a b pins s2 σ H2 x y v u Q I2 rx ry q (hs _ _))

def rIxL (K : PySem.W.Frag) : R2 := fun x y H Q => ∃ p xs i v, x = .ref p ∧ y = .int i ∧ SqL K H p xs ∧ atI xs i = some v ∧ Q v H
def rIxT (K : PySem.W.Frag) : R2 := fun x y H Q => ∃ p xs i v, x = .ref p ∧ y = .int i ∧ SqT K H p xs ∧ atI xs i = some v ∧ Q v H
def rIxS : R2 := fun x y H Q => ∃ z i c, x = .str z ∧ y = .int i ∧ z.length ≤ sizeLine ∧ atI z.cps.toList i = some c ∧ Q (.str ⟨#[c]⟩) H
theorem ix_list : IxR X (rIxL X.K) := by
  intro value slice pins s σ H x y v u Q I rx ry h hs
  obtain ⟨p, xs, i, z, rfl, rfl, hq, he, q⟩ := h
  cases rx
  obtain ⟨t, rfl⟩ := ry
  obtain ⟨its, r, pl, hz⟩ := I.list hq
  obtain ⟨j, h1, h2, h3, h4, h5⟩ := atI_get he
  obtain ⟨w, ew, rw'⟩ := r.get h2
  have hl := r.length
  have hn := line63
  have fin : EP X pins σ Q w s := ⟨z, H, I, rw', q⟩
  by_cases h0 : 0 ≤ i
  · have hj : i.toNat = j := by
      rw [seqIndex_of h0 h5] at h1
      exact Option.some.inj h1
    exact item_listR pl.isList h0 (by omega) (by rw [hj]; simpa using ew) fin hs
  · have hj : (i + (its.toArray.size : Int)).toNat = j := by
      rw [seqIndex_neg (by omega) h4] at h1
      rw [List.size_toArray, ← hl]
      exact Option.some.inj h1
    exact subscriptTail_builtinR (x := w) pl.isList.typeIs slot_list_getitem.lookup
      (wpAny_getItem_list_neg (Q := fun r s' => r = w ∧ EP X pins σ Q r s') pl.isList (by omega) (by rw [List.size_toArray] <;> omega) (by omega) (by rw [hj]; simpa using ew) ⟨rfl, fin⟩) hs
theorem ix_tup : IxR X (rIxT X.K) := by
  intro value slice pins s σ H x y v u Q I rx ry h hs
  obtain ⟨p, xs, i, z, rfl, rfl, hq, he, q⟩ := h
  cases rx
  obtain ⟨t, rfl⟩ := ry
  obtain ⟨its, r, pl, hz⟩ := I.tuple hq
  obtain ⟨j, h1, h2, h3, h4, h5⟩ := atI_get he
  obtain ⟨w, ew, rw'⟩ := r.get h2
  have hl := r.length
  have hn := line63
  have fin : EP X pins σ Q w s := ⟨z, H, I, rw', q⟩
  exact subscriptTail_builtinR (x := w) pl.typeIs slot_tuple_getitem.lookup
    (getItem_tuple (j := j) (Q := fun r s' => r = w ∧ EP X pins σ Q r s') pl (by omega) (by omega) (by rw [List.size_toArray, ← hl]; exact h1) (by simpa using ew) ⟨rfl, fin⟩) hs
theorem ix_str : IxR X rIxS := by
  intro value slice pins s σ H x y v u Q I rx ry h hs
  obtain ⟨z, i, c, rfl, rfl, hz, he, q⟩ := h
  obtain ⟨t, rfl⟩ := rx
  obtain ⟨t', rfl⟩ := ry
  obtain ⟨j, h1, h2, h3, h4, h5⟩ := atI_get he
  have hl : z.cps.toList.length = z.length := by simp [Str.length]
  rw [hl] at h1 h4 h5
  have hn := line63
  exact tail_any (typeIs_str s z t) slot_str_getitem.lookup (getItem_str (c := c) (by
    have e1 : decide (i < -(2 ^ 63 : Int)) = false := decide_eq_false (by omega)
    have e2 : decide (i ≥ 2 ^ 63) = false := decide_eq_false (by omega)
    rw [e1, e2, Bool.or_false]) (by rw [h1]; simpa using h2) ⟨.str ⟨#[c]⟩, H, I.tok _, ⟨_, rfl⟩, q⟩) hs
/-- list, tuple or str -/
def rIx (K : PySem.W.Frag) : R2 := fun x y H Q => rIxL K x y H Q ∨ rIxT K x y H Q ∨ rIxS x y H Q
theorem ix_seq : IxR X (rIx X.K) := ix_list.or (ix_tup.or ix_str)

/-! ### xs[i] = v, any sign -/
/-- the list's object behind a store -/
theorem mapSeq_set (its : List Value) (n j : Nat) (u : Value) : Obj.mapSeq (·.setIfInBounds j u) { cls := .type "list", data := .seq its.toArray n } = { cls := .type "list", data := .seq (its.set j u).toArray n } := by
  simp [Obj.mapSeq]
theorem Inv.lst {pins : List (Addr × Obj)} {σ : St} {H : Hp} {s : Shared} {p : Addr} {xs : List V} (I : Inv X pins σ H s) (h : H p = some (.lst xs)) :
    ∃ (its : List Value) (n : Nat), Vals xs its ∧ s.heap.get? p = some { cls := .type "list", data := .seq its.toArray n } ∧ xs.length ≤ sizeLine := by
  obtain ⟨z, its, n, r, e⟩ := I.hok p _ h
  exact ⟨its, n, r, e, z⟩
/-- the list at p is written by an update of its object -/
theorem Inv.lstUpd {pins : List (Addr × Obj)} {σ : St} {H : Hp} {s : Shared} {p : Addr} {xs ys : List V} {its its' : List Value} {n n' : Nat} {f : Obj → Obj} (I : Inv X pins σ H s) (h : H p = some (.lst xs))
    (ho : s.heap.get? p = some { cls := .type "list", data := .seq its.toArray n }) (hf : f { cls := .type "list", data := .seq its.toArray n } = { cls := .type "list", data := .seq its'.toArray n' }) (r : Vals ys its') (hz : ys.length ≤ sizeLine) (t : Nat) :
    Inv X pins σ (upd H p (.lst ys)) { s with heap := s.heap.update p f, toks := t } := by
  have e : (s.heap.update p f).get? p = some { cls := .type "list", data := .seq its'.toArray n' } := by
    rw [Heap.get?_update_self f ho (by rw [hf] <;> rfl), hf]
  refine I.write (x := p) (e := p) (by rw [h]; trivial) (.inl rfl) (fun b u hb q => (Heap.get?_update_other _ _ (Ne.symm hb)).trans q) ⟨_, e⟩ ?_
  exact ⟨hz, its', n', r, e⟩
def rSetL : V → V → V → Hp → (Hp → Prop) → Prop := fun o i v H Q => ∃ p xs k j, o = .ref p ∧ i = .int k ∧ H p = some (.lst xs) ∧ ixN xs.length k = some j ∧ Q (upd H p (.lst (xs.set j v)))
theorem set_list : PSet X rSetL := by
  intro pins s σ H o i v ov iv u Q I ro ri rv h
  obtain ⟨p, xs, k, j, rfl, rfl, hp, hj, q⟩ := h
  cases ro
  obtain ⟨t, rfl⟩ := ri
  obtain ⟨its, n, r, ho, hz⟩ := I.lst hp
  obtain ⟨h1, h2, h3, h4⟩ := ixN_seq hj
  have hl := r.length
  have hn := line63
  have I' : Inv X pins σ (upd H p (.lst (xs.set j v))) { s with heap := s.heap.update p (Obj.mapSeq (·.setIfInBounds j u)) } :=
    I.lstUpd hp ho (mapSeq_set its n j u) (r.set rv j) (by rw [List.length_set]; exact hz) s.toks
  by_cases h0 : 0 ≤ k
  · have hk : k.toNat = j := by
      rw [seqIndex_of h0 h4] at h1
      exact Option.some.inj h1
    exact PySem.W.ki_setAt ho h0 (by omega) (by rw [List.size_toArray, ← hl]; exact h4) (by rw [hk]; exact ⟨_, I', q⟩)
  · have hk : (k + (its.toArray.size : Int)).toNat = j := by
      rw [seqIndex_neg (by omega) h3] at h1
      rw [List.size_toArray, ← hl]
      exact Option.some.inj h1
    exact PySem.W.ki_setBack ho (by omega) (by rw [List.size_toArray, ← hl]; exact h3) (by omega) (by rw [hk]; exact ⟨_, I', q⟩)

/-! ### slices -/

/-! ### in, not in: flat items -/

/-! ### len, list(x), tuple(x) of any list or tuple that is read -/
theorem call_len_seq : CallR X (.builtin "len") (fun xs H Q => ∃ p ys, xs = [.ref p] ∧ (SqL X.K H p ys ∨ SqT X.K H p ys) ∧ Q (.int ys.length) H) := by
  intro pins s σ H xs us Q I r h
  obtain ⟨p, ys, rfl, hq, q⟩ := h
  obtain ⟨u, rfl, rx⟩ := vals1 r
  cases rx
  have hn := line63
  rcases hq with hq | hq
  · obtain ⟨its, r', pl, hz⟩ := I.list hq
    have hlen := r'.length
    exact Calls.call_len_list pl.isList (by simp only [List.size_toArray] <;> omega) ⟨.int ys.length, H, I.tok _, ⟨s.toks + 1, by rw [List.size_toArray, hlen]⟩, q⟩
  · obtain ⟨its, r', pl, hz⟩ := I.tuple hq
    have hlen := r'.length
    exact len_tuple pl (by simp only [List.size_toArray] <;> omega) ⟨.int ys.length, H, I.tok _, ⟨s.toks + 1, by rw [List.size_toArray, hlen]⟩, q⟩
theorem call_tuple_of : CallR X (.type "tuple") (fun xs H Q => ∃ p ys, xs = [.ref p] ∧ ((SqL X.K H p ys ∧ ∀ l, H l = none → Q (.ref l) (upd H l (.tup ys))) ∨ (SqT X.K H p ys ∧ Q (.ref p) H))) := by
  intro pins s σ H xs us Q I r h
  obtain ⟨p, ys, rfl, h⟩ := h
  obtain ⟨u, rfl, rx⟩ := vals1 r
  cases rx
  rcases h with ⟨hq, q⟩ | ⟨hq, q⟩
  · obtain ⟨its, r', pl, hz⟩ := I.list hq
    have hlen := r'.length
    refine call_tuple_list pl.isList (fun h' kp => ?_) (by simp only [List.size_toArray] <;> omega)
    have I1 : Inv X pins σ H { s with heap := h' } := I.kept (t' := s.toks) kp
    have I2 : Inv X pins σ (upd H h'.objs.size (.tup ys)) { s with heap := h'.push { cls := .type "tuple", data := .seq its.toArray } } :=
      I1.laid (t' := s.toks) (fun b o e => Heap.get?_push_of_some _ e) (Nat.le_refl _) (show ObjOk X.prog X.w _ _ _ (.tup ys) from ⟨⟨hz, NoD.of (Heap.get?_push_size _ rfl) rfl⟩, its, r', IsTup.new _ _⟩)
    exact ⟨.ref h'.objs.size, _, I2, rfl, q _ (I1.hok.fresh (Nat.le_refl _))⟩
  · obtain ⟨its, r', pl, hz⟩ := I.tuple hq
    exact call_tuple_same pl ⟨.ref p, H, I, rfl, q⟩

/-! ### the call of a builtin's method: o.m(..) -/
/-- the value is of that builtin type -/
def tyV (K : PySem.W.Frag) (T : String) (x : V) (H : Hp) : Prop := match x with
  | .str _ => T = "str"
  | .int _ => T = "int"
  | .ref p => (T = "list" ∧ ∃ xs, SqL K H p xs) ∨ (T = "tuple" ∧ ∃ o, K.lookup p = some o ∧ o.cls = .type "tuple" ∧ o.dict = none) ∨
      (T = "dict" ∧ ((∃ kvs, H p = some (.dK kvs)) ∨ ∃ kvs, H p = some (.dT kvs))) ∨ (T = "set" ∧ ∃ S n, H p = some (.set S n))
  | _ => False
theorem tyV_is {pins : List (Addr × Obj)} {σ : St} {H : Hp} {s : Shared} {T : String} {x : V} {v : Value} (I : Inv X pins σ H s) (r : RelV x v) (ty : tyV X.K T x H) :
    s.TypeIs v T ∧ ∀ a, v = .ref a → ∃ ob, s.heap.get? a = some ob ∧ ob.dict = none := by
  cases x with
  | str z =>
    obtain ⟨t, rfl⟩ := r
    cases (show T = "str" from ty)
    exact ⟨typeIs_str s z t, fun _ e => nomatch e⟩
  | int i =>
    obtain ⟨t, rfl⟩ := r
    cases (show T = "int" from ty)
    exact ⟨typeIs_int s i t, fun _ e => nomatch e⟩
  | ref p =>
    cases r
    rcases ty with ⟨rfl, xs, hq⟩ | ⟨rfl, o, hk, hc, hd⟩ | ⟨rfl, hk⟩ | ⟨rfl, S, n, hk⟩
    · obtain ⟨its, _, pl, _⟩ := I.list hq
      refine ⟨pl.isList.typeIs, fun a e => ?_⟩
      cases e
      obtain ⟨o, n, e, c, hd, _⟩ := pl
      exact ⟨o, e, hd⟩
    · refine ⟨⟨o, I.kIn p o hk, hc⟩, fun a e => ?_⟩
      cases e
      exact ⟨o, I.kIn _ o hk, hd⟩
    · have z : ∃ o, s.heap.get? p = some o ∧ o.ExactDict := by
        rcases hk with ⟨kvs, hk⟩ | ⟨kvs, hk⟩
        · obtain ⟨_, _, _, _, o, _, _, e, ex, _⟩ := I.hok p _ hk
          exact ⟨o, e, ex⟩
        · obtain ⟨_, _, _, _, o, _, _, e, ex, _⟩ := I.hok p _ hk
          exact ⟨o, e, ex⟩
      obtain ⟨o, e, ex⟩ := z
      refine ⟨⟨o, e, ex.1⟩, fun a e2 => ?_⟩
      cases e2
      exact ⟨o, e, ex.2.1⟩
    · obtain ⟨o, _, _, _, e, ex, _⟩ := I.hok p _ hk
      refine ⟨⟨o, e, ex.1⟩, fun a e2 => ?_⟩
      cases e2
      exact ⟨o, e, ex.2.1⟩
  | _ => exact False.elim ty
def tBM (K : PySem.W.Frag) (T : String) (r : V → List V → Hp → VK → Prop) (to : TE) (t : TA) : TE := fun σ H Q => to σ H fun x H1 => tyV K T x H1 ∧ t σ H1 fun xs H2 => r x xs H2 Q
variable {o e : Expr} {es : List Expr} {to : TE} {t : TA} {name : Str} {apos cpos : Pos} {T id : String} {r : V → List V → Hp → VK → Prop}
theorem pe_bm (pa : PlainAttrs T) (slot : Slot T name id) (hty : typeOf (.builtin id) = pure (.type "method_descriptor")) (hm : MtR X id r) (ho : PE X o to) (ha : PA X (e :: es) t)
    (hbase : attributeBase o name X.env (eval o X.env) = eval o X.env := by rfl)
    (hfew : ((backTo cpos (starEach (e :: es) X.env)).all (fun x => !x.1) && (backToKw cpos (keywordEach [] X.env)).all (fun x => x.1.isSome)
      && decide ((e :: es).length + ([] : List Keyword).length + (if ([] : List Keyword).isEmpty then 0 else 1) < 30)) = true := by rfl)
    (hline : (apos.endLine == cpos.line) = true := by rfl) (hs : starEach (e :: es) X.env = (false, eval e X.env) :: starEach es X.env := by rfl) (hplain : (backTo cpos (starEach es X.env)).any (·.1) = false := by rfl) :
    PE X (.Call (.Attribute o name apos) (e :: es) [] cpos) (tBM X.K T r to t) := by
  intro pins s σ H Q I h
  refine wpAny_Call_method_late hbase hfew hline rfl (thn (ho pins s σ H _ I h) fun v s1 ⟨x, H1, I1, r1, ty, q1⟩ => ?_)
  obtain ⟨h1, h2⟩ := tyV_is I1 r1 ty
  refine ⟨T, id, pa, slot, hty, h1, h2, ?_⟩
  have hA := ha cpos pins s1 σ H1 _ I1 q1
  rw [hs] at hA ⊢
  refine Calls.callWith_builtin (by show (false || (backTo cpos (starEach es X.env)).any (·.1)) = false; rw [hplain] <;> rfl) (Calls.evalArgs_plain ?_)
  exact thn hA fun us s2 ⟨vs, H2, I2, r2, q2⟩ => hm pins s2 σ H2 x vs v us Q I2 r1 r2 q2
/- xs.append(e), list.index on a module's tuple .. are MtR facts of 06m -/
end
end L2

namespace L2
open PySem PySem.Spec PyProof.Rows

def MtM (X : Cx) (id : String) (r : V → List V → Hp → VK → Prop) : Prop :=
  ∀ (pins : List (Addr × Obj)) (s : Shared) (σ : St) (H : Hp) (x : V) (xs : List V) (v : Value) (us : List Value) (Q : VK), Inv X pins σ H s → RelV x v → Vals xs us → r x xs H Q →
    wpAny (model X.prog X.w) X.A (call (.builtin id) (v :: us)) (EP X pins σ Q) X.xe s

/-! ### lists of values -/
theorem Vals.one : ∀ {x : V} {us : List Value}, Vals [x] us → ∃ u, us = [u] ∧ RelV x u
  | _, _, .cons r .nil => ⟨_, rfl, r⟩

section
variable {X : Cx} {pins : List (Addr × Obj)} {σ : St} {H : Hp} {s : Shared} {l b : Addr} {xs ys zs : List V}

/-! ### the two steps: a tracked list is rewritten, a new list is laid -/
theorem Inv.lset {its its' : List Value} {n : Nat} {f : Array Value → Array Value} {t' : Nat} (I : Inv X pins σ H s) (hH : H l = some (.lst xs))
    (e : s.heap.get? l = some { cls := .type "list", data := .seq its.toArray n }) (hf : f its.toArray = its'.toArray) (hv : Vals ys its') (hz : ys.length ≤ sizeLine) :
    Inv X pins σ (upd H l (.lst ys)) { s with heap := s.heap.update l (Obj.mapSeq f), toks := t' } := by
  have q := PySem.IsL.update e f
  rw [hf] at q
  refine I.write (x := l) (e := l) (by rw [hH]; exact trivial) (.inl rfl) (fun b' u hb hu => (Heap.get?_update_other s.heap (Obj.mapSeq f) (Ne.symm hb)).trans hu) ⟨_, q⟩ ?_
  exact ⟨hz, its', _, hv, q⟩
theorem Inv.lnew {its : List Value} {t' : Nat} (I : Inv X pins σ H s) (hv : Vals ys its) (hz : ys.length ≤ sizeLine) :
    Inv X pins σ (upd H s.heap.objs.size (.lst ys)) { s with heap := s.heap.push { cls := .type "list", data := .seq its.toArray }, toks := t' } :=
  I.laid (fun _ _ q => Heap.get?_push_of_some _ q) (Nat.le_refl _) ⟨hz, its, 0, hv, Heap.get?_push_size _ rfl⟩
theorem Inv.fresh (I : Inv X pins σ H s) : H s.heap.objs.size = none := I.hok.fresh (Nat.le_refl _)
theorem Inv.lstM (I : Inv X pins σ H s) (hH : H l = some (.lst xs)) : xs.length ≤ sizeLine ∧ ∃ (its : List Value) (n : Nat), Vals xs its ∧ xs.length = its.length ∧ s.heap.get? l = some { cls := .type "list", data := .seq its.toArray n } := by
  obtain ⟨z, its, n, r, e⟩ := I.hok l _ hH
  exact ⟨z, its, n, r, r.length, e⟩

theorem notLongL {n : Nat} (h : n ≤ sizeLine) : Builtin.List.listTooLong n = false := by
  unfold Builtin.List.listTooLong
  exact decide_eq_false (by omega)
end

section
variable {X : Cx}

/-! ### methods -/
def rAppend : V → List V → Hp → VK → Prop := fun x vs H Q => ∃ l xs y, x = .ref l ∧ vs = [y] ∧ H l = some (.lst xs) ∧ xs.length < sizeLine ∧ Q .non (upd H l (.lst (xs ++ [y])))
theorem mt_append : MtM X "list.append" rAppend := by
  intro pins s σ H x vs v us Q I rx rv h
  obtain ⟨l, xs, y, rfl, rfl, hH, hz, q⟩ := h
  cases rx
  obtain ⟨u, rfl, ru⟩ := rv.one
  obtain ⟨z, its, n, r, hl, e⟩ := I.lstM hH
  refine call_meets F.slot_list_append ⟨_, e, rfl⟩ F.entry_list_append (F.args_list_append_2 _ _) (PySem.list_append l its.toArray n u (by rw [List.size_toArray]; omega)) ⟨e, ?_⟩
  refine ⟨.non, _, I.lset (its' := its ++ [u]) hH e (by simp) (r.append (.cons ru .nil)) ?_, rfl, q⟩
  rw [List.length_append, List.length_singleton]
  omega

def rExtend : V → List V → Hp → VK → Prop := fun x vs H Q => ∃ l b xs zs, x = .ref l ∧ vs = [.ref b] ∧ H l = some (.lst xs) ∧ H b = some (.lst zs) ∧ xs.length + zs.length ≤ sizeLine ∧ Q .non (upd H l (.lst (xs ++ zs)))
theorem mt_extend : MtM X "list.extend" rExtend := by
  intro pins s σ H x vs v us Q I rx rv h
  obtain ⟨l, b, xs, zs, rfl, rfl, hH, hB, hz, q⟩ := h
  cases rx
  obtain ⟨u, rfl, ru⟩ := rv.one
  cases ru
  obtain ⟨z, its, n, r, hl, e⟩ := I.lstM hH
  obtain ⟨z2, its2, n2, r2, hl2, e2⟩ := I.lstM hB
  have hsz : its.toArray.size + its2.toArray.size ≤ sizeLine := by rw [List.size_toArray, List.size_toArray]; omega
  have hlong : ¬ (!its.toArray.isEmpty && Builtin.List.listTooLong (its.toArray.size + its2.toArray.size)) = true := by
    rw [notLongL hsz, Bool.and_false]
    exact Bool.false_ne_true
  refine call_meets F.slot_list_extend ⟨_, e, rfl⟩ F.entry_list_extend (F.args_list_extend_2 _ _)
    (AutoSeq1.list_extend_list_list_0 l its.toArray n b its2.toArray n2 hlong (by rw [List.size_toArray]; omega) (by omega)) ⟨e, e2, ?_⟩
  refine ⟨.non, _, I.lset (its' := its ++ its2) hH e (by simp) (r.append r2) ?_, rfl, q⟩
  rw [List.length_append]
  omega





/-! ### list + list, list += list, list * int -/

/-! ### del xs[i] -/
end

/-! ### xs[a:b] = ys -/
section
variable {prog : Program} {w : World} {A : Around} {E : Value → Shared → Prop} {s : Shared}
set_option maxRecDepth 100000 in
end

section
variable {X : Cx}
end
end L2

namespace L2
open PySem PySem.Spec PyProof.Rows

theorem Vals.ref1 {a : Addr} {us : List Value} (r : Vals [V.ref a] us) : us = [Value.ref a] := by
  cases r with
  | cons r t =>
    cases t
    cases r
    rfl

/-! ### the library's walks over a list of ints, kept objects alone -/
section
variable {prog : Program} {w : World} {A : Around} {E : Value → Shared → Prop} {s : Shared} {l : Addr} {its : List Value} {ns : List Int} {Q : Value → Shared → Prop}
end

/-! ### the calls, by values (CallR of 03t; MtR of 06l) -/
section
variable {X : Cx}

/-! sorted, sort (fewer than 64 items: the library's own bound) -/
end

/-! ### list.index, flat items -/
section
variable {X : Cx}
end

/-! ### type(x) of an own instance; is, is not of a module's class -/
section
variable {X : Cx}
end

/-! ### any(xs), all(xs) of a list of bools -/
section
variable {X : Cx}
end

/-! ### == and != of data at any depth: none, bools, ints, texts, lists, tuples -/
mutual
inductive Dp (K : PySem.W.Frag) (H : Hp) : V → PyData → Prop
  | non : Dp K H .non .none
  | bl (b : Bool) : Dp K H (.bl b) (.bool b)
  | int (i : Int) : Dp K H (.int i) (.int i)
  | str (x : Str) : Dp K H (.str x) (.str x)
  | lst {a : Addr} {xs : List V} {ds : List PyData} : SqL K H a xs → DpAll K H xs ds → Dp K H (.ref a) (.list ds)
  | tup {a : Addr} {xs : List V} {ds : List PyData} : SqT K H a xs → DpAll K H xs ds → Dp K H (.ref a) (.tuple ds)
inductive DpAll (K : PySem.W.Frag) (H : Hp) : List V → List PyData → Prop
  | nil : DpAll K H [] []
  | cons {v : V} {vs : List V} {d : PyData} {ds : List PyData} : Dp K H v d → DpAll K H vs ds → DpAll K H (v :: vs) (d :: ds)
end
section
variable {X : Cx} {pins : List (Addr × Obj)} {σ : St} {H : Hp} {s : Shared}
mutual
theorem Dp.reads (I : Inv X pins σ H s) : ∀ (d : PyData) (v : V) (u : Value), Dp X.K H v d → RelV v u → ∃ as, Reads s.heap u d as
  | .none, _, _, h, r => by
    cases h
    cases r
    exact ⟨_, Reads.none⟩
  | .bool b, _, _, h, r => by
    cases h
    cases r
    exact ⟨_, Reads.bool b⟩
  | .int i, _, _, h, r => by
    cases h
    obtain ⟨t, rfl⟩ := r
    exact ⟨_, Reads.int i t⟩
  | .str x, _, _, h, r => by
    cases h
    obtain ⟨t, rfl⟩ := r
    exact ⟨_, Reads.str x t⟩
  | .list ds, _, _, h, r => by
    cases h with
    | lst hs ha =>
      cases r
      obtain ⟨its, rv, ⟨o, n, ho, hc, _, hd⟩, _⟩ := I.list hs
      obtain ⟨as, hr⟩ := Dp.readsAll I ds _ its ha rv
      exact ⟨_, Reads.list ho hc hd hr⟩
  | .tuple ds, _, _, h, r => by
    cases h with
    | tup hs ha =>
      cases r
      obtain ⟨its, rv, ⟨o, ho, hc, n, hd⟩, _⟩ := I.tuple hs
      obtain ⟨as, hr⟩ := Dp.readsAll I ds _ its ha rv
      exact ⟨_, Reads.tuple ho hc hd hr⟩
  | .dict _, _, _, h, _ => by cases h
theorem Dp.readsAll (I : Inv X pins σ H s) : ∀ (ds : List PyData) (vs : List V) (us : List Value), DpAll X.K H vs ds → Vals vs us → ∃ as, ReadsAll s.heap us ds as
  | [], _, _, h, r => by
    cases h
    cases r
    exact ⟨_, ReadsAll.nil⟩
  | d :: ds, _, _, h, r => by
    cases h with
    | cons h1 h2 =>
      cases r with
      | cons r1 r2 =>
        obtain ⟨as, q1⟩ := Dp.reads I d _ _ h1 r1
        obtain ⟨bs, q2⟩ := Dp.readsAll I ds _ _ h2 r2
        exact ⟨_, ReadsAll.cons q1 q2⟩
end
end
section
variable {X : Cx}
def rEqD (K : PySem.W.Frag) : R2 := fun x y H Q => ∃ d e, Dp K H x d ∧ Dp K H y e ∧ SeqAt.shaped d = true ∧ SeqAt.shaped e = true ∧ Q (.bl (PyData.eqv d e)) H
def rNeD (K : PySem.W.Frag) : R2 := fun x y H Q => ∃ d e, Dp K H x d ∧ Dp K H y e ∧ SeqAt.shaped d = true ∧ SeqAt.shaped e = true ∧ Q (.bl (!PyData.eqv d e)) H
theorem op_eqD (hu : X.A.units + 64 < cLine) : OpR X (compareOp .Eq) (rEqD X.K) := by
  intro pins s σ H x y v u Q I rx ry h
  obtain ⟨d, e, hd, he, sd, se, q⟩ := h
  obtain ⟨as, r1⟩ := Dp.reads I d x v hd rx
  obtain ⟨bs, r2⟩ := Dp.reads I e y u he ry
  exact SeqAt.compareEq_shaped r1 r2 sd se hu ⟨.bl _, H, I, rfl, q⟩
theorem op_neD (hu : X.A.units + 64 < cLine) : OpR X (compareOp .NotEq) (rNeD X.K) := by
  intro pins s σ H x y v u Q I rx ry h
  obtain ⟨d, e, hd, he, sd, se, q⟩ := h
  obtain ⟨as, r1⟩ := Dp.reads I d x v hd rx
  obtain ⟨bs, r2⟩ := Dp.reads I e y u he ry
  exact SeqAt.compareNe_shaped r1 r2 sd se hu ⟨.bl _, H, I, rfl, q⟩
end
end L2

namespace L2
open PySem PySem.Spec PyProof.Rows
abbrev CellAt (h : Heap) (c : Addr) (v : Option Value) : Prop := h.IsCell c v
def relS (scope sc : Scope) : Scope :=
  { scope with names := scope.names.map fun (n, k) => if (k == .free && sc.kind == .function && sc.names.lookup n == some .cell) then (n, .cell) else (n, k) }

def cloFrom (cells : List (Str × Addr)) : List (Str × NameKind) → List (Str × Addr) → List (Str × Addr)
  | [], acc => acc
  | (n, k) :: r, acc => if k == .free then cloFrom cells r ((n, (cells.lookup n).getD 0) :: acc) else cloFrom cells r acc

theorem closure_loop (env : Env) (f : Str × NameKind → List (Str × Addr) → Sem (ForInStep (List (Str × Addr))))
    (hf : ∀ n k c, f (n, k) c = if k == .free then (do let a ← cellOf env n; pure (.yield ((n, a) :: c))) else pure (.yield c)) :
    ∀ (names : List (Str × NameKind)) (acc : List (Str × Addr)), (∀ y ∈ names, y.2 = .free → ∃ c, env.cells.lookup y.1 = some c) → forIn names acc f = pure (cloFrom env.cells names acc)
  | [], acc, _ => by rw [List.forIn_nil]; rfl
  | (n, k) :: r, acc, h => by
    rw [List.forIn_cons, hf]
    have ih := fun acc => closure_loop env f hf r acc fun y hy => h y (List.mem_cons_of_mem _ hy)
    unfold cloFrom
    by_cases hk : (k == NameKind.free) = true
    · rw [if_pos hk, if_pos hk]
      obtain ⟨c, hc⟩ := h (n, k) List.mem_cons_self (by simpa using hk)
      have e : cellOf env n = pure c := by unfold cellOf; rw [hc]
      rw [e]
      have e2 : (env.cells.lookup n).getD 0 = c := by rw [hc]; rfl
      rw [e2]
      exact ih _
    · rw [if_neg hk, if_neg hk]
      exact ih _
theorem closure_ok {scope : Scope} {env : Env} (h : ∀ y ∈ scope.names, y.2 = .free → ∃ c, env.cells.lookup y.1 = some c) : closureFor scope env = pure (cloFrom env.cells scope.names []) := by
  simp only [closureFor]
  rw [closure_loop env _ (fun n k c => rfl) scope.names [] h]
  rfl

theorem mem_lookup {α : Type} : ∀ {l : List (Str × α)} {n : Str} {c : α}, (n, c) ∈ l → ∃ c', l.lookup n = some c'
  | (k, v) :: r, n, c, h => by
    rw [List.lookup_cons]
    cases hb : n == k with
    | true => exact ⟨_, rfl⟩
    | false =>
      rcases List.mem_cons.mp h with e | h
      · cases e; simp at hb
      · exact mem_lookup h

theorem cloFrom_mem {cells : List (Str × Addr)} : ∀ {names : List (Str × NameKind)} {acc : List (Str × Addr)} {n : Str} {c : Addr}, (n, c) ∈ cloFrom cells names acc → (n, c) ∈ acc ∨ ((n, .free) ∈ names ∧ c = (cells.lookup n).getD 0)
  | [], _, _, _, h => .inl h
  | (m, k) :: r, acc, n, c, h => by
    unfold cloFrom at h
    split at h
    · rename_i hk
      have hk : k = .free := by simpa using hk
      rcases cloFrom_mem h with h | ⟨h1, h2⟩
      · rcases List.mem_cons.mp h with e | h
        · cases e; exact .inr ⟨hk ▸ List.mem_cons_self, rfl⟩
        · exact .inl h
      · exact .inr ⟨List.mem_cons_of_mem _ h1, h2⟩
    · rcases cloFrom_mem h with h | ⟨h1, h2⟩
      · exact .inl h
      · exact .inr ⟨List.mem_cons_of_mem _ h1, h2⟩
theorem cloFrom_acc {cells : List (Str × Addr)} : ∀ {names : List (Str × NameKind)} {acc : List (Str × Addr)} {p : Str × Addr}, p ∈ acc → p ∈ cloFrom cells names acc
  | [], _, _, h => h
  | (m, k) :: r, acc, p, h => by
    unfold cloFrom
    split
    · exact cloFrom_acc (List.mem_cons_of_mem _ h)
    · exact cloFrom_acc h
theorem cloFrom_has {cells : List (Str × Addr)} : ∀ {names : List (Str × NameKind)} {acc : List (Str × Addr)} {n : Str}, (n, .free) ∈ names → (n, (cells.lookup n).getD 0) ∈ cloFrom cells names acc
  | (m, k) :: r, acc, n, h => by
    unfold cloFrom
    rcases List.mem_cons.mp h with e | h
    · cases e
      exact cloFrom_acc List.mem_cons_self
    · split
      · exact cloFrom_has h
      · exact cloFrom_has h

theorem cells_mem : ∀ {names : List (Str × NameKind)} {h : Heap} {acc : List (Str × Addr)} {x : Str} {c : Addr}, (x, c) ∈ cellsFrom h.objs.size names acc →
    (x, c) ∈ acc ∨ ((x, .cell) ∈ names ∧ h.objs.size ≤ c ∧ CellAt (pushCells h names) c none)
  | [], _, _, _, _, h => .inl h
  | (n, k) :: r, h, acc, x, c, hm => by
    unfold cellsFrom at hm
    unfold pushCells
    split at hm
    · rename_i hk
      rw [if_pos hk]
      have hk : k = .cell := by simpa using hk
      rw [← Heap.size_push h { cls := .type "cell", data := .cell none }] at hm
      rcases cells_mem hm with hm | ⟨h1, h2, h3⟩
      · rcases List.mem_cons.mp hm with e | hm
        · cases e
          exact .inr ⟨hk ▸ List.mem_cons_self, Nat.le_refl _, _, pushCells_keeps r _ _ _ (Heap.get?_push_size _ rfl), rfl⟩
        · exact .inl hm
      · rw [Heap.size_push] at h2
        exact .inr ⟨List.mem_cons_of_mem _ h1, Nat.le_of_succ_le h2, h3⟩
    · rename_i hk
      rw [if_neg hk]
      rcases cells_mem hm with hm | ⟨h1, h2, h3⟩
      · exact .inl hm
      · exact .inr ⟨List.mem_cons_of_mem _ h1, h2, h3⟩
theorem cells_acc : ∀ {names : List (Str × NameKind)} {n : Nat} {acc : List (Str × Addr)} {p : Str × Addr}, p ∈ acc → p ∈ cellsFrom n names acc
  | [], _, _, _, h => h
  | (m, k) :: r, n, acc, p, h => by
    unfold cellsFrom
    split
    · exact cells_acc (List.mem_cons_of_mem _ h)
    · exact cells_acc h
theorem cells_has : ∀ {names : List (Str × NameKind)} {n : Nat} {acc : List (Str × Addr)} {x : Str}, (x, .cell) ∈ names → ∃ c, (x, c) ∈ cellsFrom n names acc
  | (m, k) :: r, n, acc, x, h => by
    unfold cellsFrom
    rcases List.mem_cons.mp h with e | h
    · cases e
      exact ⟨n, cells_acc List.mem_cons_self⟩
    · split
      · exact cells_has h
      · exact cells_has h
theorem cells_inj : ∀ {names : List (Str × NameKind)} {h : Heap} {acc : List (Str × Addr)} {x y : Str} {c : Addr}, (∀ p ∈ acc, p.2 < h.objs.size) → (∀ x y c, (x, c) ∈ acc → (y, c) ∈ acc → x = y) →
    (x, c) ∈ cellsFrom h.objs.size names acc → (y, c) ∈ cellsFrom h.objs.size names acc → x = y
  | [], _, _, _, _, _, _, hi, h1, h2 => hi _ _ _ h1 h2
  | (n, k) :: r, h, acc, x, y, c, hl, hi, h1, h2 => by
    unfold cellsFrom at h1 h2
    split at h1
    · rename_i hk
      rw [if_pos hk] at h2
      rw [← Heap.size_push h { cls := .type "cell", data := .cell none }] at h1 h2
      refine cells_inj (h := h.push _) (fun p hp => ?_) (fun x y c a b => ?_) h1 h2
      · rw [Heap.size_push]
        rcases List.mem_cons.mp hp with rfl | hp
        · exact Nat.lt_succ_self _
        · exact Nat.lt_succ_of_lt (hl p hp)
      · rcases List.mem_cons.mp a with e | a <;> rcases List.mem_cons.mp b with e' | b
        · cases e; cases e'; rfl
        · cases e; exact absurd (hl _ b) (Nat.lt_irrefl _)
        · cases e'; exact absurd (hl _ a) (Nat.lt_irrefl _)
        · exact hi _ _ _ a b
    · rename_i hk
      rw [if_neg hk] at h2
      exact cells_inj hl hi h1 h2

theorem newEnv_comp {M : Model} {A : Around} {E : Value → Shared → Prop} {s : Shared} {scope : Scope} {globals : Addr} {closure : List (Str × Addr)} {qual : Str} {func : Option Addr} {code : Value} {around : Env} {builtins : Addr} {Q : Env → Shared → Prop}
    (h : Q (newEnv scope s.heap.objs.size globals (cellsFrom (s.heap.objs.size + 1) scope.names closure) qual func code (some around) builtins)
      { s with heap := pushCells (s.heap.push { cls := .type "dict", data := .dict #[] }) scope.names }) :
    wpAny M A (newFunctionEnv scope globals closure [] qual func code (some around) builtins) Q E s := by
  simp only [newFunctionEnv, Option.isSome_some, if_true]
  refine wpAny_bind (wpAny_alloc ?_)
  refine wpAny_bind (wpAny_layCells _ (fun n k c => rfl) scope.names closure _ _ ?_)
  rw [show ({ s with heap := s.heap.push { cls := .type "dict", data := .dict #[] } } : Shared).heap.objs.size = s.heap.objs.size + 1 from Heap.size_push ..]
  rw [List.forIn_nil]
  exact wpAny_bind (wpAny_pure (wpAny_pure h))

/-- every name of the written scope, in the scope that runs -/
theorem lookup_relS {sc : Scope} : ∀ {names : List (Str × NameKind)} {x : Str} {k : NameKind},
    (names.map fun (n, k) => if (k == NameKind.free && sc.kind == .function && sc.names.lookup n == some .cell) then (n, NameKind.cell) else (n, k)).lookup x = some k →
    ∃ k', names.lookup x = some k' ∧ (k = k' ∨ (k' = .free ∧ k = .cell))
  | [], _, _, h => by simp at h
  | (n, k₀) :: r, x, k, h => by
    have ih := @lookup_relS sc r x k
    have h' : List.lookup x ((if (k₀ == NameKind.free && sc.kind == .function && sc.names.lookup n == some .cell) = true then (n, NameKind.cell) else (n, k₀)) :: (r.map _)) = some k := h
    cases hx : x == n with
    | true =>
      simp only [List.lookup_cons, hx]
      by_cases hc : (k₀ == NameKind.free && sc.kind == .function && sc.names.lookup n == some .cell) = true
      · rw [if_pos hc] at h'
        simp only [List.lookup_cons, hx] at h'
        cases h'
        simp only [Bool.and_eq_true, beq_iff_eq] at hc
        exact ⟨k₀, rfl, .inr ⟨hc.1.1, rfl⟩⟩
      · rw [if_neg hc] at h'
        simp only [List.lookup_cons, hx] at h'
        cases h'
        exact ⟨_, rfl, .inl rfl⟩
    | false =>
      simp only [List.lookup_cons, hx]
      by_cases hc : (k₀ == NameKind.free && sc.kind == .function && sc.names.lookup n == some .cell) = true
      · rw [if_pos hc] at h'
        simp only [List.lookup_cons, hx] at h'
        exact ih h'
      · rw [if_neg hc] at h'
        simp only [List.lookup_cons, hx] at h'
        exact ih h'



/-- the names of a comprehension's block: its own (with their places in N), or captured -/
structure BlkOk (N : List Str) (sc scope : Scope) (own : List (Str × Nat)) : Prop where
  kind : scope.kind = .function
  uniq : ∀ y ∈ scope.names, scope.names.lookup y.1 = some y.2
  ix : ∀ p ∈ own, N[p.2]? = some p.1
  free : ∀ y ∈ scope.names, y.2 = .free → sc.names.lookup y.1 = some .cell ∨ sc.names.lookup y.1 = some .free
  own : ∀ y ∈ scope.names, y.2 = .local ∨ y.2 = .cell → y.1 ∈ own.map (·.1) ∨ y.1 ∉ N
/-- the slots of the block's own names forgotten -/
def wipe (σ : St) : List Nat → St
  | [] => σ
  | v :: vs => (wipe σ vs).set v none
theorem wipe_length (σ : St) : ∀ vs : List Nat, (wipe σ vs).length = σ.length
  | [] => rfl
  | v :: vs => by unfold wipe; rw [List.length_set, wipe_length σ vs]
theorem wipe_some {σ : St} {i : Nat} {x : V} : ∀ {vs : List Nat}, (wipe σ vs)[i]? = some (some x) → σ[i]? = some (some x) ∧ i ∉ vs
  | [], h => ⟨h, by simp⟩
  | v :: vs, h => by
    unfold wipe at h
    by_cases hi : v = i
    · subst hi
      by_cases hv : v < (wipe σ vs).length
      · rw [List.getElem?_set_self hv] at h; cases h
      · rw [List.getElem?_eq_none (by simpa using hv)] at h; cases h
    · rw [List.getElem?_set_ne hi] at h
      obtain ⟨h1, h2⟩ := wipe_some h
      exact ⟨h1, by simp only [List.mem_cons, not_or]; exact ⟨fun e => hi e.symm, h2⟩⟩

/-- the context of a block that starts at s, its iterator's objects at fp -/
abbrev Cx.blk (X : Cx) (s : Shared) (H : Hp) (scope : Scope) (cenv : Env) (fp : List Addr) : Cx := { X with s_0 := s, H_0 := H, env := cenv, outer := X.stack, ex := fp, fn := fun x => scope.names.lookup x == some .cell, pn := [], xe := fun _ _ => False }
section
variable {X : Cx} {pins : List (Addr × Obj)} {σ : St} {H : Hp} {s : Shared}
theorem block_start {scope : Scope} {own : List (Str × Nat)} {fp : List Addr} (I : Inv X pins σ H s) (ok : BlkOk X.N X.env.scope scope own) (hN : X.N.Nodup) (hfp : ∀ b ∈ fp, FpOk X pins H b ∧ b < s.heap.objs.size) :
    Inv (X.blk s H scope (compEnvC scope (cellsFrom (s.heap.objs.size + 1) scope.names (cloFrom X.env.cells scope.names [])) s.heap.objs.size X.env) fp) [] (wipe σ (own.map (·.2))) H { s with heap := pushCells (s.heap.push { cls := .type "dict", data := .dict #[] }) scope.names } := by
  have hfree : ∀ y ∈ scope.names, y.2 = .free → ∃ c, X.env.cells.lookup y.1 = some c := fun y hy e => by
    rcases ok.free y hy e with k | k
    · exact I.ok.has _ (.inl k)
    · exact I.ok.has _ (.inr k)
  generalize hcenv : compEnvC scope (cellsFrom (s.heap.objs.size + 1) scope.names (cloFrom X.env.cells scope.names [])) s.heap.objs.size X.env = cenv
  have kp : ∀ b o, s.heap.get? b = some o → (pushCells (s.heap.push { cls := .type "dict", data := .dict #[] }) scope.names).get? b = some o := fun b o e => pushCells_keeps _ _ _ _ (Heap.get?_push_of_some _ e)
  have hL : cenv.locals = s.heap.objs.size := by rw [← hcenv]; rfl
  have hcl : cenv.cells = cellsFrom (s.heap.objs.size + 1) scope.names (cloFrom X.env.cells scope.names []) := by rw [← hcenv]; rfl
  have hsc : cenv.scope = relS scope X.env.scope := by rw [← hcenv]; rfl
  rw [← Heap.size_push s.heap { cls := .type "dict", data := .dict #[] }] at hcl
  have cm : ∀ {y c}, (y, c) ∈ cloFrom X.env.cells scope.names [] → X.env.cells.lookup y = some c ∧ c < s.heap.objs.size := fun {y c} hm => by
    rcases cloFrom_mem hm with hm | ⟨h1, rfl⟩
    · cases hm
    · obtain ⟨c, hc⟩ := hfree _ h1 rfl
      rw [hc]
      obtain ⟨w, z⟩ := I.cell _ _ hc
      exact ⟨rfl, z.lt⟩
  have mem : ∀ {y c}, cenv.cells.lookup y = some c → (X.env.cells.lookup y = some c ∧ c < s.heap.objs.size) ∨ (s.heap.objs.size + 1 ≤ c ∧ CellAt (pushCells (s.heap.push { cls := .type "dict", data := .dict #[] }) scope.names) c none) := fun {y c} e => by
    rw [hcl] at e
    rcases cells_mem (PySem.mem_of_lookup e) with hm | ⟨_, h2, h3⟩
    · exact .inl (cm hm)
    · rw [Heap.size_push] at h2; exact .inr ⟨h2, h3⟩
  have look : ∀ {y}, scope.names.lookup y = some .free → ∃ c, cenv.cells.lookup y = some c ∧ X.env.cells.lookup y = some c := fun {y} hl => by
    have hy : (y, NameKind.free) ∈ scope.names := PySem.mem_of_lookup hl
    obtain ⟨c', e'⟩ := mem_lookup (cells_acc (names := scope.names) (n := (s.heap.push { cls := .type "dict", data := .dict #[] }).objs.size) (cloFrom_has (cells := X.env.cells) (acc := []) hy))
    rw [← hcl] at e'
    refine ⟨c', e', ?_⟩
    rw [hcl] at e'
    rcases cells_mem (PySem.mem_of_lookup e') with hm | ⟨h1, _, _⟩
    · exact (cm hm).1
    · have := ok.uniq _ h1
      rw [hl] at this; cases this
  have okB : (X.blk s H scope cenv fp).Ok := by
    refine ⟨I.ok.mod, by show cenv.scope.kind = _; rw [hsc]; exact ok.kind, by show cenv.globals = _; rw [← hcenv]; exact I.ok.glob, by show cenv.builtins = _; rw [← hcenv]; exact I.ok.blt, by show s.heap.objs.size ≤ cenv.locals; rw [hL]; exact Nat.le_refl _,
      fun y z c e1 e2 => ?_, fun y hy => ?_, fun y c z e => ?_, I.ok.hd, I.ok.frames, .inl rfl, fun b hb => ⟨?_, fun y c e z => ?_⟩, I.bs, Nat.le_trans I.ok.bsz I.sz, fun b o e hb => ?_, fun b hb z => ?_, I.stack, I.stkFree⟩
    · have e1 : cenv.cells.lookup y = some c := e1
      have e2 : cenv.cells.lookup z = some c := e2
      rw [hcl] at e1 e2
      refine cells_inj (fun p hp => ?_) (fun y z c a b => I.ok.inj y z c (cm a).1 (cm b).1) (PySem.mem_of_lookup e1) (PySem.mem_of_lookup e2)
      rw [Heap.size_push]
      exact Nat.lt_succ_of_lt (cm (y := p.1) (c := p.2) hp).2
    · show ∃ c, cenv.cells.lookup y = some c
      have key : ∀ k, cenv.kindOf y = some k → (k = .cell ∨ k = .free) → ∃ c, cenv.cells.lookup y = some c := fun k hk hk' => by
        unfold Env.kindOf at hk
        rw [hsc] at hk
        obtain ⟨k', e, r⟩ := lookup_relS hk
        have : k' = .cell ∨ k' = .free := by
          rcases r with rfl | ⟨rfl, _⟩
          · exact hk'
          · exact .inr rfl
        rcases this with rfl | rfl
        · obtain ⟨c, hm⟩ := cells_has (n := (s.heap.push { cls := .type "dict", data := .dict #[] }).objs.size) (acc := cloFrom X.env.cells scope.names []) (PySem.mem_of_lookup e)
          obtain ⟨c', e'⟩ := mem_lookup hm
          exact ⟨c', by rw [hcl]; exact e'⟩
        · obtain ⟨c, h1, _⟩ := look e
          exact ⟨c, h1⟩
      rcases hy with hy | hy
      · exact key _ hy (.inl rfl)
      · exact key _ hy (.inr rfl)
    · have z : (scope.names.lookup y == some NameKind.cell) = true := z
      have z : scope.names.lookup y = some .cell := by simpa using z
      have e : cenv.cells.lookup y = some c := e
      rw [hcl] at e
      rcases cells_mem (PySem.mem_of_lookup e) with hm | ⟨_, h2, _⟩
      · rcases cloFrom_mem hm with hm | ⟨h1, _⟩
        · cases hm
        · have q := ok.uniq _ h1
          rw [z] at q; cases q
      · rw [Heap.size_push] at h2
        exact Nat.le_of_succ_le h2
    · show b ≠ cenv.locals
      rw [hL]; exact Nat.ne_of_lt (hfp b hb).2
    · have e : cenv.cells.lookup y = some c := e
      rcases mem e with ⟨h1, _⟩ | ⟨h1, _⟩
      · exact (hfp b hb).1.2.2.2.2.1 y c h1 z
      · have h2 : s.heap.objs.size + 1 ≤ b := by rw [← z]; exact h1
        exact absurd (Nat.lt_of_lt_of_le (hfp b hb).2 (Nat.le_of_succ_le h2)) (Nat.lt_irrefl _)
    · rcases (hfp b hb).1.2.2.2.1 with z | z
      · exact I.ok.noex b o e z
      · exact absurd (Nat.lt_of_lt_of_le (Heap.lt_size e) (Nat.le_trans I.ok.bsz z)) (Nat.lt_irrefl _)
    · rcases List.mem_cons.mp (I.stkSub b z) with z | z
      · exact (hfp b hb).1.2.1 z
      · exact (hfp b hb).1.2.2.1 z
  refine ⟨okB, rfl, I.bare, Un.kept kp, ⟨fun _ => none, ?_, fun i y av e1 e2 e3 => ?_⟩, fun y c e => ?_, ?_, fun y c e => ?_, fun p hp => ?_, I.hok.kept kp, by rw [wipe_length]; exact I.len⟩
  · show Heap.Ns _ cenv.locals _
    rw [hL]
    exact Heap.Ns.keeps (Heap.Ns.new ..) fun b o e => pushCells_keeps _ _ _ _ e
  · obtain ⟨e2, hne⟩ := wipe_some e2
    have hfr : scope.names.lookup y = some .free ∧ (cenv.kindOf y = some .cell ∨ cenv.kindOf y = some .free) := by
      have key : ∀ k, cenv.scope.names.lookup y = some k → k = .local ∨ k = .cell ∨ k = .free → scope.names.lookup y = some .free ∧ (cenv.kindOf y = some .cell ∨ cenv.kindOf y = some .free) := fun k hk hk' => by
        have hk0 := hk
        rw [hsc] at hk
        obtain ⟨k', e, r⟩ := lookup_relS hk
        have no : ¬ (k' = .local ∨ k' = .cell) := fun hh => by
          rcases ok.own _ (PySem.mem_of_lookup e) hh with e' | e'
          · obtain ⟨p, hp, hpy⟩ := List.mem_map.mp e'
            have e3 := ok.ix p hp
            have : p.1 = y := hpy
            rw [this] at e3
            exact hne (List.mem_map.mpr ⟨p, hp, nodup_ix hN e3 e1⟩)
          · exact e' (List.mem_of_getElem? e1)
        rcases r with rfl | ⟨rfl, rfl⟩
        · rcases hk' with rfl | rfl | rfl
          · exact absurd (.inl rfl) no
          · exact absurd (.inr rfl) no
          · exact ⟨e, .inr hk0⟩
        · exact ⟨e, .inl hk0⟩
      have e3 : Vis cenv.scope y := e3
      rcases e3 with e3 | e3 | e3
      · exact key _ e3 (.inl rfl)
      · exact key _ e3 (.inr (.inl rfl))
      · exact key _ e3 (.inr (.inr rfl))
    obtain ⟨m, hn, hl⟩ := I.loc
    have hvis : Vis X.env.scope y := (ok.free _ (PySem.mem_of_lookup hfr.1) rfl).elim (fun k => .inr (.inl k)) (fun k => .inr (.inr k))
    obtain ⟨w, r, q⟩ := hl i y av e1 e2 hvis
    refine ⟨w, r, .inr ⟨hfr.2, ?_⟩⟩
    obtain ⟨c, h1, h2⟩ := look hfr.1
    rcases q with ⟨k, _⟩ | ⟨_, c', e', z⟩
    · have k : X.env.scope.names.lookup y = some .local := k
      rcases ok.free _ (PySem.mem_of_lookup hfr.1) rfl with k' | k' <;> rw [show X.env.scope.names.lookup y = _ from k'] at k <;> cases k
    · rw [h2] at e'; cases e'
      exact ⟨c, h1, z.keeps kp⟩
  · have e : cenv.cells.lookup y = some c := e
    rcases mem e with ⟨h1, _⟩ | ⟨_, z⟩
    · obtain ⟨w, z⟩ := I.cell y c h1
      exact ⟨w, z.keeps kp⟩
    · exact ⟨_, z⟩
  · show H cenv.locals = none
    rw [hL]; exact I.hok.fresh (Nat.le_refl _)
  · have e : cenv.cells.lookup y = some c := e
    rcases mem e with ⟨h1, _⟩ | ⟨h1, _⟩
    · exact I.freeC y c h1
    · exact I.hok.fresh (Nat.le_of_succ_le h1)
  · exact absurd (show p ∈ ([] : List (Addr × Obj)) ++ [] from hp) (by simp)

/-- an item appended to a tracked list -/
theorem app_ok {E : Value → Shared → Prop} {D : Addr} {xs : List V} {y : V} {v : Value} {Q : Value → Shared → Prop} (I : Inv X pins σ H s) (hD : H D = some (.lst xs)) (hz : xs.length < sizeLine) (r : RelV y v)
    (h : ∀ s', Inv X pins σ (upd H D (.lst (xs ++ [y]))) s' → Q .none s') : wpAny (model X.prog X.w) X.A (call (.builtin "list.append") [.ref D, v]) Q E s := by
  obtain ⟨hz', its, n, ri, e⟩ := I.hok D _ hD
  have hl := ri.length
  refine append_at (hsz := by rw [List.size_toArray]; omega) e fun h' sb ho' => ?_
  refine h { s with heap := h' } (I.write (t' := s.toks) (by rw [hD]; trivial) (.inl rfl) (fun b u hb q => (sb.2 b hb).trans q) ⟨_, ho'⟩ ⟨by rw [List.length_append]; exact hz, its ++ [v], n + 1, ri.append (.cons r .nil), ?_⟩)
  rw [ho']
  simp

/-- a clause's tests -/
def PTs (X : Cx) (ifs : List Expr) (t : TT) : Prop :=
  ∀ (pins : List (Addr × Obj)) (s : Shared) (σ : St) (H : Hp) (Q : Bool → Hp → Prop), Inv X pins σ H s → t σ H Q →
    wpAny (model X.prog X.w) X.A (forIn ifs true fun c r => if r = true then do let ok ← isTrue c X.env (eval c X.env); pure (ForInStep.yield ok) else pure (ForInStep.yield r)) (TP X pins σ Q) X.xe s
def tYes : TT := fun _ H Q => Q true H
theorem pts_nil : PTs X [] tYes := fun _ _ _ H _ I h => wpAny_tests_nil ⟨H, I, h⟩
theorem pts_one {c : Expr} {t : TT} (h : PT X c t) : PTs X [c] t := fun pins s σ H Q I hw => wpAny_tests_one (h pins s σ H Q I hw)
end

theorem thnF {α : Type} {t : Sem α} {Q Q' : α → Shared → Prop} {M : Model} {A : Around} {E : Value → Shared → Prop} {s : Shared} (h : wpAny M A t Q (fun _ _ => False) s) (hQ : ∀ a s, Q a s → Q' a s) : wpAny M A t Q' E s := wpAny_mono h hQ fun _ _ z => False.elim z

/-- the loop of a list comprehension's block, the target of any form (codeAny_compLoop_tests asks a target that no tuple goes to; statement and proof follow it, PyProof/CompMap.lean:41-61, with the step letOwnedTupleGo kept) -/
theorem compLoop_any {prog : Program} {w : World} {A : Around} {R : Result → Shared → Prop} {s : Shared} {elt target iter : Expr} {ifs : List Expr} {scope : Scope} {pos : Pos} {it acc : Value} {env : Env} (I : Nat → Shared → Prop)
    (turn : ∀ n s, I n s → wpAny (model prog w) A (pyNext it) (fun r s₁ => match r with
      | none => R (.ok .next) s₁
      | some v => wpAny (model prog w) A (letOwnedTupleGo target it v) (fun _ s₁' => wpAny (model prog w) A (assign target env v) (fun _ s₂ =>
          wpAny (model prog w) A (forIn ifs true fun c r => if r = true then do let ok ← isTrue c env (eval c env); pure (ForInStep.yield ok) else pure (ForInStep.yield r)) (fun ok s₃ =>
            if ok = true then wpAny (model prog w) A (eval elt env) (fun x s₄ =>
              wpAny (model prog w) A (call (.builtin "list.append") [acc, x]) (fun _ s₅ => ∃ m, m < n ∧ I m s₅) (notedBy (model prog w) A env fun e s' => R (.error e) s') s₄) (notedBy (model prog w) A env fun e s' => R (.error e) s') s₃
            else ∃ m, m < n ∧ I m s₃) (notedBy (model prog w) A env fun e s' => R (.error e) s') s₂) (notedBy (model prog w) A env fun e s' => R (.error e) s') s₁') (notedBy (model prog w) A env fun e s' => R (.error e) s') s₁) (notedBy (model prog w) A env fun e s' => R (.error e) s') s)
    (n : Nat) (h : I n s) :
    codeAny (model prog w) A (.compLoop (.ListComp elt [⟨target, iter, ifs, 0⟩] scope pos) 0 it acc env) R s := by
  refine codeAny_loop rfl I (fun n s hI => ?_) n h
  show wpAny _ A ((compTurn (.ListComp elt [⟨target, iter, ifs, 0⟩] scope pos) 0 it acc env).onRaise (fun x => do noteFrame x env; theTreesLotGoes x)) _ _ s
  refine wpAny_noted ?_
  rw [compTurn_list]
  refine wpAny_bind (wpAny_standAt (wpAny_bind (wpAny_mono (turn n s hI) (fun r s₁ h₁ => ?_) fun _ _ h' => h')))
  cases r with
  | none => exact wpAny_pure h₁
  | some v =>
    refine wpAny_bind (wpAny_mono h₁ (fun _ s₁' h₁' => ?_) fun _ _ h' => h')
    refine wpAny_bind (wpAny_mono h₁' (fun _ s₂ h₂ => wpAny_bind (wpAny_mono h₂ (fun ok s₃ h₃ => ?_) fun _ _ h' => h')) fun _ _ h' => h')
    cases ok with
    | false => exact wpAny_pure ⟨rfl, h₃⟩
    | true =>
      exact wpAny_bind (wpAny_bind (wpAny_mono h₃ (fun x s₄ h₄ => wpAny_bind (wpAny_mono h₄ (fun _ s₅ h₅ => wpAny_pure (wpAny_pure ⟨rfl, h₅⟩)) fun _ _ h' => h')) fun _ _ h' => h'))

section
variable {X : Cx}
/-- [elt for target in iter if ..]: D the new list; W by the turn and a measure, Nx what a turn is to reach -/
def tLc (wi : TI) (g : TG) (tt : TT) (te : TE) (vs : List Nat) : TE := fun σ H Q => wi σ H fun J H1 => ∀ D, H1 D = none → ∃ W : Nat → Nat → Hp → Prop, (∃ m, W 0 m (upd H1 D (.lst []))) ∧ ∀ i m H, W i m H →
  (J.stop i H ∧ Q (.ref D) H) ∨ (J.go i H ∧ ∃ Nx : Hp → Prop, (∀ H', Nx H' → ∃ m', m' < m ∧ W (i + 1) m' H') ∧ ∀ x H', J.yld i H x H' → g x (wipe σ vs) H' fun σ2 H2 => wipe σ2 vs = wipe σ vs ∧ tt σ2 H2 fun b H3 =>
    if b = true then te σ2 H3 fun y H4 => ∃ acc, H4 D = some (.lst acc) ∧ acc.length < sizeLine ∧ Nx (upd H4 D (.lst (acc ++ [y]))) else Nx H3)
theorem lc_core {pins : List (Addr × Obj)} {s : Shared} {σ : St} {H : Hp} {Q : VK} {elt tg iter : Expr} {ifs : List Expr} {scope : Scope} {own : List (Str × Nat)} {pos pos' : Pos} {wi : TI} {g : TG} {tt : TT} {te : TE} {use : Option (Value → Sem Unit)} {Qf : Value → Shared → Prop}
    (hc : X.calm = true) (hN : X.N.Nodup) (I : Inv X pins σ H s) (hi : PI X tg iter wi) (ok : BlkOk X.N X.env.scope scope own)
    (hg : ∀ (s : Shared) (H : Hp) (C : Addr) (cl : List (Str × Addr)) (fp : List Addr), PG (X.blk s H scope (compEnvC scope cl C X.env) fp) tg g) (ht : ∀ (s : Shared) (H : Hp) (C : Addr) (cl : List (Str × Addr)) (fp : List Addr), PTs (X.blk s H scope (compEnvC scope cl C X.env) fp) ifs tt)
    (he : ∀ (s : Shared) (H : Hp) (C : Addr) (cl : List (Str × Addr)) (fp : List Addr), PE (X.blk s H scope (compEnvC scope cl C X.env) fp) elt te) (hs : ∀ x, foldedSetIterable iter X.env x = pure x)
    (h : tLc wi g tt te (own.map (·.2)) σ H Q)
    (hRR : ∀ D C s' m H', Inv X pins σ H' s' → Q (.ref D) H' → s'.heap.Ns C m → FpOk X pins H' C → compPost (model X.prog X.w) X.A X.xe use Qf (.ref D) C (.ok .next) s') :
    wpAny (model X.prog X.w) X.A (comprehension (.ListComp elt [⟨tg, iter, ifs, 0⟩] scope pos) scope X.env pos' (newList []) false (eval iter X.env) use) Qf X.xe s := by
  have hfree : ∀ y ∈ scope.names, y.2 = .free → ∃ c, X.env.cells.lookup y.1 = some c := fun y hy e => by
    rcases ok.free y hy e with k | k
    · exact I.ok.has _ (.inl k)
    · exact I.ok.has _ (.inr k)
  refine wpAny_comprehension_free (use := use) rfl hs (closure_ok hfree) ok.kind (fun y hy e => by rw [ok.uniq y hy, e])
    (thn (hi pins s σ H _ I h) fun xv s1 hx => thn hx fun itv s2 h2 => ?_)
  obtain ⟨it, fp, tn, J, H2, e, I2, T, st2, f2, q⟩ := h2
  subst e
  refine wpAny_newObj_type (newEnv_comp ?_) (by show 0 ≤ sizeLine; decide)
  generalize hD : s2.heap.objs.size = D
  have hDn : H2 D = none := I2.hok.fresh (Nat.le_of_eq hD)
  obtain ⟨W, ⟨m0, w0⟩, turn⟩ := q D hDn
  -- the new list
  generalize hs3 : ({ s2 with heap := s2.heap.push { cls := .type "list", data := .seq ([] : List Value).toArray } } : Shared) = s3
  have I3 : Inv X pins σ (upd H2 D (.lst [])) s3 := by
    rw [← hs3]
    refine I2.laid (t' := s2.toks) (fun b o e => Heap.get?_push_of_some _ e) (Nat.le_of_eq hD) ⟨Nat.zero_le _, [], 0, .nil, ?_⟩
    rw [← hD]
    exact Heap.get?_push_size _ rfl
  have h3 : s3.heap = s2.heap.push { cls := .type "list", data := .seq ([] : List Value).toArray } := by rw [← hs3]
  have sz : ∀ b ∈ fp, b < s2.heap.objs.size := fun b hb => by
    obtain ⟨o, e, _⟩ := T.obj _ _ st2 b hb
    exact Heap.lt_size e
  have f3 : ∀ b ∈ fp, FpOk X pins (upd H2 D (.lst [])) b ∧ b < s3.heap.objs.size := fun b hb => by
    have hlt := sz b hb
    refine ⟨⟨?_, (f2 b hb).2⟩, by rw [h3, Heap.size_push]; exact Nat.lt_succ_of_lt hlt⟩
    rw [upd_ne (by rw [← hD]; exact Nat.ne_of_lt hlt)]
    exact (f2 b hb).1
  have st3 : tn 0 s3.heap := T.keep _ _ _ st2 fun b _ o e => by rw [h3]; exact Heap.get?_push_of_some _ e
  have I4 := block_start I3 ok hN f3
  have pg := hg s3 (upd H2 D (.lst [])) s3.heap.objs.size (cellsFrom (s3.heap.objs.size + 1) scope.names (cloFrom X.env.cells scope.names [])) fp
  have pt := ht s3 (upd H2 D (.lst [])) s3.heap.objs.size (cellsFrom (s3.heap.objs.size + 1) scope.names (cloFrom X.env.cells scope.names [])) fp
  have pe := he s3 (upd H2 D (.lst [])) s3.heap.objs.size (cellsFrom (s3.heap.objs.size + 1) scope.names (cloFrom X.env.cells scope.names [])) fp
  show codeAny _ _ (.compStart (.ListComp elt [⟨tg, iter, ifs, 0⟩] scope pos) 0 (.ref it) (.ref D) (compEnvC scope (cellsFrom (s3.heap.objs.size + 1) scope.names (cloFrom X.env.cells scope.names [])) s3.heap.objs.size X.env)) (compPost (model X.prog X.w) X.A X.xe use Qf (.ref D) s3.heap.objs.size) { s3 with heap := pushCells (s3.heap.push { cls := .type "dict", data := .dict #[] }) scope.names }
  have nfp : ∀ b ∈ fp, (upd H2 D (.lst [])) b = none := fun b hb => (f3 b hb).1.1
  generalize hce : compEnvC scope (cellsFrom (s3.heap.objs.size + 1) scope.names (cloFrom X.env.cells scope.names [])) s3.heap.objs.size X.env = ce at I4 pg pt pe ⊢
  have cL : ce.locals = s3.heap.objs.size := by subst hce; rfl
  generalize hH3 : upd H2 D (.lst []) = H3 at I3 I4 pg pt pe w0 nfp f3
  generalize hs4 : ({ s3 with heap := pushCells (s3.heap.push { cls := .type "dict", data := .dict #[] }) scope.names } : Shared) = s4 at I4 ⊢
  have st4 : tn 0 s4.heap := T.keep _ _ _ st3 fun b _ o e => by rw [← hs4]; exact pushCells_keeps _ _ _ _ (Heap.get?_push_of_some _ e)
  have stat : ∀ {σ' : St} {H' : Hp} {s' : Shared}, Inv (X.blk s3 H3 scope ce fp) [] σ' H' s' → (∀ b ∈ fp, H' b = none) → ∀ b ∈ fp, FpOk (X.blk s3 H3 scope ce fp) [] H' b := fun {σ' H' s'} I' hn b hb =>
    ⟨hn b hb, (I'.ok.exf b hb).1, I'.ok.exfs b hb, .inl hb, fun x c e => (I'.ok.exf b hb).2 x c e, fun p hp => absurd (show p ∈ ([] : List (Addr × Obj)) ++ [] from hp) (by simp)⟩
  have loop : codeAny (model X.prog X.w) X.A (.compLoop (.ListComp elt [⟨tg, iter, ifs, 0⟩] scope pos) 0 (.ref it) (.ref D) ce) (compPost (model X.prog X.w) X.A X.xe use Qf (.ref D) s3.heap.objs.size) s4 := by
    refine compLoop_any (fun n s' => ∃ i H', Inv (X.blk s3 H3 scope ce fp) [] (wipe σ (own.map (·.2))) H' s' ∧ tn i s'.heap ∧ (∀ b ∈ fp, H' b = none) ∧ W i n H') ?_ m0 ⟨0, H3, I4, st4, nfp, w0⟩
    rintro n s5 ⟨i, H5, I5, st5, n5, w5⟩
    rcases turn i n H5 w5 with ⟨stop, qq⟩ | ⟨go, Nx, hNx, step⟩
    · have td := T.done (X.blk s3 H3 scope ce fp) rfl rfl rfl hc i [] s5 _ H5 (fun _ _ => False) I5 (stat I5 n5) st5 stop
      refine thnF td fun r s6 ⟨hr, I6⟩ => ?_
      subst hr
      -- back in the def's context
      have I7 : Inv X pins σ H5 s6 := I3.call' (ch := fp) I6.os I6.base I6.hok I6.bare fun b hb => ⟨(f3 b hb).1.2.2.2.1, (f3 b hb).1.2.1, (f3 b hb).1.2.2.2.2.1, (f3 b hb).1.2.2.2.2.2⟩
      have nC : H5 s3.heap.objs.size = none := by
        have z : H5 ce.locals = none := I6.free
        rw [cL] at z
        exact z
      obtain ⟨m, hn, _⟩ := I6.loc
      have hn : s6.heap.Ns ce.locals m := hn
      rw [cL] at hn
      exact hRR D s3.heap.objs.size s6 m H5 I7 qq hn (I3.fpOk (Nat.le_refl _) nC)
    · have ti := T.item (X.blk s3 H3 scope ce fp) rfl rfl rfl hc i [] s5 _ H5 (fun _ _ => False) I5 (stat I5 n5) st5 go
      refine thnF ti fun r s6 ⟨u, hr, h6⟩ => ?_
      subst hr
      refine thnF h6 fun _ s7 ⟨x, H7, I7, r7, y7, st7, n7⟩ => ?_
      have I7' := I7.pinned (stat I7 n7) (T.obj _ _ st7)
      refine thnF (pg _ s7 _ H7 x u _ I7' r7 (step x H7 y7)) fun _ s8 ⟨σ8, H8, I8, hw8, q8⟩ => ?_
      refine thnF (pt _ s8 σ8 H8 _ I8 q8) fun b s9 ⟨H9, I9, q9⟩ => ?_
      -- the turn's end
      have fin : ∀ {s' : Shared} {H' : Hp}, Inv (X.blk s3 H3 scope ce fp) ([] ++ pinsAt fp s7.heap) σ8 H' s' → Nx H' → ∃ m, m < n ∧ ∃ i H', Inv (X.blk s3 H3 scope ce fp) [] (wipe σ (own.map (·.2))) H' s' ∧ tn i s'.heap ∧ (∀ b ∈ fp, H' b = none) ∧ W i m H' := fun {s' H'} I' nx => by
        obtain ⟨m', hm, w'⟩ := hNx H' nx
        have pin' : ∀ b ∈ fp, ∀ o, s7.heap.get? b = some o → s'.heap.get? b = some o ∧ H' b = none := fun b hb o e =>
          let z := I'.pin (b, o) (List.mem_append_right _ (List.mem_append_right _ (mem_pinsAt hb e)))
          ⟨z.1, z.2.1⟩
        have hl : (wipe σ (own.map (·.2))).length = σ8.length := by rw [← hw8, wipe_length]
        refine ⟨m', hm, i + 1, H', (I'.unpinned (pins := [])).weak hl (fun j v e => ?_), T.keep _ _ _ st7 fun b hb o e => (pin' b hb o e).1, fun b hb => ?_, w'⟩
        · rw [← hw8] at e
          exact (wipe_some e).1
        · obtain ⟨o, e, _⟩ := T.obj _ _ st7 b hb
          exact (pin' b hb o e).2
      cases b with
      | false =>
        simp only [Bool.false_eq_true, if_false] at q9 ⊢
        exact fin I9 q9
      | true =>
        simp only [if_true] at q9 ⊢
        refine thnF (pe _ s9 σ8 H9 _ I9 q9) fun z s10 ⟨yv, H10, I10, r10, acc, hD10, hz10, nx⟩ => ?_
        exact app_ok (X := X.blk s3 H3 scope ce fp) I10 hD10 hz10 r10 fun s11 I11 => fin I11 nx
  exact codeAny_compStart_list loop (T.self X.A 0 _ _ _ st4 loop)
/-- as a value -/
theorem pe_lc {elt tg iter : Expr} {ifs : List Expr} {scope : Scope} {own : List (Str × Nat)} {pos : Pos} {wi : TI} {g : TG} {tt : TT} {te : TE} (hc : X.calm = true) (hN : X.N.Nodup) (hi : PI X tg iter wi) (ok : BlkOk X.N X.env.scope scope own)
    (hg : ∀ (s : Shared) (H : Hp) (C : Addr) (cl : List (Str × Addr)) (fp : List Addr), PG (X.blk s H scope (compEnvC scope cl C X.env) fp) tg g) (ht : ∀ (s : Shared) (H : Hp) (C : Addr) (cl : List (Str × Addr)) (fp : List Addr), PTs (X.blk s H scope (compEnvC scope cl C X.env) fp) ifs tt)
    (he : ∀ (s : Shared) (H : Hp) (C : Addr) (cl : List (Str × Addr)) (fp : List Addr), PE (X.blk s H scope (compEnvC scope cl C X.env) fp) elt te) (hs : ∀ x, foldedSetIterable iter X.env x = pure x := by intro _; rfl) :
    PE X (.ListComp elt [⟨tg, iter, ifs, 0⟩] scope pos) (tLc wi g tt te (own.map (·.2))) := by
  intro pins s σ H Q I h
  rw [eval_ListComp]
  refine lc_core hc hN I hi ok hg ht he hs h fun D C s' m H' I' q hn f => ⟨m, hn, fun h'' sb => ?_⟩
  obtain ⟨f0, f1, f2, f3, f4, f5⟩ := f
  exact ⟨.ref D, H', I'.turned (t' := s'.toks) (fun b o hb e => (sb.2 b hb).trans e) f0 f1 f3 f4 f5, rfl, q⟩
end

/-! ### the forms one uses -/
def blkC (N : List Str) (sc scope : Scope) (own : List (Str × Nat)) : Bool :=
  (match scope.kind with | .function => true | _ => false) && (scope.names.all fun y => decide (scope.names.lookup y.1 = some y.2)) && (own.all fun p => decide (N[p.2]? = some p.1)) &&
    (scope.names.all fun y => match y.2 with
      | .free => (match sc.names.lookup y.1 with | some .cell => true | some .free => true | _ => false)
      | .local => decide (y.1 ∈ own.map (·.1)) || decide (y.1 ∉ N)
      | .cell => decide (y.1 ∈ own.map (·.1)) || decide (y.1 ∉ N)
      | _ => true)
theorem blkOk_by {N : List Str} {sc scope : Scope} {own : List (Str × Nat)} (h : blkC N sc scope own = true) : BlkOk N sc scope own := by
  unfold blkC at h
  simp only [Bool.and_eq_true, List.all_eq_true, decide_eq_true_eq] at h
  obtain ⟨⟨⟨h1, h2⟩, h3⟩, h4⟩ := h
  refine ⟨?_, h2, h3, fun y hy e => ?_, fun y hy e => ?_⟩
  · split at h1
    · assumption
    · cases h1
  · have q := h4 y hy
    simp only [e] at q
    split at q <;> first | exact .inl (by assumption) | exact .inr (by assumption) | cases q
  · have q := h4 y hy
    rcases e with e | e <;> (simp only [e, Bool.or_eq_true, decide_eq_true_eq] at q; exact q)
end L2

namespace L2
open PySem PySem.Spec PyProof.Rows


section
variable {prog : Program} {w : World} {A : Around} {R : Result → Shared → Prop} {s : Shared} {elt t0 i0 t1 i1 : Expr} {ifs0 ifs1 : List Expr} {scope : Scope} {pos : Pos} {it acc : Value} {env : Env}
end

theorem wipe_out {σ : St} {i : Nat} : ∀ {vs : List Nat}, i ∉ vs → (wipe σ vs)[i]? = σ[i]?
  | [], _ => rfl
  | v :: vs, h => by
    have h1 : v ≠ i := fun e => h (by rw [e]; exact List.mem_cons_self)
    have h2 : i ∉ vs := fun m => h (List.mem_cons_of_mem _ m)
    unfold wipe
    rw [List.getElem?_set_ne h1]
    exact wipe_out h2
section
variable {X : Cx}
end
end L2

namespace L2
open PySem PySem.Spec PyProof.Rows

/-! ### lists of pairs as tables -/
section
variable {κ : Type} [DecidableEq κ]



end


/-! ### a tracked dict, its keys ints and texts or tuples of these -/


section
variable {P : Program} {w : World} {H : Hp} {h : Heap} {a : Addr}
end



section
variable {X : Cx} {pins : List (Addr × Obj)} {σ : St} {H : Hp} {s : Shared} {a : Addr} {y v : V} {u r : Value} {o : Option V} {A : Around} {E : Value → Shared → Prop}


end

section
variable {X : Cx} {pins : List (Addr × Obj)} {σ : St} {H : Hp} {s : Shared} {a : Addr} {kvs : List (Key × V)} {k : Key} {u : Value} {A : Around} {E : Value → Shared → Prop}
end


/-! ### readings and rules -/



section
variable {X : Cx} {o i e value : Expr} {pos pos' tpos : Pos} {td ty tv : TE}
end


/-! ### displays -/
section
variable {X : Cx} {pos : Pos}
end




/-! ### methods -/


section
variable {X : Cx} {pins : List (Addr × Obj)} {σ : St} {H : Hp} {s : Shared} {a : Addr} {y d : V} {u r : Value} {o : Option V} {A : Around} {E : Value → Shared → Prop}
end

section
variable {X : Cx} {o e f : Expr} {apos cpos : Pos} {td ty tx : TE}
end

/-! ### dict(d): a copy -/
section
variable {X : Cx} {pins : List (Addr × Obj)} {σ : St} {H : Hp} {s : Shared} {a : Addr} {kvs : List (Key × V)} {A : Around} {E : Value → Shared → Prop}
end


section
variable {X : Cx} {pins : List (Addr × Obj)} {σ : St} {H : Hp} {s : Shared} {a : Addr} {y : V} {u : Value} {A : Around} {E : Value → Shared → Prop}
end
end L2

namespace L2
open PySem PySem.Spec PyProof.Rows


section
variable {prog : Program} {w : World} {A : Around} {E : Value → Shared → Prop}


end

section
variable {X : Cx}
end
end L2

namespace L2
open PySem PySem.Spec PyProof.Rows


section
variable {X : Cx} {pins : List (Addr × Obj)} {σ : St} {H : Hp} {s : Shared} {h' : Heap}
/-- .. and one new object is laid -/
theorem Inv.turnedNew {t' : Nat} {ch : List Addr} {T : Addr} {ob : HO} (I : Inv X pins σ H s) (k : ∀ b o, b ∉ ch → s.heap.get? b = some o → h'.get? b = some o) (hf : ∀ b ∈ ch, FpOk X pins H b) (hT : s.heap.objs.size ≤ T)
    (new : ObjOk X.prog X.w (upd H T ob) h' T ob) : Inv X pins σ (upd H T ob) { s with heap := h', toks := t' } := by
  have hn : H T = none := I.hok.fresh hT
  have nit : ∀ b u, H b = some u → b ∉ ch := fun b u e z => by
    have q := (hf b z).1
    rw [q] at e; cases e
  refine I.step (g' := s.gens) (d' := s.drawn) (ch := ch) (fun b hb => ⟨(hf b hb).2.2.2.1, (hf b hb).2.1, (hf b hb).2.2.2.2.1, (hf b hb).2.2.2.2.2⟩) (fun b o _ _ hc e _ => k b o hc e) (fun b o _ _ hc e _ => ⟨o.slots, k b o hc e⟩)
    (fun b o _ e n => ?_) (fun b o hc e => ⟨o, k b o hc e⟩) (fun b xs e => ?_) (fun b o u e => ?_) (fun b ps e => ⟨#[], ?_⟩) (fun m hm => ?_) (fun b u e => ?_) I.bare
  · rw [upd_ne (Nat.ne_of_lt (Nat.lt_of_lt_of_le (Heap.lt_size e) hT))]; exact n
  · rw [upd_ne (ne_of_none e hn)]; exact e
  · rw [upd_ne (ne_of_none e hn)]; exact e
  · rw [upd_ne (ne_of_none e hn), e]; simp
  · obtain ⟨o, es, ep, ho, r⟩ := hm
    exact ⟨o, es, ep, k _ o (fun z => (hf _ z).2.1 rfl) ho, r⟩
  · by_cases hb : b = T
    · subst hb
      rw [upd_same] at e
      cases e
      exact new
    · rw [upd_ne hb] at e
      refine (I.hok b u e).stay (fun c v hc q => k c v ?_ q) (fun c q => by rw [upd_ne (ne_of_none q hn)]; exact q) fun c xs q => by rw [upd_ne (ne_of_none q hn)]; exact q
      rcases hc with z | z
      · rw [z]; exact nit b u e
      · exact nit c _ z

/-! ### locking a thing while a statement runs -/
end
section
variable {X : Cx}

/-! ### one iterator just laid -/
end

/-! ### range with a step -/
section
variable {X : Cx} {tg : Expr}
end

/-! ### reversed(list) -/
section
variable {X : Cx} {tg : Expr}
end

/-! ### a str -/

/-! ### a dict's keys: any dict's entries -/
section
variable {prog : Program} {w : World} {A : Around} {E : Value → Shared → Prop} {s : Shared}
end

/-! ### a locked dict -/
section
variable {X : Cx} {pins : List (Addr × Obj)} {σ : St} {H : Hp} {s : Shared} {d : Addr} {o : Obj}
end

section
variable {P : Program} {w : World} {K : PySem.W.Frag} {tg : Expr} {d : Addr} {o : Obj} {es : Array DictEntry} {ep : Nat}
end

/-! ### for k in d, d.keys(), d.values(), d.items() -/
section
variable {X : Cx} {tg e : Expr} {td : TE} {apos cpos : Pos}
end

/-! ### enumerate(list) -/
/-- the list at a as it stands at each turn, each item in a new pair -/
def Ite (K : PySem.W.Frag) (a : Addr) : It :=
  ⟨fun i H => ∃ (xs : List V) (x : V), SqL K H a xs ∧ xs[i]? = some x, fun i H v H' => ∃ T x, v = .ref T ∧ H T = none ∧ H' = upd H T (.tup [.int (i : Nat), x]) ∧ ∀ xs, SqL K H a xs → xs[i]? = some x, fun i H => ∃ xs : List V, SqL K H a xs ∧ xs.length ≤ i⟩
theorem turn_enum {P : Program} {w : World} {K : PySem.W.Frag} {elts : List Expr} {kk : Nat} {tpos : Pos} (a e it : Addr) :
    Turn P w K (.Tuple elts kk tpos) (Ite K a) [e, it] e (fun i h => (∃ old, IsEnum h e it ((i : Nat) : Int) old) ∧ h.IsListIter it a i ∧ e ≠ it) where
  mem := by simp
  obj := fun i h st b hb => by
    obtain ⟨⟨old, he⟩, ⟨o, ho, hc, hd⟩, _⟩ := st
    have e' : b = e ∨ b = it := by simpa using hb
    rcases e' with z | z
    · rw [z]; exact ⟨_, he, fun v q => nomatch q⟩
    · rw [z]; exact ⟨o, ho, fun v q => by rw [hd] at q; cases q⟩
  keep := fun i h h' st k => let ⟨⟨old, he⟩, hi, hne⟩ := st; ⟨⟨old, k e (by simp) _ he⟩, hi.at fun o q => k it (by simp) o q, hne⟩
  item := by
    intro X hP hw hK hc i pins s σ H E I hf st hg
    subst hP hw hK
    obtain ⟨⟨old, he⟩, hit, hne⟩ := st
    obtain ⟨xs, x, hq, hx⟩ := hg
    obtain ⟨its, rv, p, hz⟩ := I.list hq
    obtain ⟨u, hu, ru⟩ := rv.get hx
    have hel : e < s.heap.objs.size := Heap.lt_size he
    have hil : it < s.heap.objs.size := by obtain ⟨_, q, _⟩ := hit; exact Heap.lt_size q
    refine wpAny_pyNext_enum_item he hit p.isList (x := u) (by simpa using hu) hne fun h' ho hit' hT hsz hk => ?_
    refine ⟨_, rfl, wpAny_letOwnedTupleGo_enum (s := { s with heap := h', toks := s.toks + 1 }) ho fun h'' he' sb => ?_⟩
    have hT2 : h''.get? s.heap.objs.size = some { cls := .type "tuple", data := .seq #[.int i s.toks, u] } := (sb.2 _ (Nat.ne_of_gt hel)).trans hT
    have new : ObjOk X.prog X.w (upd H s.heap.objs.size (.tup [.int (i : Nat), x])) h'' s.heap.objs.size (.tup [.int (i : Nat), x]) :=
      ⟨⟨by show 2 ≤ sizeLine; decide, NoD.of hT2 rfl⟩, [.int i s.toks, u], .cons ⟨_, rfl⟩ (.cons ru .nil), ⟨_, hT2, rfl, _, rfl⟩⟩
    have I1 : Inv X pins σ (upd H s.heap.objs.size (.tup [.int (i : Nat), x])) { s with heap := h'', toks := s.toks + 1 } :=
      I.turnedNew (ch := [e, it]) (fun b ob hb q => (sb.2 b (fun z => hb (by simp [z]))).trans (hk b ob (fun z => hb (by simp [z])) (fun z => hb (by simp [z])) q)) hf (Nat.le_refl _) new
    refine ⟨.ref s.heap.objs.size, _, I1, rfl, ⟨_, x, rfl, I.hok.fresh (Nat.le_refl _), rfl, fun ys hy => by rw [I.list_inj hy hq]; exact hx⟩, ⟨⟨u, ?_⟩, hit'.at fun o q => (sb.2 it (Ne.symm hne)).trans q, hne⟩, fun b hb => ?_⟩
    · have e1 : ((i + 1 : Nat) : Int) = (i : Int) + 1 := by omega
      rw [e1]; exact he'
    · have hb' : b < s.heap.objs.size := by
        have e' : b = e ∨ b = it := by simpa using hb
        rcases e' with z | z
        · rw [z]; exact hel
        · rw [z]; exact hil
      rw [upd_ne (Nat.ne_of_lt hb')]
      exact (hf b hb).1
  done := by
    intro X hP hw hK hc i pins s σ H E I hf st hg
    subst hP hw hK
    obtain ⟨⟨old, he⟩, hit, hne⟩ := st
    obtain ⟨xs, hq, hx⟩ := hg
    obtain ⟨its, rv, p, hz⟩ := I.list hq
    obtain ⟨f0, f1, f2, f3, f4, f5⟩ := hf it (by simp)
    have hl := rv.length
    exact wpAny_pyNext_enum_end (I.ok.hd hc) he hit p.isList (by simp; omega) fun h' eb => ⟨rfl, I.turned (t' := s.toks) (fun b o hb q => eb b o hb q) f0 f1 f3 f4 f5⟩
  self := fun A i s Q E st h => let ⟨⟨_, he⟩, _⟩ := st; wpAny_pyIter_enum he h
def iEnum (K : PySem.W.Frag) (ta : TA) : TI := fun σ H R => ta σ H fun vs H1 => ∃ a xs, vs = [.ref a] ∧ SqL K H1 a xs ∧ R (Ite K a) H1
theorem pi_enum {X : Cx} {e : Expr} {ta : TA} {p pos tpos : Pos} {elts : List Expr} {kk : Nat} (hg : Gl X "enumerate") (hm : X.mg "enumerate" = none) (ha : PA X [e] ta) (hs : starEach [e] X.env = [(false, eval e X.env)] := by rfl) :
    PI X (.Tuple elts kk tpos) (.Call (.Name "enumerate" p) [e] [] pos) (iEnum X.K ta) := by
  intro pins s σ H R I h
  refine Call_ (ld_blt I hg hm boot_enumerate (PyProof.Rows.callWith_type1 (thn (ha pos pins s σ H _ I h) fun us s1 ⟨vs, H1, I1, r1, q1⟩ => ?_) hs rfl))
  obtain ⟨a, xs, ex, hq, q⟩ := q1
  subst ex
  cases r1 with
  | cons r rr =>
    cases rr
    cases r
    obtain ⟨its, rv, p', hz⟩ := I1.list hq
    refine call_enumerate_list p'.isList fun h' he hit hsz hk => wpAny_pyIter_enum he ?_
    have I2 : Inv X pins σ H1 { s1 with heap := h' } := I1.kept (t' := s1.toks) hk
    refine ⟨s1.heap.objs.size + 1, [s1.heap.objs.size + 1, s1.heap.objs.size], _, _, H1, rfl, I2, turn_enum a (s1.heap.objs.size + 1) s1.heap.objs.size, ⟨⟨.none, he⟩, hit, Nat.succ_ne_self _⟩, fun b hb => ?_, q⟩
    have e' : b = s1.heap.objs.size + 1 ∨ b = s1.heap.objs.size := by simpa using hb
    have hle : s1.heap.objs.size ≤ b := by
      rcases e' with z | z
      · rw [z]; exact Nat.le_add_right _ _
      · rw [z]; exact Nat.le_refl _
    exact I1.fpOk hle (I1.hok.fresh hle)
/-! ### zip(list, list) -/
end L2

section 
namespace Bits
open PySem PyProof.Rows








end Bits
end 

section 
namespace TL
open PySem PySem.Builtin PySem.Builtin.Str PySem.StrLaws


/-! ### the list functions -/




/-! ### the model's split and partition are these -/




/-! ### computing spl and par -/


/-! ### digits -/

/-! ### words: x.split() -/
end TL
end 

namespace L2
open PySem PySem.Spec PyProof.Rows




section
variable {X : Cx} {pins : List (Addr × Obj)} {σ : St} {H : Hp} {s : Shared} {Q : VK}
end

section
variable {X : Cx}





/-! ### of a text alone -/

/-! ### of a text and a text -/

end

section
variable {X : Cx} {o e : Expr} {to te : TE}

end
end L2

namespace L2
open PySem PySem.Spec PyProof.Rows

section
variable {X : Cx}
end

/-! ### slices of a text -/


end L2

namespace Att
open PySem PySem.W PySem.Calls PyProof.Rows

/-! ### the script -/
theorem ints_of_wellAll {P : Params} {h : Heap} : ∀ (ns : List Int) (vs : List Value), WellAll P h vs (ns.map WData.int) → IntsAre vs ns := by
  intro ns
  induction ns with
  | nil =>
    intro vs w
    rw [List.map_nil] at w
    cases w
    exact .nil
  | cons n ns ih =>
    intro vs w
    rw [List.map_cons] at w
    cases w with
    | cons a b =>
      cases a
      exact .cons _ _ (ih _ b)

theorem script_of {l : OpenLaw} {n : Nat} (hn : l.most = some n) {P : Params} {h : Heap} {args : List WData} {vals : List Value}
    (hpre : l.row.toRowW.claim.pre args = true) (hwl : WellAll P h vals args) :
    ∃ a vs ns, vals = [Value.ref a] ∧ args = [WData.list (ns.map WData.int)] ∧ h.get? a = some { cls := .type "list", data := .seq vs.toArray } ∧ IntsAre vs ns ∧ ns.length ≤ n := by
  have hsh : WShape.hasAll [] args [.list .int] = true := (pre_splitW hpre).1
  have hc : l.pre.holds [] { args := args } = true := (pre_splitW hpre).2
  obtain ⟨d, r, rfl, h1, h2⟩ := hasAllW_cons hsh
  obtain rfl := hasAllW_nil h2
  obtain ⟨xs, rfl, h3⟩ := hasW_list h1
  obtain ⟨ns, rfl⟩ := items_int h3
  have hlen : ns.length ≤ n := by
    unfold OpenLaw.pre at hc
    have h4 : (WTm.not (.lt (.lit (.int (n : Int))) (.len (.arg 0)))).holds [] { args := [.list (ns.map .int)] } = true := by
      have h4 := (holds_andW hc).1
      rw [hn] at h4
      exact h4
    have h5 := condW_of h4 (w_not (w_lt w_lit (w_len_list (w_arg rfl))))
    rw [List.length_map] at h5
    refine Nat.le_of_not_lt fun q => ?_
    have q' : (n : Int) < ((ns.length : Nat) : Int) := by omega
    first
      | (rw [decide_eq_true q'] at h5; exact absurd h5 (by decide))
      | (simp at h5; omega)
  cases hwl with
  | cons w1 w2 =>
    cases w2
    cases w1 with
    | list ho hall => exact ⟨_, _, ns, rfl, rfl, ho, ints_of_wellAll ns _ hall, hlen⟩

theorem post_true (l : OpenLaw) (args : List WData) : l.row.toRowW.claim.post args (.bool true) args = true :=
  postW_of (r := l.row.toRowW) (X := (true == true))
    (show WShape.has [] (.bool true) .bool = true by first | rfl | decide | simp [WShape.has, WShape.arms, WShape.armsAll])
    (show (WTm.eq .res (.lit (.bool true))).value [] { args := args, res := some (.bool true), after := args } = some (.bool (true == true)) from w_eq_bool (w_res rfl) w_lit) rfl

/-! ### the attachment: holds_open's last premise (the goal 'hc' behind k_head) from a wpAny of the law's body -/

/-- the same from a codeAny of the CALL (for a layer whose function contracts speak of calls) -/
theorem attach_call {l : OpenLaw} {n : Nat} {q : Program} {loose : List Str} {XP : (Str → Option Value) → Heap → Prop} {YP : World → Heap → Prop} {d : DefRec}
    (hn : l.most = some n) (hdf : d.params.defaults = [])
    (call : ∀ (w : World) (s₀ s₁ : Shared) (mg mb : Str → Option Value) (fa : Addr) (o : Obj) (pm cd doc : Value) (a : Addr) (vs : List Value) (ns : List Int),
      Ground q loose [] XP w s₀ mg mb s₁.heap → YP w s₁.heap →
      s₁.heap.get? fa = some o → o.data = .func (docDef d.name d.params d.body d.scope pm cd doc) → s₁.heap.CodeRec cd d.name → mg d.name = some (.ref fa) →
      s₁.heap.get? a = some { cls := .type "list", data := .seq vs.toArray } → IntsAre vs ns → ns.length ≤ n → s₁.gens = #[] →
      codeAny (model l.prog w) callerA (.call (.ref fa) ⟨[.ref a], []⟩) (fun r s' => r = .ok (.ret (.bool true)) ∧ OldK s₁.heap s'.heap ∧ s'.os = s₁.os ∧ AllBare s'.gens) s₁) :
    WalkO q loose XP YP l.row.toRowW d [] (fun f vs => PySem.call f vs) := by
  intro w s₀ s₁ mg mb G Y fa o pm cd doc dV kV ho hd hcd hD hmg hg args vals as hpre hlay hrd hwl hlo
  obtain rfl : dV = .none := Dflts.none hD hdf
  obtain rfl : kV = .none := Dflts.noKw hD
  obtain ⟨a, vs, ns, rfl, rfl, hobj, hints, hlen⟩ := script_of hn hpre hwl
  refine enter_call (codeAny_mono (call w s₀ s₁ mg mb fa o pm cd doc a vs ns G Y ho (fd_plain hd) hcd hmg hobj hints hlen hg) fun r s' hq => ?_)
  obtain ⟨rfl, h2, h3, h4⟩ := hq
  exact ⟨.inl ⟨.bool true, .bool true, [], rfl, fun _ => rfl, .bool true, post_true l _, fun _ => ⟨List.Pairwise.nil, fun _ hm => (nomatch hm)⟩⟩, h2, h3, h4⟩


/-! ### rules over ANY heap (no ledger) from facts about the written part K: the library's own take a ledger (News) for what they write -/
section
variable {prog : Program} {w : World} {A : Around} {E : Value → Shared → Prop} {s : Shared} {K : Frag}





/-! the whole heap as the ledger: makes every rule that writes through a ledger a rule over any heap -/

end
end Att

namespace L2
open PySem PySem.Spec PyProof.Rows

theorem vals_ints : ∀ {vs : List Value} {ns : List Int}, IntsAre vs ns → Vals (ns.map V.int) vs
  | _, _, .nil => .nil
  | _, _, .cons n t h => .cons ⟨t, rfl⟩ (vals_ints h)


end L2

namespace L2
open PySem PySem.Spec PyProof.Rows


end L2

/- THE LAST THEOREM (shape; LID, My.* are yours):
   My.Adr: a structure of the addresses that your layer names (classes, functions); My.Txt K t: a structure (Prop) of the equations over K;
   My.txt_mk : {K} {implicit addresses ..} (e1 : nsIn K mainGlobals "law" = some (some (.ref f))) (e2 : K.lookup f = some ⟨oc, od, .func (fnOf "law" "law" params body scope dV kV doc pm an cdv ct), sl⟩) (e3 : codeIn K cdv "law" = true) .. : ∃ t, My.Txt K t

set_option maxRecDepth 100000 in
set_option maxHeartbeats 0 in
theorem PySem.Challenge.cw_LID_holds : PySem.Challenge.rw_LID.Holds := by
  w_on; o_law; k_head; (case hw => w_witness2)
  k_fill
  refine L2.walk_of (l := PySem.Challenge.rw_LID) (n := 63) (k := 40) (x := "script") (CX := fun w => ..) (sp := fun _ => My.sp_law) rfl (by decide) rfl ⟨rfl, by decide, by decide⟩ (fun w h Y => PySem.W.kIn_of Y) ?F ?S ?C
  case F =>
    intro w mg fa h KX G hmg
    have T : ∃ t, My.Txt (L2.KOf KX) t := by
      dsimp only [L2.KOf]                          -- K must stand as «<heap const> w.params» for k_is
      refine' My.txt_mk ?e1 ?e2 ?e3 ..
      (case e1 => PySem.W.k_is)                    -- in the order: a name -> its address -> its object -> its parts
      (case e2 => PySem.W.k_is)
      ..
    obtain ⟨t, T⟩ := T
    have e0 := hmg.symm.trans (PySem.W.mg_of KX G T.law)
    cases e0                                       -- fa is the law's own address
    exact ⟨_, fun s u => .of_eq rfl, fun base kb nb => My.law_fn T kb nb⟩     -- if «.of_eq rfl» comes too early: refine' ⟨_, ?b, fun base kb nb => My.law_fn T kb nb⟩; exact fun s u => .of_eq rfl
  case S => exact fun w H a ns hl hO hS => ..
  case C => exact ..
(the tactic k_is has no namespace: write k_is) -/

/-! SHORT WORDS over the layer: a def of the text, its body, what a loop and a test want. -/
namespace L2
open PySem PySem.Spec PyProof.Rows

/-! ### the text by places -/
def defArgs (s : Stmt) : Arguments := match s with
  | .FunctionDef _ a _ _ _ _ _ _ _ _ => a
  | _ => { posonlyargs := [], args := [], vararg := none, kwonlyargs := [], kw_defaults := [], kwarg := none, defaults := [] }
def defBody (s : Stmt) : List Stmt := match s with
  | .FunctionDef _ _ b _ _ _ _ _ _ _ => b
  | _ => []
def defScope (s : Stmt) : Scope := match s with
  | .FunctionDef _ _ _ _ _ _ sc _ _ _ => sc
  | _ => { kind := .function, names := [], isGenerator := false, isCoroutine := false }

/-! ### no exception leaves a def -/
abbrev CX0 : CXT := fun _ _ _ _ _ _ => False
abbrev E0 : XK := fun _ _ _ => False
theorem pass0 {X : Cx} : Passes CX0 X E0 := fun _ _ _ _ _ _ _ h => h.elim

/-! ### a def (or method) of the text as it stands behind the top -/
structure Fun (K : PySem.W.Frag) (x qual : Str) (st : Stmt) (f : Addr) (fd : FuncData) : Prop where
  ex : ∃ (oc : Value) (od : Option Addr) (kV doc pm : Value) (an : Option Addr) (cdv ct : Value) (osl : Array (Option Value)),
    fd = PySem.W.fnOf x qual (defArgs st) (defBody st) (defScope st) .none kV doc pm an cdv ct ∧ K.lookup f = some ⟨oc, od, .func fd, osl⟩ ∧ PySem.W.codeIn K cdv qual = true
  kp : PySem.W.keepIn K (.ref f) = true
section
variable {P : Program} {w : World} {K : PySem.W.Frag} {mg : Str → Option Value} {base : Heap}
/-- THE RULE for a def: its body as a term of rules, and the reading of that term -/
theorem Fun.ok {x qual : Str} {st : Stmt} {f : Addr} {fd : FuncData} {N ps : List Str} {k : Nat} {sp : Sp} (F : Fun K x qual st f fd) (S : FnScope N ps (defScope st)) (len : ∀ vs H Q E, sp vs H Q E → vs.length = ps.length)
    (hbody : ∀ (cdv : Value) (A : Around) (outer : List Env) (s : Shared) (H : Hp) (vs : List V) (Q : VK) (E : XK), Room k (A.deeper (envOfC qual (defScope st) s.heap.objs.size f cdv)) → sp vs H Q E →
      ∃ t, PSs (cxOf CX0 P w K mg base N qual (defScope st) f cdv A outer s H E).nox (defBody st) t ∧ t { nx := fun _ H' => Q .non H', rt := Q } (start N vs) H) : FnOk P w K mg base CX0 (k + 1) f fd ps sp := by
  obtain ⟨oc, od, kV, doc, pm, an, cdv, ct, osl, rfl, lk, hcd⟩ := F.ex
  refine fn_of lk hcd S len fun A outer s H vs Q E hr hsp => ?_
  obtain ⟨t, h, q⟩ := hbody cdv A outer s H vs Q E hr hsp
  exact ⟨t, h.nox, q⟩
/-- how its arguments bind (no defaults): h is «fun _ _ _ _ _ _ us hl => match us, hl with | [_, _], _ => rfl», one _ a parameter -/
theorem Fun.binds {x qual : Str} {st : Stmt} {f : Addr} {fd : FuncData} {ps : List Str} (F : Fun K x qual st f fd)
    (h : ∀ (kV doc pm : Value) (an : Option Addr) (cdv ct : Value) (us : List Value), us.length = ps.length → bindArgs (PySem.W.fnOf x qual (defArgs st) (defBody st) (defScope st) .none kV doc pm an cdv ct) ⟨us, []⟩ = pure (ps.zip us)) : Binds K fd ps [] := by
  obtain ⟨oc, od, kV, doc, pm, an, cdv, ct, osl, rfl, lk, hcd⟩ := F.ex
  exact .all (h kV doc pm an cdv ct)
theorem fun_mk {x qual : Str} {st : Stmt} {f : Addr} {oc : Value} {od an : Option Addr} {osl : Array (Option Value)} {kV doc pm cdv ct : Value} (l : K.lookup f = some ⟨oc, od, .func (PySem.W.fnOf x qual (defArgs st) (defBody st) (defScope st) .none kV doc pm an cdv ct), osl⟩)
    (c : PySem.W.codeIn K cdv qual = true) (k : PySem.W.keepIn K (.ref f) = true) : Fun K x qual st f (PySem.W.fnOf x qual (defArgs st) (defBody st) (defScope st) .none kV doc pm an cdv ct) := ⟨⟨oc, od, kV, doc, pm, an, cdv, ct, osl, rfl, l, c⟩, k⟩
end

/-! ### expressions in short: the name that stands in the i-th slot -/
section
variable {X : Cx}
theorem pv (i : Nat) {x : Str} {pos : Pos} (hN : X.N[i]? = some x := by rfl) (hv : Vis X.env.scope x := by first | exact Or.inl rfl | exact Or.inr (Or.inl rfl) | exact Or.inr (Or.inr rfl)) (hd : (x == ("__debug__" : Str)) = false := by decide)
    (hcd : (x == ("__classdict__" : Str)) = false := by decide) : PE X (.Name x pos) (tVar i) := pe_var hN hv hd hcd
end

/-! ### tests -/

/-! ### heaps -/

/-! ### a dict's pairs: keys that differ -/
section
variable {κ : Type} [DecidableEq κ]
end
/-! ### lists -/
end L2

set_option linter.all false
namespace ST
open PySem PySem.SetTable

/-! ### the way of a probe -/


/-! ### which masks -/
end ST

set_option linter.all false
namespace ST
open PySem PySem.SetTable

/-! ### rising arrays -/
abbrev Ris (xs : List Nat) : Prop := xs.Pairwise (· < ·)

/-! ### slots -/
section
variable {t : SetTable} (rp : Ris t.place.toList) (rd : Ris t.dummies.toList)
include rp rd
end

end ST

set_option linter.all false
namespace ST
open PySem PySem.SetTable


/-! ### a table laid anew -/
end ST

set_option linter.all false
namespace ST
open PySem PySem.SetTable

/-! ### loads -/
end ST

set_option linter.all false
set_option maxRecDepth 100000
namespace SE
open PySem PySem.Spec PyProof.Rows

/-! ### data that may be an element or a key: whole numbers, texts, tuples of these -/

section
variable {P : PyData → Prop} (hi : ∀ i, P (.int i)) (hs : ∀ x, P (.str x)) (ht : ∀ xs, (∀ x ∈ xs, P x) → P (.tuple xs)) (hn : P .none) (hbl : ∀ b, P (.bool b)) (hl : ∀ xs, P (.list xs)) (hd : ∀ k, P (.dict k))
include hi hs ht hn hbl hl hd
end
section
variable (prog : Program) (w : World)
end
section
variable {prog : Program} {w : World}
end
end SE

set_option linter.all false
set_option maxRecDepth 100000
namespace SE
open PySem PySem.Spec PyProof.Rows ST

/-! ### a heap that keeps its tuples -/
def TupsK (h h' : Heap) : Prop := ∀ b o, h.get? b = some o → o.cls = .type "tuple" → h'.get? b = some o
theorem TupsK.of {h h' : Heap} (k : ∀ b o, h.get? b = some o → h'.get? b = some o) : TupsK h h' := fun b o e _ => k b o e

/-! ### elements: tuples -/

section
variable {prog : Program} {w : World} {A : Around} {E : Value → Shared → Prop} {s : Shared}


end
end SE

set_option linter.all false
set_option maxRecDepth 100000
namespace SE
open PySem PySem.Spec PyProof.Rows ST

theorem paired_perm {α β : Type} {R : α → β → Prop} {l1 l1' : List α} (p : l1'.Perm l1) : ∀ {l2 : List β}, Paired R l1 l2 → ∃ l2', l2'.Perm l2 ∧ Paired R l1' l2' := by
  induction p with
  | nil => intro l2 h; cases h; exact ⟨[], .nil, .nil⟩
  | cons x _ ih =>
    intro l2 h
    cases h with
    | cons a b =>
      obtain ⟨m, h1, h2⟩ := ih b
      exact ⟨_ :: m, h1.cons _, .cons a h2⟩
  | swap x y l =>
    intro l2 h
    cases h with
    | cons a b =>
      cases b with
      | cons b c => exact ⟨_, .swap _ _ _, .cons b (.cons a c)⟩
  | trans _ _ ih1 ih2 =>
    intro l2 h
    obtain ⟨m, h1, h2⟩ := ih2 h
    obtain ⟨m', h3, h4⟩ := ih1 h2
    exact ⟨m', h3.trans h1, h4⟩
section
variable {prog : Program} {w : World} {A : Around} {E : Value → Shared → Prop} {s : Shared}
end
end SE

set_option linter.all false
set_option maxRecDepth 100000
namespace SE
open PySem PySem.Spec PyProof.Rows ST
section
variable {prog : Program} {w : World} {A : Around} {E : Value → Shared → Prop} {s : Shared}
end
end SE

set_option linter.all false
set_option maxRecDepth 100000
namespace SE
open PySem PySem.Spec PyProof.Rows ST
section
variable {prog : Program} {w : World} {A : Around} {E : Value → Shared → Prop} {s : Shared}
section
variable {R : Result → Shared → Prop} {I : Addr} {fp wr : List Addr} {G : Array GenState → Array GenState → Prop} {n : Nat} {P : Nat → Value → Prop} {St : Nat → Shared → Prop}
end
end
end SE

set_option linter.all false
set_option maxRecDepth 100000
namespace SE
open PySem PySem.Spec PyProof.Rows ST
section
variable {prog : Program} {w : World} {A : Around} {E : Value → Shared → Prop} {s : Shared}
set_option maxHeartbeats 3200000 in
end
end SE

set_option linter.all false
set_option maxRecDepth 100000
namespace SE
open PySem PySem.Spec PyProof.Rows ST
section
variable {prog : Program} {w : World} {A : Around} {E : Value → Shared → Prop} {s : Shared}
set_option maxHeartbeats 3200000 in
end
end SE

set_option linter.all false
set_option maxRecDepth 100000
namespace SK
open PySem PySem.W PyProof.Rows
/-! ### the sort's questions, answered by one order -/
structure Ord (lt : Nat → Nat → Bool) : Prop where
  irr : ∀ a, lt a a = false
  tr : ∀ a b c, lt a b = true → lt b c = true → lt a c = true
  nt : ∀ a b c, lt a c = true → lt a b = true ∨ lt b c = true
section
variable {lt : Nat → Nat → Bool} (O : Ord lt)
include O
end
section
variable {lt : Nat → Nat → Bool} (O : Ord lt) {N : Nat} (hN : 0 < N) {cmp : Nat → Nat → (Bool → Shared → Prop) → Shared → Prop} {s : Shared} (hc : ∀ i j C, i < N → j < N → C (lt i j) s → cmp i j C s)
include O hN hc
end
end SK

set_option linter.all false
set_option maxRecDepth 100000
namespace SE
open PySem PySem.Spec PyProof.Rows ST
/-! ### the walk over a set -/
section
variable {prog : Program} {w : World} {A : Around} {E : Value → Shared → Prop} {s : Shared}
end
end SE

set_option linter.all false
set_option maxRecDepth 100000
namespace SE
open PySem PySem.Spec PyProof.Rows ST
section
variable {prog : Program} {w : World} {A : Around} {E : Value → Shared → Prop} {s : Shared}
end
end SE

set_option linter.all false
set_option maxRecDepth 100000
namespace SE
open PySem PySem.Spec PyProof.Rows ST
section
variable {prog : Program} {w : World} {A : Around} {E : Value → Shared → Prop} {s : Shared}
end
end SE

set_option linter.all false
set_option maxRecDepth 100000
namespace SE
open PySem PySem.Spec PyProof.Rows ST
section
variable {prog : Program} {w : World} {A : Around} {E : Value → Shared → Prop} {s : Shared}
end
end SE

set_option linter.all false
set_option maxRecDepth 100000
namespace SE
open PySem PySem.Spec PyProof.Rows ST
section
variable {prog : Program} {w : World} {A : Around} {E : Value → Shared → Prop} {s : Shared}
end
end SE

set_option linter.all false
set_option maxRecDepth 100000
namespace SE
open PySem PySem.Spec PyProof.Rows ST SK PySem.W
/-! ### flat tuples: one whole number at least, whole numbers alone -/
theorem lex_irr : ∀ a, HT.lexLt a a = false
  | [] => rfl
  | x :: xs => by rw [HT.lexLt_cons, if_pos rfl]; exact lex_irr xs
theorem lex_tr : ∀ a b c, HT.lexLt a b = true → HT.lexLt b c = true → HT.lexLt a c = true
  | _, [], [], _, h => by simp [HT.lexLt] at h
  | [], _ :: _, _ :: _, _, _ => rfl
  | [], _ :: _, [], _, h => by simp [HT.lexLt] at h
  | _ :: _, [], _ :: _, h, _ => by simp [HT.lexLt] at h
  | [], [], _ :: _, h, _ => rfl
  | _ :: _, _ :: _, [], _, h => by simp [HT.lexLt] at h
  | x :: xs, y :: ys, z :: zs, h1, h2 => by
    rw [HT.lexLt_cons] at h1 h2 ⊢
    by_cases e1 : x = y
    · subst e1
      rw [if_pos rfl] at h1
      by_cases e2 : x = z
      · subst e2
        rw [if_pos rfl] at h2 ⊢
        exact lex_tr xs ys zs h1 h2
      · rw [if_neg e2] at h2 ⊢; exact h2
    · rw [if_neg e1] at h1
      have l1 := of_decide_eq_true h1
      by_cases e2 : y = z
      · subst e2
        rw [if_neg e1]; exact h1
      · rw [if_neg e2] at h2
        have l2 := of_decide_eq_true h2
        rw [if_neg (by omega)]
        exact decide_eq_true (by omega)
theorem lex_total : ∀ a b, HT.lexLt a b = false → HT.lexLt b a = false → a = b
  | [], [], _, _ => rfl
  | [], _ :: _, h, _ => by simp [HT.lexLt] at h
  | _ :: _, [], _, h => by simp [HT.lexLt] at h
  | x :: xs, y :: ys, h1, h2 => by
    rw [HT.lexLt_cons] at h1 h2
    by_cases e : x = y
    · subst e
      rw [if_pos rfl] at h1 h2
      rw [lex_total xs ys h1 h2]
    · rw [if_neg e] at h1
      rw [if_neg (fun z => e z.symm)] at h2
      have := of_decide_eq_false h1
      have := of_decide_eq_false h2
      omega
section
variable {prog : Program} {w : World} {A : Around} {E : Value → Shared → Prop} {s : Shared}
end
end SE

set_option linter.all false
set_option maxRecDepth 100000
namespace L2
open PySem PySem.Spec PyProof.Rows ST SE
/-! ### sets of flat tuples, by the layer's heap -/
section
variable {X : Cx} {pins : List (Addr × Obj)} {σ : St} {H : Hp} {s : Shared}
theorem Vals.refs : ∀ {as : List Addr} {us : List Value}, Vals (as.map V.ref) us → us = as.map Value.ref
  | [], _, r => by cases r; rfl
  | a :: as, _, r => by
    rw [List.map_cons] at r
    cases r with
    | cons r1 r2 =>
      cases r1
      rw [Vals.refs r2]; rfl
end
end L2

set_option linter.all false
set_option maxRecDepth 100000
/-! # Data: a reading of defs as functions of plain data -/
namespace DL
open PySem PySem.Spec L2
abbrev D := PyData
/-- what an expression is worth: data; a list just made that nobody else holds; a list that is kept by place -/
inductive DV where
  | dat (d : D)
  | lst (ds : List D)
  | box (k : Nat)
  /-- a dict just made that nobody else holds; a dict that is kept by place: its entries, pairs; b: its keys are webs, else whole numbers -/
  | dct (b : Bool) (ds : List D)
  | dbx (b : Bool) (k : Nat)
  /-- a dict that nobody changes -/
  | dcd (b : Bool) (ds : List D)
abbrev Bxs := List (List D)
abbrev DEnv := List (Option DV)
/-- a key that is a web: its number, its pairs -/
abbrev WK := Int × List (List Int)
def wD (k : WK) : D := .tuple [.int k.1, .tuple (k.2.map fun t => .tuple (t.map .int))]
def wkH (k : WK) : Int := reduceHash (Builtin.Tuple.tupleHashOf [hashInt k.1, reduceHash (Builtin.Tuple.tupleHashOf (k.2.map fun t => reduceHash (Builtin.Tuple.tupleHashOf (t.map hashInt))))])
/-- a dict whose keys are such tuples: what its one object holds -/
def DicO (a : Addr) (xs : List (WK × Addr × Value)) : HO := HO.ext fun h => ∃ o es ep, h.get? a = some o ∧ o.ExactDict ∧ o.data = .dict es ep ∧ es.toList = xs.map (fun x => (⟨wkH x.1, .ref x.2.1, x.2.2⟩ : DictEntry)) ∧ (xs.map (·.1)).Nodup
/-- what sort of object stands there -/
def kd : HO → Nat
  | .lst _ => 0
  | .dK _ => 1
  | .ext _ => 2
  | _ => 3
/-- a code object's table -/
def isTb : HO → Bool
  | .tbl _ => true
  | _ => false
theorem tb_kd {o : HO} (h : kd o ≤ 2) : isTb o = false := by
  cases o with
  | tbl ps => simp [kd] at h
  | _ => rfl
def CodeF (ob : Obj) (q : Str) : Prop := ∃ vs t, ob.data = .fields vs ∧ vs[1]? = some (.str q t)
/-- the table of a def in which lambdas stand: each code in it is known -/
def TabR (P : Addr) (q : Str) (H : Hp) : Prop := ∃ ps, H P = some (.tbl ps) ∧ TriplesOk ps.toList ∧ ∀ pos cv, codeAmong pos ps.toList = some cv → ∃ c' ob u, cv = .ref c' ∧ H c' = some (.frz ob u) ∧ CodeF ob q
theorem TabR.upd {P : Addr} {q : Str} {H : Hp} (T : TabR P q H) {a : Addr} {o : HO} (h : ∀ u, H a = some u → kd u ≤ 2) : TabR P q (upd H a o) := by
  obtain ⟨ps, h1, h2, h3⟩ := T
  refine ⟨ps, ?_, h2, fun pos cv e => ?_⟩
  · rw [upd_ne]
    · exact h1
    · intro z; subst z
      have := h _ h1
      simp [kd] at this
  · obtain ⟨c', ob, u, e1, e2, e3⟩ := h3 pos cv e
    refine ⟨c', ob, u, e1, ?_, e3⟩
    rw [upd_ne]
    · exact e2
    · intro z; subst z
      have := h _ e2
      simp [kd] at this
/-- the tables that are told: marks behind the written part -/
def mkTab (P : Addr) (q : Str) : Obj := { cls := .str q 0, dict := some P, data := .plain }
def tabOf : Addr × Obj → Option (Addr × Str)
  | (_, { cls := .str q _, dict := some P, .. }) => some (P, q)
  | _ => none
def tabsOf (K : PySem.W.Frag) : List (Addr × Str) := (K.reverse.takeWhile fun p => (tabOf p).isSome).filterMap tabOf
def TabAt (K : PySem.W.Frag) (P : Addr) (q : Str) : Prop := (P, q) ∈ tabsOf K
abbrev IsL (H : Hp) (a : Addr) : Prop := ∃ xs, H a = some (.lst xs)
abbrev IsDc (b : Bool) (H : Hp) (a : Addr) : Prop := ∃ o, H a = some o ∧ kd o = (if b = true then 2 else 1)
variable (K : PySem.W.Frag)
/-- a list that is none of the kept ones, or one of the module's own -/
def SqN (ρ : List Addr) (H : Hp) (a : Addr) (xs : List V) : Prop := (a ∉ ρ ∧ Rd H a (.lst xs)) ∨
  ∃ (o : Obj) (its : Array Value) (n : Nat), K.lookup a = some o ∧ o.cls = .type "list" ∧ o.dict = none ∧ o.data = .seq its n ∧ its.size ≤ sizeLine ∧ Vals xs its.toList
mutual
inductive Rp (ρ : List Addr) (H : Hp) : V → D → Prop
  | non : Rp ρ H .non .none
  | bl (b : Bool) : Rp ρ H (.bl b) (.bool b)
  | int (i : Int) : Rp ρ H (.int i) (.int i)
  | str (x : Str) : Rp ρ H (.str x) (.str x)
  | lst {a : Addr} {xs : List V} {ds : List D} : SqN K ρ H a xs → RpA ρ H xs ds → Rp ρ H (.ref a) (.list ds)
  | tup {a : Addr} {xs : List V} {ds : List D} : SqT K H a xs → RpA ρ H xs ds → Rp ρ H (.ref a) (.tuple ds)
  | dct {a : Addr} {l : List (Key × V)} : a ∉ ρ → H a = some (.dK l) → Rp ρ H (.ref a) (.dict (l.map fun _ => (.none, .none)))
inductive RpA (ρ : List Addr) (H : Hp) : List V → List D → Prop
  | nil : RpA ρ H [] []
  | cons {v : V} {vs : List V} {d : D} {ds : List D} : Rp ρ H v d → RpA ρ H vs ds → RpA ρ H (v :: vs) (d :: ds)
end
/-- a dict's entries -/
inductive RpE (ρ : List Addr) (H : Hp) : List (V × V) → List D → Prop
  | nil : RpE ρ H [] []
  | cons {v u : V} {vs : List (V × V)} {k e : D} {ds : List D} : Rp K ρ H v k → Rp K ρ H u e → RpE ρ H vs ds → RpE ρ H ((v, u) :: vs) (.tuple [k, e] :: ds)
/-- a dict's object -/
inductive DcAt (ρ : List Addr) (H : Hp) (a : Addr) : Bool → List D → Prop
  | k {l : List (Key × V)} {ds : List D} : H a = some (.dK l) → RpE K ρ H (l.map fun p => (kV p.1, p.2)) ds → DcAt ρ H a false ds
  | w {xs : List (WK × Addr × Value)} {vs : List V} {ds : List D} : H a = some (DicO a xs) → Vals vs (xs.map (·.2.2)) → xs.length ≤ sizeLine → (a == sysModules) = false → RpE K ρ H ((xs.map fun x => V.ref x.2.1).zip vs) ds →
      (∀ (i : Nat) (x : WK × Addr × Value) (d : D), xs[i]? = some x → ds[i]? = some d → ∃ e, d = .tuple [wD x.1, e]) → DcAt ρ H a true ds
/-- the kept lists and dicts -/
structure StOk (ρ : List Addr) (H : Hp) (S : Bxs) : Prop where
  len : ρ.length = S.length
  nd : ρ.Nodup
  at0 : ∀ (k : Nat) (a : Addr), ρ[k]? = some a → ∃ (ds : List D), S[k]? = some ds ∧ ((∃ xs, H a = some (.lst xs) ∧ RpA K ρ H xs ds) ∨ ∃ b, DcAt K ρ H a b ds)
  tb : ∀ P q, TabAt K P q → TabR P q H
/-- the heap goes on: all but the kept lists stays; what is kept more was not there -/
structure Ext (K : PySem.W.Frag) (ρ : List Addr) (H : Hp) (ρ' : List Addr) (H' : Hp) : Prop where
  pre : ∃ more, ρ' = ρ ++ more
  keep : ∀ a o, H a = some o → a ∉ ρ → isTb o = false → H' a = some o
  box : ∀ a o, H a = some o → a ∈ ρ → ∃ o', H' a = some o' ∧ kd o' = kd o
  new : ∀ a, a ∈ ρ' → a ∈ ρ ∨ H a = none
  tab : ∀ a ps, H a = some (.tbl ps) → ∃ ps', H' a = some (.tbl ps')
  tabr : ∀ P q, TabAt K P q → TabR P q H → TabR P q H'
variable {K}
theorem Ext.ever {ρ ρ' : List Addr} {H H' : Hp} (x : Ext K ρ H ρ' H') {a : Addr} {o : HO} (e : H a = some o) : ∃ o', H' a = some o' := by
  by_cases q : a ∈ ρ
  · obtain ⟨o', e', _⟩ := x.box a o e q
    exact ⟨o', e'⟩
  · cases t : isTb o with
    | false => exact ⟨o, x.keep a o e q t⟩
    | true =>
      cases o with
      | tbl ps => obtain ⟨ps', e'⟩ := x.tab a ps e; exact ⟨_, e'⟩
      | _ => cases t
theorem isL_of {H : Hp} {a : Addr} {o : HO} (e : H a = some o) (h : kd o = 0) : IsL H a := by
  cases o with
  | lst xs => exact ⟨xs, e⟩
  | _ => cases h
theorem StOk.at' {ρ : List Addr} {H : Hp} {S : Bxs} (st : StOk K ρ H S) (k : Nat) (a : Addr) (h : ρ[k]? = some a) (hl : IsL H a) : ∃ (xs : List V) (ds : List D), S[k]? = some ds ∧ H a = some (.lst xs) ∧ RpA K ρ H xs ds := by
  obtain ⟨ds, h1, h2⟩ := st.at0 k a h
  rcases h2 with ⟨xs, h2, h3⟩ | h2
  · exact ⟨xs, ds, h1, h2, h3⟩
  · obtain ⟨ys, hl⟩ := hl
    obtain ⟨b, h2⟩ := h2
    cases h2 with
    | k e _ => rw [hl] at e; cases e
    | w e _ _ _ _ _ => rw [hl] at e; cases e
theorem DcAt.isD {ρ : List Addr} {H : Hp} {a : Addr} {b : Bool} {ds : List D} (h : DcAt K ρ H a b ds) : IsDc b H a := by
  cases h with
  | k e _ => exact ⟨_, e, rfl⟩
  | w e _ _ _ _ _ => exact ⟨_, e, rfl⟩
theorem StOk.atD {ρ : List Addr} {H : Hp} {S : Bxs} (st : StOk K ρ H S) (k : Nat) (a : Addr) {b : Bool} (h : ρ[k]? = some a) (hd : IsDc b H a) : ∃ ds : List D, S[k]? = some ds ∧ DcAt K ρ H a b ds := by
  obtain ⟨ds, h1, h2⟩ := st.at0 k a h
  rcases h2 with ⟨xs, h2, h3⟩ | h2
  · obtain ⟨o, e, hk⟩ := hd
    rw [h2] at e; cases e
    cases b <;> cases hk
  · obtain ⟨c, h2⟩ := h2
    obtain ⟨o, e, hk⟩ := hd
    obtain ⟨o', e', hk'⟩ := h2.isD
    rw [e] at e'; cases e'
    rw [hk] at hk'
    have : b = c := by cases b <;> cases c <;> first | rfl | (simp at hk')
    subst this
    exact ⟨ds, h1, h2⟩
theorem SqN.sqL {ρ : List Addr} {H : Hp} {a : Addr} {xs : List V} (h : SqN K ρ H a xs) : SqL K H a xs := h.elim (fun q => .inl q.2) .inr
theorem Ext.refl (ρ : List Addr) (H : Hp) : Ext K ρ H ρ H := ⟨⟨[], by simp⟩, fun _ _ e _ _ => e, fun _ o e _ => ⟨o, e, rfl⟩, fun _ h => .inl h, fun _ ps e => ⟨ps, e⟩, fun _ _ _ t => t⟩
theorem Ext.trans {ρ ρ1 ρ2 : List Addr} {H H1 H2 : Hp} (x : Ext K ρ H ρ1 H1) (y : Ext K ρ1 H1 ρ2 H2) : Ext K ρ H ρ2 H2 where
  pre := by
    obtain ⟨m, e⟩ := x.pre
    obtain ⟨m', e'⟩ := y.pre
    exact ⟨m ++ m', by rw [e', e, List.append_assoc]⟩
  tab := fun a ps e => by
    obtain ⟨ps', e'⟩ := x.tab a ps e
    exact y.tab a ps' e'
  tabr := fun P q a t => y.tabr P q a (x.tabr P q a t)
  keep := fun a o e n t => by
    refine y.keep a o (x.keep a o e n t) (fun h => ?_) t
    rcases x.new a h with z | z
    · exact n z
    · rw [e] at z; cases z
  box := fun a o e h => by
    obtain ⟨o', e', k'⟩ := x.box a o e h
    obtain ⟨m, em⟩ := x.pre
    obtain ⟨o2, e2, k2⟩ := y.box a o' e' (by rw [em]; exact List.mem_append_left _ h)
    exact ⟨o2, e2, k2.trans k'⟩
  new := fun a h => by
    rcases y.new a h with z | z1
    · exact x.new a z
    · by_cases q : a ∈ ρ
      · exact .inl q
      · refine .inr ?_
        cases e : H a with
        | none => rfl
        | some o =>
          obtain ⟨o', e'⟩ := x.ever e
          rw [e'] at z1; cases z1
theorem Ext.free {ρ ρ' : List Addr} {H H' : Hp} (x : Ext K ρ H ρ' H') {p : Addr} (h : H' p = none) : H p = none := by
  cases e : H p with
  | none => rfl
  | some o =>
    obtain ⟨o', e'⟩ := x.ever e
    rw [e'] at h; cases h
theorem Ext.isL {ρ ρ' : List Addr} {H H' : Hp} (x : Ext K ρ H ρ' H') {a : Addr} (h : IsL H a) : IsL H' a := by
  obtain ⟨xs, e⟩ := h
  by_cases q : a ∈ ρ
  · obtain ⟨o', e', k'⟩ := x.box a _ e q
    exact isL_of e' k'
  · exact ⟨xs, x.keep a _ e q rfl⟩
theorem Ext.isD {ρ ρ' : List Addr} {H H' : Hp} (x : Ext K ρ H ρ' H') {a : Addr} {b : Bool} (h : IsDc b H a) : IsDc b H' a := by
  obtain ⟨o, e, hk⟩ := h
  by_cases q : a ∈ ρ
  · obtain ⟨o', e', k'⟩ := x.box a _ e q
    exact ⟨o', e', by rw [k']; exact hk⟩
  · exact ⟨o, x.keep a _ e q (tb_kd (by rw [hk]; cases b <;> decide)), hk⟩
theorem Ext.sqT {ρ ρ' : List Addr} {H H' : Hp} (x : Ext K ρ H ρ' H') (bx : ∀ p ∈ ρ, ∃ o, H p = some o ∧ kd o ≤ 2) {a : Addr} {xs : List V} (h : SqT K H a xs) : SqT K H' a xs := by
  rcases h with (h | ⟨o, h⟩) | h
  · refine .inl (.inl (x.keep a _ h (fun q => ?_) rfl))
    obtain ⟨ys, e, hk⟩ := bx a q
    rw [h] at e; cases e; exact absurd hk (by simp [kd])
  · refine .inl (.inr ⟨o, x.keep a _ h (fun q => ?_) rfl⟩)
    obtain ⟨ys, e, hk⟩ := bx a q
    rw [h] at e; cases e; exact absurd hk (by simp [kd])
  · exact .inr h
theorem Ext.sqN {ρ ρ' : List Addr} {H H' : Hp} (x : Ext K ρ H ρ' H') {a : Addr} {xs : List V} (h : SqN K ρ H a xs) : SqN K ρ' H' a xs := by
  rcases h with ⟨n, h⟩ | h
  · have out : a ∉ ρ' := fun q => by
      rcases x.new a q with z | z
      · exact n z
      · rcases h with h | ⟨o, h⟩
        · rw [z] at h; cases h
        · rw [z] at h; cases h
    refine .inl ⟨out, ?_⟩
    rcases h with h | ⟨o, h⟩
    · exact .inl (x.keep a _ h n rfl)
    · exact .inr ⟨o, x.keep a _ h n rfl⟩
  · exact .inr h
theorem Ext.out {ρ ρ' : List Addr} {H H' : Hp} (x : Ext K ρ H ρ' H') {a : Addr} {o : HO} (n : a ∉ ρ) (h : H a = some o) : a ∉ ρ' := fun q => by
  rcases x.new a q with z | z
  · exact n z
  · rw [z] at h; cases h
abbrev Bx (ρ : List Addr) (H : Hp) : Prop := ∀ p ∈ ρ, ∃ o, H p = some o ∧ kd o ≤ 2
mutual
theorem Rp.keep {ρ ρ' : List Addr} {H H' : Hp} (x : Ext K ρ H ρ' H') (bx : Bx ρ H) : ∀ (d : D) (v : V), Rp K ρ H v d → Rp K ρ' H' v d
  | .none, _, h => by cases h; exact .non
  | .bool b, _, h => by cases h; exact .bl b
  | .int i, _, h => by cases h; exact .int i
  | .str s, _, h => by cases h; exact .str s
  | .list ds, _, h => by
    cases h with
    | lst q r => exact .lst (x.sqN q) (RpA.keep x bx ds _ r)
  | .tuple ds, _, h => by
    cases h with
    | tup q r => exact .tup (x.sqT bx q) (RpA.keep x bx ds _ r)
  | .dict _, _, h => by
    cases h with
    | dct n e => exact .dct (x.out n e) (x.keep _ _ e n rfl)
theorem RpA.keep {ρ ρ' : List Addr} {H H' : Hp} (x : Ext K ρ H ρ' H') (bx : Bx ρ H) : ∀ (ds : List D) (vs : List V), RpA K ρ H vs ds → RpA K ρ' H' vs ds
  | [], _, h => by cases h; exact .nil
  | d :: ds, _, h => by
    cases h with
    | cons a b => exact .cons (Rp.keep x bx d _ a) (RpA.keep x bx ds _ b)
end
theorem StOk.bx {ρ : List Addr} {H : Hp} {S : Bxs} (h : StOk K ρ H S) : Bx ρ H := fun p hp => by
  obtain ⟨k, hk⟩ := List.mem_iff_getElem?.mp hp
  obtain ⟨ds, _, e⟩ := h.at0 k p hk
  rcases e with ⟨xs, e, _⟩ | e
  · exact ⟨_, e, by simp [kd]⟩
  · obtain ⟨b, e⟩ := e
    obtain ⟨o, e, hk⟩ := e.isD
    exact ⟨o, e, by cases b <;> simp at hk <;> omega⟩
theorem RpE.keep {ρ ρ' : List Addr} {H H' : Hp} (x : Ext K ρ H ρ' H') (bx : Bx ρ H) : ∀ {vs : List (V × V)} {ds : List D}, RpE K ρ H vs ds → RpE K ρ' H' vs ds
  | _, _, .nil => .nil
  | _, _, .cons a b c => .cons (Rp.keep x bx _ _ a) (Rp.keep x bx _ _ b) (RpE.keep x bx c)
/-- a dict that stands as it was -/
theorem DcAt.stay {ρ ρ' : List Addr} {H H' : Hp} (x : Ext K ρ H ρ' H') (bx : Bx ρ H) {a : Addr} (e : H' a = H a) {b : Bool} {ds : List D} (h : DcAt K ρ H a b ds) : DcAt K ρ' H' a b ds := by
  cases h with
  | k h1 h2 => exact .k (e.trans h1) (h2.keep x bx)
  | w h1 h2 h3 h4 h5 h6 => exact .w (e.trans h1) h2 h3 h4 (h5.keep x bx) h6
theorem RpA.length {ρ : List Addr} {H : Hp} : ∀ {vs : List V} {ds : List D}, RpA K ρ H vs ds → vs.length = ds.length
  | _, _, .nil => rfl
  | _, _, .cons _ b => by simp [RpA.length b]
theorem RpA.get {ρ : List Addr} {H : Hp} : ∀ {vs : List V} {ds : List D} {i : Nat} {d : D}, RpA K ρ H vs ds → ds[i]? = some d → ∃ v, vs[i]? = some v ∧ Rp K ρ H v d
  | _, _, _, _, .nil, h => by simp at h
  | _, _, 0, _, .cons a _, h => by simp at h; subst h; exact ⟨_, rfl, a⟩
  | _, _, i + 1, _, .cons _ b, h => by
    obtain ⟨v, h1, h2⟩ := RpA.get (i := i) b (by simpa using h)
    exact ⟨v, by simpa using h1, h2⟩
theorem RpA.append {ρ : List Addr} {H : Hp} : ∀ {vs : List V} {ds : List D} {ws : List V} {es : List D}, RpA K ρ H vs ds → RpA K ρ H ws es → RpA K ρ H (vs ++ ws) (ds ++ es)
  | _, _, _, _, .nil, h => h
  | _, _, _, _, .cons a b, h => .cons a (RpA.append b h)
variable (K)
/-- a value as it stands behind an expression that began in H0 -/
inductive RV (ρ : List Addr) (H0 H : Hp) : V → DV → Prop
  | dat {v : V} {d : D} : Rp K ρ H v d → RV ρ H0 H v (.dat d)
  | lst {p : Addr} {xs : List V} {ds : List D} : H0 p = none → H p = some (.lst xs) → p ∉ ρ → RpA K ρ H xs ds → RV ρ H0 H (.ref p) (.lst ds)
  | box {k : Nat} {a : Addr} : ρ[k]? = some a → IsL H a → RV ρ H0 H (.ref a) (.box k)
  | dct {p : Addr} {b : Bool} {ds : List D} : H0 p = none → p ∉ ρ → DcAt K ρ H p b ds → RV ρ H0 H (.ref p) (.dct b ds)
  | dbx {k : Nat} {a : Addr} {b : Bool} : ρ[k]? = some a → IsDc b H a → RV ρ H0 H (.ref a) (.dbx b k)
  | dcd {p : Addr} {b : Bool} {ds : List D} : p ∉ ρ → DcAt K ρ H p b ds → RV ρ H0 H (.ref p) (.dcd b ds)
structure Sim (ρ : List Addr) (ε : DEnv) (S : Bxs) (σ : St) (H : Hp) : Prop where
  st : StOk K ρ H S
  env : ∀ (i : Nat) (dv : DV), ε[i]? = some (some dv) → ∃ v, σ[i]? = some (some v) ∧ RV K ρ H H v dv
  len : ε.length = σ.length
variable {K}
theorem RV.keep {ρ ρ' : List Addr} {H0 H H0' H' : Hp} {v : V} {dv : DV} (h : RV K ρ H0 H v dv) (x : Ext K ρ H ρ' H') (bx : Bx ρ H) (h0 : ∀ p, H0 p = none → H0' p = none) : RV K ρ' H0' H' v dv := by
  cases h with
  | dat r => exact .dat (Rp.keep x bx _ _ r)
  | @lst p xs ds a b n r => exact .lst (h0 p a) (x.keep p _ b n rfl) (x.out n b) (RpA.keep x bx _ _ r)
  | box e hl =>
    obtain ⟨m, em⟩ := x.pre
    refine .box ?_ (x.isL hl)
    rw [em]
    rw [List.getElem?_append_left (List.getElem?_eq_some_iff.mp e).1]
    exact e
  | @dct p b ds a n dc =>
    obtain ⟨o, e, hk⟩ := dc.isD
    exact .dct (h0 p a) (x.out n e) (dc.stay x bx ((x.keep p o e n (tb_kd (by rw [hk]; cases b <;> decide))).trans e.symm))
  | dbx e hl =>
    obtain ⟨m, em⟩ := x.pre
    refine .dbx ?_ (x.isD hl)
    rw [em]
    rw [List.getElem?_append_left (List.getElem?_eq_some_iff.mp e).1]
    exact e
  | @dcd p b ds n dc =>
    obtain ⟨o, e, hk⟩ := dc.isD
    exact .dcd (x.out n e) (dc.stay x bx ((x.keep p o e n (tb_kd (by rw [hk]; cases b <;> decide))).trans e.symm))
theorem Sim.next {ρ ρ' : List Addr} {ε : DEnv} {S S' : Bxs} {σ : St} {H H' : Hp} (M : Sim K ρ ε S σ H) (x : Ext K ρ H ρ' H') (st : StOk K ρ' H' S') : Sim K ρ' ε S' σ H' :=
  ⟨st, fun i dv e => by
    obtain ⟨v, h1, h2⟩ := M.env i dv e
    refine ⟨v, h1, ?_⟩
    cases h2 with
    | dat r => exact .dat (Rp.keep x M.st.bx _ _ r)
    | @lst p xs ds a b n r => rw [a] at b; cases b
    | box e' hl =>
      obtain ⟨m, em⟩ := x.pre
      refine .box ?_ (x.isL hl)
      rw [em, List.getElem?_append_left (List.getElem?_eq_some_iff.mp e').1]
      exact e'
    | @dct p b ds a n dc =>
      obtain ⟨o, e, _⟩ := dc.isD
      rw [a] at e; cases e
    | dbx e' hl =>
      obtain ⟨m, em⟩ := x.pre
      refine .dbx ?_ (x.isD hl)
      rw [em, List.getElem?_append_left (List.getElem?_eq_some_iff.mp e').1]
      exact e'
    | @dcd p b ds n dc =>
      obtain ⟨o, e, hk⟩ := dc.isD
      exact .dcd (x.out n e) (dc.stay x M.st.bx ((x.keep p o e n (tb_kd (by rw [hk]; cases b <;> decide))).trans e.symm)), M.len⟩
/-- a value behind an expression, and the kept lists; a list just made could be kept, too -/
structure Val (K : PySem.W.Frag) (ρ : List Addr) (H0 H : Hp) (S : Bxs) (v : V) (dv : DV) : Prop where
  st : StOk K ρ H S
  rv : RV K ρ H0 H v dv
  ad : (∀ p ds, v = .ref p → dv = .lst ds → StOk K (ρ ++ [p]) H (S ++ [ds])) ∧ ∀ p b ds, v = .ref p → dv = .dct b ds → StOk K (ρ ++ [p]) H (S ++ [ds])
theorem Val.dat {ρ : List Addr} {H0 H : Hp} {S : Bxs} {v : V} {d : D} (st : StOk K ρ H S) (r : Rp K ρ H v d) : Val K ρ H0 H S v (.dat d) := ⟨st, .dat r, ⟨(fun _ _ _ e => nomatch e), (fun _ _ _ _ e => nomatch e)⟩⟩
theorem Val.env {ρ : List Addr} {H : Hp} {S : Bxs} {v : V} {dv : DV} (st : StOk K ρ H S) (r : RV K ρ H H v dv) : Val K ρ H H S v dv := ⟨st, r, ⟨fun p ds e1 e2 => by
  subst e2
  (cases r with
  | lst a b n r => rw [a] at b; cases b), fun p b ds e1 e2 => by
  subst e2
  (cases r with
  | dct a n dc => obtain ⟨o, e, _⟩ := dc.isD; rw [a] at e; cases e)⟩⟩
theorem Val.back {ρ : List Addr} {H0 H H1 : Hp} {S : Bxs} {v : V} {dv : DV} (h : Val K ρ H1 H S v dv) (x : ∀ p, H1 p = none → H0 p = none) : Val K ρ H0 H S v dv := ⟨h.st, by
  cases h.rv with
  | dat r => exact .dat r
  | lst a b n r => exact .lst (x _ a) b n r
  | box e hl => exact .box e hl
  | dct a n dc => exact .dct (x _ a) n dc
  | dbx e hl => exact .dbx e hl
  | dcd n dc => exact .dcd n dc, h.ad⟩
/-! ### the judgement on expressions -/
abbrev FE := DEnv → Bxs → Option (DV × Bxs)
def tD (K : PySem.W.Frag) (f : FE) : TE := fun σ H Q => ∃ ρ ε S dv S', Sim K ρ ε S σ H ∧ f ε S = some (dv, S') ∧ ∀ v H', Val K ρ H H' S' v dv → Ext K ρ H ρ H' → Q v H'
structure DE (X : Cx) (e : Expr) (f : FE) : Prop where
  pe : PE X e (tD X.K f)
theorem PE.imp {X : Cx} {e : Expr} {t t' : TE} (h : PE X e t) (k : ∀ σ H Q, t' σ H Q → t σ H Q) : PE X e t' := by
  intro pins s σ H Q I hq
  exact h pins s σ H Q I (k σ H Q hq)
end DL

set_option linter.all false
set_option maxRecDepth 100000
namespace DL
open PySem PySem.Spec L2
variable {K : PySem.W.Frag}
/-! ### values one beside the other -/
inductive RVs (K : PySem.W.Frag) (ρ : List Addr) (H0 H : Hp) : List V → List DV → Prop
  | nil : RVs K ρ H0 H [] []
  | cons {v : V} {vs : List V} {d : DV} {ds : List DV} : RV K ρ H0 H v d → RVs K ρ H0 H vs ds → RVs K ρ H0 H (v :: vs) (d :: ds)
theorem RV.ext {ρ ρ' : List Addr} {H0 H H' : Hp} {v : V} {dv : DV} (h : RV K ρ H0 H v dv) (x : Ext K ρ H ρ' H') (bx : Bx ρ H) : RV K ρ' H0 H' v dv := h.keep x bx fun _ q => q
theorem RV.back {ρ : List Addr} {H0 H H1 : Hp} {v : V} {dv : DV} (h : RV K ρ H1 H v dv) (x : ∀ p, H1 p = none → H0 p = none) : RV K ρ H0 H v dv := by
  cases h with
  | dat r => exact .dat r
  | lst a b n r => exact .lst (x _ a) b n r
  | box e hl => exact .box e hl
  | dct a n dc => exact .dct (x _ a) n dc
  | dbx e hl => exact .dbx e hl
  | dcd n dc => exact .dcd n dc
theorem RVs.back {ρ : List Addr} {H0 H H1 : Hp} (x : ∀ p, H1 p = none → H0 p = none) : ∀ {vs : List V} {ds : List DV}, RVs K ρ H1 H vs ds → RVs K ρ H0 H vs ds
  | _, _, .nil => .nil
  | _, _, .cons a b => .cons (a.back x) (RVs.back x b)
/-- what stands there now -/
def rd (S : Bxs) : DV → Option D
  | .dat d => some d
  | .lst ds => some (.list ds)
  | .box k => (S[k]?).map .list
  | .dct _ _ => none
  | .dbx _ _ => none
  | .dcd _ _ => none
/-- a sequence: its items -/
def sq (S : Bxs) (v : DV) : Option (List D) := match rd S v with
  | some (.list ds) => some ds
  | some (.tuple ds) => some ds
  | _ => none
section
variable {ρ : List Addr} {S : Bxs} {H0 H : Hp} {v : V} {dv : DV}
theorem rd_int (r : RV K ρ H0 H v dv) {i : Int} (e : rd S dv = some (.int i)) : v = .int i := by
  cases r with
  | dat r => cases e; cases r; rfl
  | lst => cases e
  | dct _ _ _ => cases e
  | dbx _ _ => cases e
  | dcd _ _ => cases e
  | @box k a h hl => obtain ⟨_, _, z⟩ := Option.map_eq_some_iff.mp (show (S[k]?).map PyData.list = some _ from e); cases z
theorem rd_bool (r : RV K ρ H0 H v dv) {b : Bool} (e : rd S dv = some (.bool b)) : v = .bl b := by
  cases r with
  | dat r => cases e; cases r; rfl
  | lst => cases e
  | dct _ _ _ => cases e
  | dbx _ _ => cases e
  | dcd _ _ => cases e
  | @box k a h hl => obtain ⟨_, _, z⟩ := Option.map_eq_some_iff.mp (show (S[k]?).map PyData.list = some _ from e); cases z
theorem rd_str (r : RV K ρ H0 H v dv) {x : Str} (e : rd S dv = some (.str x)) : v = .str x := by
  cases r with
  | dat r => cases e; cases r; rfl
  | lst => cases e
  | dct _ _ _ => cases e
  | dbx _ _ => cases e
  | dcd _ _ => cases e
  | @box k a h hl => obtain ⟨_, _, z⟩ := Option.map_eq_some_iff.mp (show (S[k]?).map PyData.list = some _ from e); cases z
theorem rd_none (r : RV K ρ H0 H v dv) (e : rd S dv = some .none) : v = .non := by
  cases r with
  | dat r => cases e; cases r; rfl
  | lst => cases e
  | dct _ _ _ => cases e
  | dbx _ _ => cases e
  | dcd _ _ => cases e
  | @box k a h hl => obtain ⟨_, _, z⟩ := Option.map_eq_some_iff.mp (show (S[k]?).map PyData.list = some _ from e); cases z
theorem rd_tup (r : RV K ρ H0 H v dv) {ds : List D} (e : rd S dv = some (.tuple ds)) : ∃ a xs, v = .ref a ∧ SqT K H a xs ∧ RpA K ρ H xs ds := by
  cases r with
  | dat r => cases e; cases r with | tup q r => exact ⟨_, _, rfl, q, r⟩
  | lst => cases e
  | dct _ _ _ => cases e
  | dbx _ _ => cases e
  | dcd _ _ => cases e
  | @box k a h hl => obtain ⟨_, _, z⟩ := Option.map_eq_some_iff.mp (show (S[k]?).map PyData.list = some _ from e); cases z
theorem rd_lst (st : StOk K ρ H S) (r : RV K ρ H0 H v dv) {ds : List D} (e : rd S dv = some (.list ds)) : ∃ a xs, v = .ref a ∧ SqL K H a xs ∧ RpA K ρ H xs ds := by
  cases r with
  | dat r => cases e; cases r with | lst q r => exact ⟨_, _, rfl, q.sqL, r⟩
  | lst a b n r => cases e; exact ⟨_, _, rfl, .inl (.inl b), r⟩
  | dct _ _ _ => cases e
  | dbx _ _ => cases e
  | dcd _ _ => cases e
  | @box k a h hl =>
    obtain ⟨xs, ds', e1, e2, e3⟩ := st.at' k a h hl
    have e : (S[k]?).map PyData.list = some _ := e
    rw [e1] at e; cases e
    exact ⟨a, xs, rfl, .inl (.inl e2), e3⟩
theorem sq_ok (st : StOk K ρ H S) (r : RV K ρ H0 H v dv) {ds : List D} (e : sq S dv = some ds) : ∃ a xs, v = .ref a ∧ (SqL K H a xs ∨ SqT K H a xs) ∧ RpA K ρ H xs ds := by
  unfold sq at e
  cases q : rd S dv with
  | none => rw [q] at e; cases e
  | some d =>
    rw [q] at e
    cases d with
    | list ds' =>
      cases e
      obtain ⟨a, xs, h1, h2, h3⟩ := rd_lst st r q
      exact ⟨a, xs, h1, .inl h2, h3⟩
    | tuple ds' =>
      cases e
      obtain ⟨a, xs, h1, h2, h3⟩ := rd_tup r q
      exact ⟨a, xs, h1, .inr h2, h3⟩
    | _ => cases e
end
mutual
theorem Rp.dp {ρ : List Addr} {H : Hp} : ∀ (d : D) (v : V), d.canLay0 = true → Rp K ρ H v d → Dp K H v d
  | .none, _, _, h => by cases h; exact .non
  | .bool b, _, _, h => by cases h; exact .bl b
  | .int i, _, _, h => by cases h; exact .int i
  | .str s, _, _, h => by cases h; exact .str s
  | .list ds, _, c, h => by cases h with | lst q r => exact .lst q.sqL (RpA.dp ds _ (by simpa [PyData.canLay0] using c) r)
  | .tuple ds, _, c, h => by cases h with | tup q r => exact .tup q (RpA.dp ds _ (by simpa [PyData.canLay0] using c) r)
  | .dict _, _, c, h => by simp [PyData.canLay0] at c
theorem RpA.dp {ρ : List Addr} {H : Hp} : ∀ (ds : List D) (vs : List V), PyData.canLayAll0 ds = true → RpA K ρ H vs ds → DpAll K H vs ds
  | [], _, _, h => by cases h; exact .nil
  | d :: ds, _, c, h => by
    have c' : d.canLay0 = true ∧ PyData.canLayAll0 ds = true := by simpa [PyData.canLayAll0] using c
    cases h with | cons a b => exact .cons (Rp.dp d _ c'.1 a) (RpA.dp ds _ c'.2 b)
end
theorem rd_dp {ρ : List Addr} {S : Bxs} {H0 H : Hp} {v : V} {dv : DV} (st : StOk K ρ H S) (r : RV K ρ H0 H v dv) {d : D} (e : rd S dv = some d) (c : d.canLay0 = true) : Dp K H v d := by
  cases r with
  | dat r => cases e; exact Rp.dp _ _ c r
  | lst a b n r => cases e; exact .lst (.inl (.inl b)) (RpA.dp _ _ (by simpa [PyData.canLay0] using c) r)
  | dct _ _ _ => cases e
  | dbx _ _ => cases e
  | dcd _ _ => cases e
  | @box k a h hl =>
    obtain ⟨xs, ds', e1, e2, e3⟩ := st.at' k a h hl
    have e : (S[k]?).map PyData.list = some _ := e
    rw [e1] at e; cases e
    exact .lst (.inl (.inl e2)) (RpA.dp _ _ (by simpa [PyData.canLay0] using c) e3)
/-! ### an operation on values, on data -/
def Op2 (K : PySem.W.Frag) (r : R2) (g : Bxs → DV → DV → Option DV) : Prop :=
  ∀ (ρ : List Addr) (S : Bxs) (H0 H : Hp) (v u : V) (x y dv : DV) (Q : VK), StOk K ρ H S → (∀ p, H p = none → H0 p = none) → RV K ρ H0 H v x → RV K ρ H0 H u y → g S x y = some dv →
    (∀ w H', Val K ρ H0 H' S w dv → Ext K ρ H ρ H' → Q w H') → r v u H Q
def Op1 (K : PySem.W.Frag) (r : V → Hp → VK → Prop) (g : Bxs → DV → Option DV) : Prop :=
  ∀ (ρ : List Addr) (S : Bxs) (H0 H : Hp) (v : V) (x dv : DV) (Q : VK), StOk K ρ H S → (∀ p, H p = none → H0 p = none) → RV K ρ H0 H v x → g S x = some dv →
    (∀ w H', Val K ρ H0 H' S w dv → Ext K ρ H ρ H' → Q w H') → r v H Q
def OpN (K : PySem.W.Frag) (r : List V → Hp → VK → Prop) (g : Bxs → List DV → Option DV) : Prop :=
  ∀ (ρ : List Addr) (S : Bxs) (H0 H : Hp) (vs : List V) (xs : List DV) (dv : DV) (Q : VK), StOk K ρ H S → (∀ p, H p = none → H0 p = none) → RVs K ρ H0 H vs xs → g S xs = some dv →
    (∀ w H', Val K ρ H0 H' S w dv → Ext K ρ H ρ H' → Q w H') → r vs H Q
/-- nothing new is made -/
theorem same_end {ρ : List Addr} {S : Bxs} {H0 H : Hp} {w : V} {d : D} {Q : VK} (st : StOk K ρ H S) (r : Rp K ρ H w d) (k : ∀ w H', Val K ρ H0 H' S w (.dat d) → Ext K ρ H ρ H' → Q w H') : Q w H := k w H (.dat st r) (Ext.refl _ _)
/-- a new object -/
theorem Ext.upd {ρ : List Addr} {H : Hp} {p : Addr} {o : HO} (h : H p = none) : Ext K ρ H ρ (upd H p o) :=
  ⟨⟨[], by simp⟩, fun a u e _ _ => by rw [upd_ne (ne_of_none e h)]; exact e, fun a u e _ => ⟨u, by rw [upd_ne (ne_of_none e h)]; exact e, rfl⟩, fun _ q => .inl q, fun a ps e => ⟨ps, by rw [upd_ne (ne_of_none e h)]; exact e⟩, fun P q _ t => t.upd fun u e => by rw [h] at e; cases e⟩
theorem StOk.keep {ρ : List Addr} {H H' : Hp} {S : Bxs} (st : StOk K ρ H S) (x : Ext K ρ H ρ H') (k : ∀ p ∈ ρ, H' p = H p) : StOk K ρ H' S :=
  ⟨st.len, st.nd, fun i a e => by
    obtain ⟨ds, e1, e2⟩ := st.at0 i a e
    have q := k a (List.mem_of_getElem? e)
    rcases e2 with ⟨xs, e2, e3⟩ | e2
    · exact ⟨ds, e1, .inl ⟨xs, q.trans e2, RpA.keep x st.bx _ _ e3⟩⟩
    · obtain ⟨b, e2⟩ := e2
      exact ⟨ds, e1, .inr ⟨b, e2.stay x st.bx q⟩⟩, fun P q t => x.tabr P q t (st.tb P q t)⟩
theorem StOk.upd {ρ : List Addr} {H : Hp} {S : Bxs} (st : StOk K ρ H S) {p : Addr} {o : HO} (h : H p = none) : StOk K ρ (upd H p o) S :=
  st.keep (Ext.upd h) fun q hq => by
    obtain ⟨xs, e, _⟩ := st.bx q hq
    exact upd_ne (ne_of_none e h)
theorem StOk.notin {ρ : List Addr} {H : Hp} {S : Bxs} (st : StOk K ρ H S) {p : Addr} (h : H p = none) : p ∉ ρ := fun q => by
  obtain ⟨xs, e, _⟩ := st.bx p q
  rw [h] at e; cases e
/-- a list just made is kept -/
theorem Ext.adopt {ρ : List Addr} {H : Hp} {p : Addr} {o : HO} (h : H p = none) : Ext K ρ H (ρ ++ [p]) (L2.upd H p o) :=
  ⟨⟨[p], rfl⟩, fun a u e _ _ => by rw [upd_ne (ne_of_none e h)]; exact e, fun a u e _ => ⟨u, by rw [upd_ne (ne_of_none e h)]; exact e, rfl⟩, fun a q => (List.mem_append.mp q).elim .inl fun z => .inr (by rw [List.mem_singleton.mp z]; exact h), fun a ps e => ⟨ps, by rw [upd_ne (ne_of_none e h)]; exact e⟩, fun P q _ t => t.upd fun u e => by rw [h] at e; cases e⟩
theorem StOk.adopt {ρ : List Addr} {H : Hp} {S : Bxs} (st : StOk K ρ H S) {p : Addr} {xs : List V} {ds : List D} (h : H p = none) (r : RpA K (ρ ++ [p]) (L2.upd H p (.lst xs)) xs ds) : StOk K (ρ ++ [p]) (L2.upd H p (.lst xs)) (S ++ [ds]) := by
  refine ⟨by simp [st.len], ?_, fun k a e => ?_, fun P q t => (Ext.adopt (K := K) (ρ := ρ) h).tabr P q t (st.tb P q t)⟩
  · rw [List.nodup_append]
    exact ⟨st.nd, by simp, fun a ha b hb => by rw [List.mem_singleton.mp hb]; exact fun z => st.notin h (z ▸ ha)⟩
  · by_cases hk : k < ρ.length
    · rw [List.getElem?_append_left hk] at e
      obtain ⟨es, e1, e2⟩ := st.at0 k a e
      refine ⟨es, by rw [List.getElem?_append_left (by rw [← st.len]; exact hk)]; exact e1, ?_⟩
      rcases e2 with ⟨ys, e2, e3⟩ | e2
      · exact .inl ⟨ys, by rw [upd_ne (ne_of_none e2 h)]; exact e2, RpA.keep (Ext.adopt h) st.bx _ _ e3⟩
      · obtain ⟨b, e2⟩ := e2
        obtain ⟨o, eo, _⟩ := e2.isD
        exact .inr ⟨b, e2.stay (Ext.adopt h) st.bx (upd_ne (ne_of_none eo h))⟩
    · have hk2 : k = ρ.length := by
        have := (List.getElem?_eq_some_iff.mp e).1
        rw [List.length_append] at this
        simp at this; omega
      subst hk2
      rw [List.getElem?_append_right (Nat.le_refl _)] at e
      simp at e
      subst e
      exact ⟨ds, by rw [st.len, List.getElem?_append_right (Nat.le_refl _)]; simp, .inl ⟨xs, upd_same, r⟩⟩
/-! ### the rules -/
section
variable {X : Cx} {e a b c : Expr} {fa fb fc : FE} {pos : Pos}
theorem bin_tD {ρ : List Addr} {ε : DEnv} {S S1 S2 : Bxs} {σ : L2.St} {H : Hp} {x y : DV} {R : V → V → Hp → Prop} (M : Sim K ρ ε S σ H) (h1 : fa ε S = some (x, S1)) (h2 : fb ε S1 = some (y, S2))
    (k : ∀ v u H2, StOk K ρ H2 S2 → RV K ρ H H2 v x → RV K ρ H H2 u y → Ext K ρ H ρ H2 → R v u H2) : tD K fa σ H fun v H1 => tD K fb σ H1 fun u H2 => R v u H2 := by
  refine ⟨ρ, ε, S, x, S1, M, h1, fun v H1 ⟨st1, r1, _⟩ x1 => ?_⟩
  refine ⟨ρ, ε, S1, y, S2, M.next x1 st1, h2, fun u H2 ⟨st2, r2, _⟩ x2 => ?_⟩
  exact k v u H2 st2 (r1.ext x2 st1.bx) (r2.back fun p q => x1.free q) (x1.trans x2)
def fVar (i : Nat) : FE := fun ε S => match ε[i]? with
  | some (some dv) => some (dv, S)
  | _ => none
def fC (d : D) : FE := fun _ S => some (.dat d, S)
def fOp2 (g : Bxs → DV → DV → Option DV) (fa fb : FE) : FE := fun ε S => match fa ε S with
  | some (x, S1) => (match fb ε S1 with
    | some (y, S2) => (match g S2 x y with
      | some dv => some (dv, S2)
      | none => none)
    | none => none)
  | none => none
def fOp1 (g : Bxs → DV → Option DV) (fa : FE) : FE := fun ε S => match fa ε S with
  | some (x, S1) => (match g S1 x with
    | some dv => some (dv, S1)
    | none => none)
  | none => none
theorem fOp2_some {g : Bxs → DV → DV → Option DV} {ε : DEnv} {S S' : Bxs} {dv : DV} (h : fOp2 g fa fb ε S = some (dv, S')) : ∃ x S1 y, fa ε S = some (x, S1) ∧ fb ε S1 = some (y, S') ∧ g S' x y = some dv := by
  unfold fOp2 at h
  split at h
  · rename_i x S1 h1
    split at h
    · rename_i y S2 h2
      split at h
      · rename_i d h3
        cases h
        exact ⟨x, S1, y, h1, h2, h3⟩
      · cases h
    · cases h
  · cases h
theorem fOp1_some {g : Bxs → DV → Option DV} {ε : DEnv} {S S' : Bxs} {dv : DV} (h : fOp1 g fa ε S = some (dv, S')) : ∃ x, fa ε S = some (x, S') ∧ g S' x = some dv := by
  unfold fOp1 at h
  split at h
  · rename_i x S1 h1
    split at h
    · rename_i d h3
      cases h
      exact ⟨x, h1, h3⟩
    · cases h
  · cases h
theorem de_var (i : Nat) {x : Str} (hN : X.N[i]? = some x := by rfl) (hv : Vis X.env.scope x := by first | exact Or.inl rfl | exact Or.inr (Or.inl rfl) | exact Or.inr (Or.inr rfl)) (hd : (x == ("__debug__" : Str)) = false := by decide)
    (hcd : (x == ("__classdict__" : Str)) = false := by decide) : DE X (.Name x pos) (fVar i) := ⟨PE.imp (pe_var hN hv hd hcd) fun σ H Q ⟨ρ, ε, S, dv, S', M, h, k⟩ => by
  unfold fVar at h
  split at h
  · rename_i dv' he
    cases h
    obtain ⟨v, h1, h2⟩ := M.env i _ he
    exact ⟨v, h1, k v H (.env M.st h2) (Ext.refl _ _)⟩
  · cases h⟩
theorem de_const {v : V} {d : D} (h : PE X e (tC v)) (r : ∀ ρ H, Rp X.K ρ H v d) : DE X e (fC d) := ⟨PE.imp h fun σ H Q ⟨ρ, ε, S, dv, S', M, h, k⟩ => by
  unfold fC at h
  cases h
  exact k v H (.dat M.st (r _ _)) (Ext.refl _ _)⟩
theorem de_int {i : Int} {j : Nat} : DE X (.Constant (.int i) j pos) (fC (.int i)) := de_const pe_int fun _ _ => .int i
theorem de_bl {i : Bool} {j : Nat} : DE X (.Constant (.bool i) j pos) (fC (.bool i)) := de_const pe_bl fun _ _ => .bl i
theorem de_glob {x : Str} {v : V} {u : Value} {d : D} (hg : Gl X x) (hm : X.mg x = some u) (r : RelV v u) (q : ∀ ρ H, Rp X.K ρ H v d) (hd : (x == ("__debug__" : Str)) = false := by decide) : DE X (.Name x pos) (fC d) := de_const (pe_glob hg hm r hd) q
theorem op2_tD {r : R2} {g : Bxs → DV → DV → Option DV} (O : Op2 X.K r g) (h : PE X e (tOp r (tD X.K fa) (tD X.K fb))) : DE X e (fOp2 g fa fb) := ⟨PE.imp h fun σ H Q ⟨ρ, ε, S, dv, S', M, h, k⟩ => by
  obtain ⟨x, S1, y, h1, h2, h3⟩ := fOp2_some h
  refine bin_tD M h1 h2 fun v u H2 st r1 r2 x2 => ?_
  exact O ρ S' H H2 v u x y dv Q st (fun p q => x2.free q) r1 r2 h3 fun w H3 v3 x3 => k w H3 v3 (x2.trans x3)⟩
theorem op1_tD {r : V → Hp → VK → Prop} {g : Bxs → DV → Option DV} (O : Op1 X.K r g) (h : PE X e (tUn r (tD X.K fa))) : DE X e (fOp1 g fa) := ⟨PE.imp h fun σ H Q ⟨ρ, ε, S, dv, S', M, h, k⟩ => by
  obtain ⟨x, h1, h3⟩ := fOp1_some h
  refine ⟨ρ, ε, S, x, S', M, h1, fun v H2 ⟨st, r1, _⟩ x2 => ?_⟩
  exact O ρ S' H H2 v x dv Q st (fun p q => x2.free q) r1 h3 fun w H3 v3 x3 => k w H3 v3 (x2.trans x3)⟩
theorem de_bin {op : Operator} {r : R2} {g : Bxs → DV → DV → Option DV} (ho : OpR X (binaryOp op) r) (O : Op2 X.K r g) (ha : DE X a fa) (hb : DE X b fb) : DE X (.BinOp a op b pos) (fOp2 g fa fb) := op2_tD O (pe_op ho ha.pe hb.pe)
theorem de_cmp {op : CmpOp} {r : R2} {g : Bxs → DV → DV → Option DV} (ho : OpR X (compareOp op) r) (O : Op2 X.K r g) (ha : DE X a fa) (hb : DE X b fb) (hm : behindInMarks op b = false) : DE X (.Compare a [op] [b] pos) (fOp2 g fa fb) := op2_tD O (pe_cmpR ho ha.pe hb.pe hm)
end
/-! ### operations -/
def gI (C : Int → Int → Bool) (f : Int → Int → D) : Bxs → DV → DV → Option DV := fun S x y => match rd S x, rd S y with
  | some (.int i), some (.int j) => if C i j = true then some (.dat (f i j)) else none
  | _, _ => none
theorem op2_int {C : Int → Int → Prop} {C' : Int → Int → Bool} {f : Int → Int → V} {f' : Int → Int → D} (hC : ∀ i j, C' i j = true → C i j) (hf : ∀ i j ρ H, Rp K ρ H (f i j) (f' i j)) : Op2 K (rI C f) (gI C' f') := by
  intro ρ S H0 H v u x y dv Q st fr r1 r2 h k
  unfold gI at h
  split at h
  · rename_i i j e1 e2
    split at h
    · rename_i hc
      cases h
      exact ⟨i, j, rd_int r1 e1, rd_int r2 e2, hC i j hc, same_end st (hf i j _ _) k⟩
    · cases h
  · cases h
theorem op2_int0 {f : Int → Int → V} {f' : Int → Int → D} (hf : ∀ i j ρ H, Rp K ρ H (f i j) (f' i j)) : Op2 K (rI0 f) (gI (fun _ _ => true) f') := by
  intro ρ S H0 H v u x y dv Q st fr r1 r2 h k
  unfold gI at h
  split at h
  · rename_i i j e1 e2
    rw [if_pos rfl] at h
    cases h
    exact ⟨i, j, rd_int r1 e1, rd_int r2 e2, same_end st (hf i j _ _) k⟩
  · cases h
def gIx : Bxs → DV → DV → Option DV := fun S x y => match sq S x, rd S y with
  | some ds, some (.int i) => (atI ds i).map .dat
  | _, _ => none
theorem atI_get {ρ : List Addr} {H : Hp} {xs : List V} {ds : List D} {i : Int} {d : D} (r : RpA K ρ H xs ds) (h : atI ds i = some d) : ∃ v, atI xs i = some v ∧ Rp K ρ H v d := by
  unfold atI at h ⊢
  rw [r.length]
  cases q : ixN ds.length i with
  | none => rw [q] at h; cases h
  | some j =>
    rw [q] at h
    obtain ⟨v, h1, h2⟩ := r.get (show ds[j]? = some d from h)
    exact ⟨v, h1, h2⟩
theorem op2_ix : Op2 K (rIx K) gIx := by
  intro ρ S H0 H v u x y dv Q st fr r1 r2 h k
  unfold gIx at h
  split at h
  · rename_i ds i e1 e2
    obtain ⟨d, e3, rfl⟩ := Option.map_eq_some_iff.mp h
    obtain ⟨a, xs, rfl, hq, rr⟩ := sq_ok st r1 e1
    obtain ⟨w, h1, h2⟩ := atI_get rr e3
    have e := rd_int r2 e2
    rcases hq with hq | hq
    · exact .inl ⟨a, xs, i, w, rfl, e, hq, h1, same_end st h2 k⟩
    · exact .inr (.inl ⟨a, xs, i, w, rfl, e, hq, h1, same_end st h2 k⟩)
  · cases h
end DL

set_option linter.all false
set_option maxRecDepth 100000
namespace DL
open PySem PySem.Spec L2
variable {K : PySem.W.Frag}
/-! ### arguments and displays -/
abbrev FA := DEnv → Bxs → Option (List DV × Bxs)
def tDA (K : PySem.W.Frag) (f : FA) : TA := fun σ H Q => ∃ ρ ε S dvs S', Sim K ρ ε S σ H ∧ f ε S = some (dvs, S') ∧ ∀ vs H', StOk K ρ H' S' → RVs K ρ H H' vs dvs → Ext K ρ H ρ H' → Q vs H'
structure DA (X : Cx) (es : List Expr) (f : FA) : Prop where
  pa : PA X es (tDA X.K f)
theorem PA.imp {X : Cx} {es : List Expr} {t t' : TA} (h : PA X es t) (k : ∀ σ H Q, t' σ H Q → t σ H Q) : PA X es t' := by
  intro pos pins s σ H Q I hq
  exact h pos pins s σ H Q I (k σ H Q hq)
def fNil : FA := fun _ S => some ([], S)
def fCons (fa : FE) (fr : FA) : FA := fun ε S => match fa ε S with
  | some (x, S1) => (match fr ε S1 with
    | some (xs, S2) => some (x :: xs, S2)
    | none => none)
  | none => none
section
variable {X : Cx} {e a b c : Expr} {es : List Expr} {fa fb fc fe : FE} {fr : FA} {pos : Pos}
theorem da_nil : DA X [] fNil := ⟨PA.imp pa_nil fun σ H Q ⟨ρ, ε, S, dv, S', M, h, k⟩ => by
  unfold fNil at h; cases h
  exact k [] H M.st .nil (Ext.refl _ _)⟩
theorem da_cons (ha : DE X e fe) (hr : DA X es fr) (hs : starEach (e :: es) X.env = (false, eval e X.env) :: starEach es X.env := by rfl) : DA X (e :: es) (fCons fe fr) := ⟨PA.imp (pa_cons ha.pe hr.pa hs) fun σ H Q ⟨ρ, ε, S, dv, S', M, h, k⟩ => by
  unfold fCons at h
  split at h
  · rename_i x S1 h1
    split at h
    · rename_i xs S2 h2
      cases h
      refine ⟨ρ, ε, S, x, S1, M, h1, fun v H1 ⟨st1, r1, _⟩ x1 => ?_⟩
      refine ⟨ρ, ε, S1, xs, _, M.next x1 st1, h2, fun vs H2 st2 r2 x2 => ?_⟩
      exact k (v :: vs) H2 st2 (.cons (r1.ext x2 st1.bx) (RVs.back (fun p q => x1.free q) r2)) (x1.trans x2)
    · cases h
  · cases h⟩
/-- as a part of other data -/
def toD : DV → Option D
  | .dat d => some d
  | .lst ds => some (.list ds)
  | .box _ => none
  | .dct _ _ => none
  | .dbx _ _ => none
  | .dcd _ _ => none
def toDs : List DV → Option (List D)
  | [] => some []
  | x :: xs => match toD x, toDs xs with
    | some d, some ds => some (d :: ds)
    | _, _ => none
theorem toD_ok {ρ : List Addr} {H0 H : Hp} {v : V} {dv : DV} {d : D} (r : RV K ρ H0 H v dv) (h : toD dv = some d) : Rp K ρ H v d := by
  cases r with
  | dat r => cases h; exact r
  | lst a b n r => cases h; exact .lst (.inl ⟨n, .inl b⟩) r
  | box e hl => cases h
  | dct _ _ _ => cases h
  | dbx _ _ => cases h
  | dcd _ _ => cases h
theorem toDs_ok {ρ : List Addr} {H0 H : Hp} : ∀ {vs : List V} {dvs : List DV} {ds : List D}, RVs K ρ H0 H vs dvs → toDs dvs = some ds → RpA K ρ H vs ds
  | _, _, _, .nil, h => by cases h; exact .nil
  | _, _, ds, .cons a b, h => by
    unfold toDs at h
    split at h
    · rename_i d ds' e1 e2
      cases h
      exact .cons (toD_ok a e1) (toDs_ok b e2)
    · cases h
def small (n : Nat) : Bool := decide (n ≤ 100000)
theorem small_line {n : Nat} (h : small n = true) : n ≤ sizeLine := Nat.le_trans (of_decide_eq_true h) (by decide)
def fTup (fr : FA) : FE := fun ε S => match fr ε S with
  | some (xs, S1) => (match toDs xs with
    | some ds => if small ds.length = true then some (.dat (.tuple ds), S1) else none
    | none => none)
  | none => none
def fLst (fr : FA) : FE := fun ε S => match fr ε S with
  | some (xs, S1) => (match toDs xs with
    | some ds => if small ds.length = true then some (.lst ds, S1) else none
    | none => none)
  | none => none
/-- a list, a tuple that was just made -/
theorem new_lst {ρ : List Addr} {S : Bxs} {H0 H : Hp} {xs : List V} {ds : List D} {p : Addr} (st : StOk K ρ H S) (h0 : ∀ p, H p = none → H0 p = none) (hp : H p = none) (r : RpA K ρ H xs ds) : Val K ρ H0 (upd H p (.lst xs)) S (.ref p) (.lst ds) ∧ Ext K ρ H ρ (upd H p (.lst xs)) :=
  ⟨⟨st.upd hp, .lst (h0 p hp) upd_same (st.notin hp) (RpA.keep (Ext.upd hp) st.bx _ _ r), ⟨fun q es e1 e2 => by
    cases e1; cases e2
    exact st.adopt hp (RpA.keep (Ext.adopt hp) st.bx _ _ r), (fun _ _ _ _ e => nomatch e)⟩⟩, Ext.upd hp⟩
theorem new_tup {ρ : List Addr} {S : Bxs} {H0 H : Hp} {xs : List V} {ds : List D} {p : Addr} (st : StOk K ρ H S) (hp : H p = none) (r : RpA K ρ H xs ds) : Val K ρ H0 (upd H p (.tup xs)) S (.ref p) (.dat (.tuple ds)) ∧ Ext K ρ H ρ (upd H p (.tup xs)) :=
  ⟨.dat (st.upd hp) (.tup (.inl (.inl upd_same)) (RpA.keep (Ext.upd hp) st.bx _ _ r)), Ext.upd hp⟩
theorem de_tup {x1 : Nat} (h : DA X es fr) : DE X (.Tuple es x1 pos) (fTup fr) := ⟨PE.imp (pe_tup h.pa) fun σ H Q ⟨ρ, ε, S, dv, S', M, h, k⟩ => by
  unfold fTup at h
  split at h
  · rename_i xs S1 h1
    split at h
    · rename_i ds h2
      split at h
      · rename_i hc
        cases h
        refine ⟨ρ, ε, S, xs, S', M, h1, fun vs H1 st1 r1 x1 => ?_⟩
        have rr := toDs_ok r1 h2
        refine ⟨by rw [rr.length]; exact small_line hc, fun p hp => ?_⟩
        obtain ⟨a1, a3⟩ := new_tup st1 hp rr
        exact k _ _ a1 (x1.trans a3)
      · cases h
    · cases h
  · cases h⟩
theorem de_lst (h : DA X es fr) : DE X (.List es pos) (fLst fr) := ⟨PE.imp (pe_lst h.pa) fun σ H Q ⟨ρ, ε, S, dv, S', M, h, k⟩ => by
  unfold fLst at h
  split at h
  · rename_i xs S1 h1
    split at h
    · rename_i ds h2
      split at h
      · rename_i hc
        cases h
        refine ⟨ρ, ε, S, xs, S', M, h1, fun vs H1 st1 r1 x1 => ?_⟩
        have rr := toDs_ok r1 h2
        refine ⟨by rw [rr.length]; exact small_line hc, fun p hp => ?_⟩
        obtain ⟨a1, a3⟩ := new_lst st1 (fun p q => x1.free q) hp rr
        exact k _ _ a1 (x1.trans a3)
      · cases h
    · cases h
  · cases h⟩
/-! ### calls -/
def fOpN (g : Bxs → List DV → Option DV) (fr : FA) : FE := fun ε S => match fr ε S with
  | some (xs, S1) => (match g S1 xs with
    | some dv => some (dv, S1)
    | none => none)
  | none => none
theorem opN_tD {r : List V → Hp → VK → Prop} {g : Bxs → List DV → Option DV} (O : OpN X.K r g) (h : PE X e (tCB r (tDA X.K fr))) : DE X e (fOpN g fr) := ⟨PE.imp h fun σ H Q ⟨ρ, ε, S, dv, S', M, h, k⟩ => by
  unfold fOpN at h
  split at h
  · rename_i xs S1 h1
    split at h
    · rename_i d h2
      cases h
      refine ⟨ρ, ε, S, xs, S', M, h1, fun vs H2 st r1 x2 => ?_⟩
      exact O ρ S' H H2 vs xs dv Q st (fun p q => x2.free q) r1 h2 fun w H3 v3 x3 => k w H3 v3 (x2.trans x3)
    · cases h
  · cases h⟩
variable {id T : String} {x : Str} {p : Pos}
theorem de_callB {r : List V → Hp → VK → Prop} {g : Bxs → List DV → Option DV} (hc : CallR X (.builtin id) r) (O : OpN X.K r g) (hg : Gl X x) (hm : X.mg x = none) (hv : bootBuiltins x = some (.builtin id)) (ha : DA X (e :: es) fr) (hn : x ≠ "__name__" := by decide) (hdb : (x == ("__debug__" : Str)) = false := by decide)
    (he : starEach (e :: es) X.env = (false, eval e X.env) :: starEach es X.env := by rfl) (hpl : (backTo pos (starEach es X.env)).any (·.1) = false := by rfl) : DE X (.Call (.Name x p) (e :: es) [] pos) (fOpN g fr) := opN_tD O (pe_callB hc hg hm hv ha.pa hn hdb he hpl)
theorem de_callTy {r : List V → Hp → VK → Prop} {g : Bxs → List DV → Option DV} (hc : CallR X (.type T) r) (O : OpN X.K r g) (hg : Gl X x) (hm : X.mg x = none) (hv : bootBuiltins x = some (.type T)) (ha : DA X (e :: es) fr) (hn : x ≠ "__name__" := by decide) (hdb : (x == ("__debug__" : Str)) = false := by decide)
    (he : starEach (e :: es) X.env = (false, eval e X.env) :: starEach es X.env := by rfl) (hpl : (backTo pos (starEach es X.env)).any (·.1) = false := by rfl) : DE X (.Call (.Name x p) (e :: es) [] pos) (fOpN g fr) := opN_tD O (pe_callTy hc hg hm hv ha.pa hn hdb he hpl)
/-- a def by its meaning -/
abbrev Sem0 := List DV → Bxs → Option (DV × Bxs)
def norm : DV → DV
  | .lst ds => .dat (.list ds)
  | .dct b ds => .dcd b ds
  | v => v
theorem RV.norm {ρ : List Addr} {H0 H : Hp} {v : V} {dv : DV} (r : RV K ρ H0 H v dv) : RV K ρ H H v (norm dv) := by
  cases r with
  | dat r => exact .dat r
  | lst a b n r => exact .dat (.lst (.inl ⟨n, .inl b⟩) r)
  | box e hl => exact .box e hl
  | dct a n dc => exact .dcd n dc
  | dbx e hl => exact .dbx e hl
  | dcd n dc => exact .dcd n dc
theorem RVs.norm {ρ : List Addr} {H0 H : Hp} : ∀ {vs : List V} {dvs : List DV}, RVs K ρ H0 H vs dvs → RVs K ρ H H vs (dvs.map DL.norm)
  | _, _, .nil => .nil
  | _, _, .cons a b => .cons a.norm (RVs.norm b)
def spD (K : PySem.W.Frag) (n : Nat) (sem : Sem0) : Sp := fun vs H Q _ => vs.length = n ∧ ∃ ρ S dvs dv S', StOk K ρ H S ∧ RVs K ρ H H vs dvs ∧ sem dvs S = some (dv, S') ∧ ∀ v H', Val K ρ H H' S' v dv → Ext K ρ H ρ H' → Q v H'
def fCall (n : Nat) (sem : Sem0) (fr : FA) : FE := fun ε S => match fr ε S with
  | some (xs, S1) => if xs.length = n then sem (xs.map norm) S1 else none
  | none => none
theorem RVs.length {ρ : List Addr} {H0 H : Hp} : ∀ {vs : List V} {dvs : List DV}, RVs K ρ H0 H vs dvs → vs.length = dvs.length
  | _, _, .nil => rfl
  | _, _, .cons _ b => by simp [RVs.length b]
theorem de_call {CX : CXT} {k n : Nat} {f : Addr} {fd : FuncData} {ps : List Str} {sem : Sem0} {E : XK} (F : FnOk X.prog X.w X.K X.mg X.base CX k f fd ps (spD X.K n sem)) (hr : Room k X.A) (hg : Gl X x) (hm : X.mg x = some (.ref f)) (hk : PySem.W.keepIn X.K (.ref f) = true) (hb : Binds X.K fd ps []) (hx : Passes CX X E)
    (ha : DA X (e :: es) fr) (hdb : (x == ("__debug__" : Str)) = false := by decide) (he : starEach (e :: es) X.env = (false, eval e X.env) :: starEach es X.env := by rfl) (hpl : (backTo pos (starEach es X.env)).any (·.1) = false := by rfl) :
    DE X (.Call (.Name x p) (e :: es) [] pos) (fCall n sem fr) := ⟨PE.imp (pe_call (dvs := []) F hr hg hm hk hb .nil hx ha.pa hdb he hpl) fun σ H Q ⟨ρ, ε, S, dv, S', M, h, k⟩ => by
  unfold fCall at h
  split at h
  · rename_i xs S1 h1
    split at h
    · rename_i hn
      refine ⟨ρ, ε, S, xs, S1, M, h1, fun vs H1 st1 r1 x1 => ?_⟩
      show spD X.K n sem (vs ++ []) H1 _ E
      rw [List.append_nil]
      refine ⟨by rw [r1.length]; exact hn, ρ, S1, _, dv, S', st1, r1.norm, h, fun v H2 v2 x2 => ?_⟩
      exact k v H2 (v2.back fun p q => x1.free q) (x1.trans x2)
    · cases h
  · cases h⟩
/-! ### and, or, not, if else, chains -/
variable {rest : List Expr}
/-! ### tests -/
abbrev FT := DEnv → Bxs → Option (Bool × Bxs)
def tDT (K : PySem.W.Frag) (f : FT) : TT := fun σ H Q => ∃ ρ ε S b S', Sim K ρ ε S σ H ∧ f ε S = some (b, S') ∧ ∀ H', StOk K ρ H' S' → Ext K ρ H ρ H' → Q b H'
structure DT (X : Cx) (e : Expr) (f : FT) : Prop where
  pt : PT X e (tDT X.K f)
structure DW (X : Cx) (e : Expr) (f : FT) : Prop where
  pw : PW X e (tDT X.K f)
theorem PT.imp {X : Cx} {e : Expr} {t t' : TT} (h : PT X e t) (k : ∀ σ H Q, t' σ H Q → t σ H Q) : PT X e t' := by
  intro pins s σ H Q I hq
  exact h pins s σ H Q I (k σ H Q hq)
theorem PW.imp {X : Cx} {e : Expr} {t t' : TT} (h : PW X e t) (k : ∀ σ H Q, t' σ H Q → t σ H Q) : PW X e t' := by
  intro wh pins s σ H Q I hq
  exact h wh pins s σ H Q I (k σ H Q hq)
/-- a value's truth -/
def tru : D → Option Bool
  | .none => some false
  | .bool b => some b
  | .int i => some (i != 0)
  | .list ds => some (!ds.isEmpty)
  | .tuple ds => some (!ds.isEmpty)
  | .str _ | .dict _ => none
def fTru (fa : FE) : FT := fun ε S => match fa ε S with
  | some (x, S1) => (match rd S1 x with
    | some d => (match tru d with
      | some b => some (b, S1)
      | none => none)
    | none => none)
  | none => none
theorem empty_len {α β : Type} {xs : List α} {ys : List β} (h : xs.length = ys.length) : xs.isEmpty = ys.isEmpty := by
  cases xs <;> cases ys <;> simp_all
theorem dt_truth (ha : DE X a fa) (he : ∀ whole, isTrue a X.env whole = (do let v ← whole; standAt a.pos; holding [v] (truthy v)) := by intro _; rfl) : DT X a (fTru fa) := ⟨PT.imp (pt_truth ha.pe he) fun σ H Q ⟨ρ, ε, S, b, S', M, h, k⟩ => by
  unfold fTru at h
  split at h
  · rename_i x S1 h1
    split at h
    · rename_i d e1
      split at h
      · rename_i b' e2
        cases h
        refine ⟨ρ, ε, S, x, S', M, h1, fun v H1 ⟨st1, r1, _⟩ x1 => ⟨b, ?_, k H1 st1 x1⟩⟩
        cases d with
        | none => cases e2; rw [rd_none r1 e1]; rfl
        | bool c => cases e2; rw [rd_bool r1 e1]; rfl
        | int i => cases e2; rw [rd_int r1 e1]; rfl
        | list ds =>
          cases e2
          obtain ⟨p, xs, rfl, hq, rr⟩ := rd_lst st1 r1 e1
          exact .inl ⟨xs, hq, by rw [empty_len rr.length]⟩
        | tuple ds =>
          cases e2
          obtain ⟨p, xs, rfl, hq, rr⟩ := rd_tup r1 e1
          exact .inr (.inl ⟨xs, hq, by rw [empty_len rr.length]⟩)
        | str _ => cases e2
        | dict _ => cases e2
      · cases h
    · cases h
  · cases h⟩
/-- a comparison: True or False, nothing is made -/
def OpB (K : PySem.W.Frag) (r : R2) (g : Bxs → DV → DV → Option Bool) : Prop :=
  ∀ (ρ : List Addr) (S : Bxs) (H0 H : Hp) (v u : V) (x y : DV) (b : Bool) (Q : VK), StOk K ρ H S → RV K ρ H0 H v x → RV K ρ H0 H u y → g S x y = some b → Q (.bl b) H → r v u H Q
def gB (g : Bxs → DV → DV → Option Bool) : Bxs → DV → DV → Option DV := fun S x y => match g S x y with
  | some b => some (.dat (.bool b))
  | none => none
theorem OpB.op2 {r : R2} {g : Bxs → DV → DV → Option Bool} (O : OpB K r g) : Op2 K r (gB g) := by
  intro ρ S H0 H v u x y dv Q st fr r1 r2 h k
  unfold gB at h
  split at h
  · rename_i b e
    cases h
    exact O ρ S H0 H v u x y b _ st r1 r2 e (same_end st (.bl b) k)
  · cases h
theorem de_cmpB {op : CmpOp} {r : R2} {g : Bxs → DV → DV → Option Bool} (ho : OpR X (compareOp op) r) (O : OpB X.K r g) (ha : DE X a fa) (hb : DE X b fb) (hm : behindInMarks op b = false) : DE X (.Compare a [op] [b] pos) (fOp2 (gB g) fa fb) := de_cmp ho O.op2 ha hb hm
def fCmpT (g : Bxs → DV → DV → Option Bool) (fa fb : FE) : FT := fun ε S => match fa ε S with
  | some (x, S1) => (match fb ε S1 with
    | some (y, S2) => (match g S2 x y with
      | some b => some (b, S2)
      | none => none)
    | none => none)
  | none => none
theorem dt_cmp {op : CmpOp} {r : R2} {g : Bxs → DV → DV → Option Bool} (ho : OpR X (compareOp op) r) (O : OpB X.K r g) (ha : DE X a fa) (hb : DE X b fb) (hm : behindInMarks op b = false) : DT X (.Compare a [op] [b] pos) (fCmpT g fa fb) := ⟨PT.imp (pt_cmpR ho ha.pe hb.pe hm) fun σ H Q ⟨ρ, ε, S, b, S', M, h, k⟩ => by
  unfold fCmpT at h
  split at h
  · rename_i x S1 h1
    split at h
    · rename_i y S2 h2
      split at h
      · rename_i b' e
        cases h
        refine bin_tD M h1 h2 fun v u H2 st r1 r2 x2 => ?_
        exact O ρ _ H H2 v u x y b _ st r1 r2 e ⟨b, rfl, k H2 st x2⟩
      · cases h
    · cases h
  · cases h⟩
def fNotT (ft : FT) : FT := fun ε S => match ft ε S with
  | some (b, S1) => some (!b, S1)
  | none => none
def fOrT (ft fu : FT) : FT := fun ε S => match ft ε S with
  | some (false, S1) => fu ε S1
  | some (true, S1) => some (true, S1)
  | none => none
variable {ft fu : FT}
theorem dt_not (ha : DT X a ft) : DT X (.UnaryOp .Not a pos) (fNotT ft) := ⟨PT.imp (pt_not ha.pt) fun σ H Q ⟨ρ, ε, S, b, S', M, h, k⟩ => by
  unfold fNotT at h
  split at h
  · rename_i b' S1 h1
    cases h
    exact ⟨ρ, ε, S, b', _, M, h1, fun H1 st1 x1 => k H1 st1 x1⟩
  · cases h⟩
theorem dw_or1 (ha : DT X a ft) : DW X (.BoolOp .Or [a] pos) ft := ⟨pw_or1 ha.pt⟩
theorem dw_or (ha : DT X a ft) (hb : DW X (.BoolOp .Or (b :: rest) pos) fu) : DW X (.BoolOp .Or (a :: b :: rest) pos) (fOrT ft fu) := ⟨PW.imp (pw_or ha.pt hb.pw) fun σ H Q ⟨ρ, ε, S, b, S', M, h, k⟩ => by
  unfold fOrT at h
  split at h
  · rename_i S1 h1
    refine ⟨ρ, ε, S, _, S1, M, h1, fun H1 st1 x1 => ?_⟩
    dsimp only
    rw [if_neg Bool.false_ne_true]
    exact ⟨ρ, ε, S1, b, S', M.next x1 st1, h, fun H2 st2 x2 => k H2 st2 (x1.trans x2)⟩
  · rename_i S1 h1
    cases h
    refine ⟨ρ, ε, S, _, S', M, h1, fun H1 st1 x1 => ?_⟩
    dsimp only
    rw [if_pos rfl]
    exact k H1 st1 x1
  · cases h⟩
theorem DW.dt {e : Expr} (h : DW X e ft) : DT X e ft := ⟨h.pw.pt⟩
end
/-! ### comparisons -/
def bI (f : Int → Int → Bool) : Bxs → DV → DV → Option Bool := fun S x y => match rd S x, rd S y with
  | some (.int i), some (.int j) => some (f i j)
  | _, _ => none
theorem opb_int {f : Int → Int → Bool} : OpB K (rI0 fun i j => .bl (f i j)) (bI f) := by
  intro ρ S H0 H v u x y b Q st r1 r2 h k
  unfold bI at h
  split at h
  · rename_i i j e1 e2
    cases h
    exact ⟨i, j, rd_int r1 e1, rd_int r2 e2, k⟩
  · cases h
def bEq : Bxs → DV → DV → Option Bool := fun S x y => match rd S x, rd S y with
  | some d, some e => if (SeqAt.shaped d && SeqAt.shaped e) = true then some (PyData.eqv d e) else none
  | _, _ => none
def bNe : Bxs → DV → DV → Option Bool := fun S x y => match rd S x, rd S y with
  | some d, some e => if (SeqAt.shaped d && SeqAt.shaped e) = true then some (!PyData.eqv d e) else none
  | _, _ => none
theorem opb_eq : OpB K (rEqD K) bEq := by
  intro ρ S H0 H v u x y b Q st r1 r2 h k
  unfold bEq at h
  split at h
  · rename_i d e e1 e2
    split at h
    · rename_i hc
      cases h
      rw [Bool.and_eq_true] at hc
      exact ⟨d, e, rd_dp st r1 e1 (SeqAt.canLay_of_shaped hc.1), rd_dp st r2 e2 (SeqAt.canLay_of_shaped hc.2), hc.1, hc.2, k⟩
    · cases h
  · cases h
theorem opb_ne : OpB K (rNeD K) bNe := by
  intro ρ S H0 H v u x y b Q st r1 r2 h k
  unfold bNe at h
  split at h
  · rename_i d e e1 e2
    split at h
    · rename_i hc
      cases h
      rw [Bool.and_eq_true] at hc
      exact ⟨d, e, rd_dp st r1 e1 (SeqAt.canLay_of_shaped hc.1), rd_dp st r2 e2 (SeqAt.canLay_of_shaped hc.2), hc.1, hc.2, k⟩
    · cases h
  · cases h
end DL

set_option linter.all false
set_option maxRecDepth 100000
namespace DL
open PySem PySem.Spec L2
variable {K : PySem.W.Frag}
/-! ### targets -/
theorem wipe_set (σ : L2.St) (i : Nat) (v : Option V) : ∀ us : List Nat, i ∈ us → wipe (σ.set i v) us = wipe σ us
  | u :: us, h => by
    unfold wipe
    by_cases e : i ∈ us
    · rw [wipe_set σ i v us e]
    · have : i = u := (List.mem_cons.mp h).resolve_right e
      subst this
      have comm : ∀ (us : List Nat) (σ : L2.St), i ∉ us → wipe (σ.set i v) us = (wipe σ us).set i v := by
        intro us
        induction us with
        | nil => intro σ _; rfl
        | cons u us ih =>
          intro σ hn
          unfold wipe
          rw [ih σ (fun z => hn (List.mem_cons_of_mem _ z))]
          exact List.set_comm _ _ (fun z => hn (by rw [← z]; exact List.mem_cons_self))
      rw [comm us σ e, List.set_set]
theorem Sim.set {ρ : List Addr} {ε : DEnv} {S : Bxs} {σ : L2.St} {H : Hp} (M : Sim K ρ ε S σ H) {i : Nat} {v : V} {dv : DV} (r : RV K ρ H H v dv) : Sim K ρ (ε.set i (some dv)) S (σ.set i (some v)) H :=
  ⟨M.st, fun j d e => by
    by_cases q : j = i
    · subst q
      have hl : j < ε.length := by
        refine Classical.byContradiction fun z => ?_
        rw [List.getElem?_eq_none (by simpa using z)] at e; cases e
      rw [List.getElem?_set_self hl] at e
      cases e
      exact ⟨v, List.getElem?_set_self (by rw [← M.len]; exact hl), r⟩
    · rw [List.getElem?_set_ne (fun z => q z.symm)] at e
      obtain ⟨w, h1, h2⟩ := M.env j d e
      exact ⟨w, by rw [List.getElem?_set_ne (fun z => q z.symm)]; exact h1, h2⟩, by simp [M.len]⟩
abbrev FG := D → DEnv → Option DEnv
def tG (K : PySem.W.Frag) (h : FG) (is : List Nat) : TG := fun v σ H Q => ∃ ρ ε S d ε', Sim K ρ ε S σ H ∧ Rp K ρ H v d ∧ h d ε = some ε' ∧ ∀ σ', Sim K ρ ε' S σ' H → (∀ us : List Nat, (∀ i ∈ is, i ∈ us) → wipe σ' us = wipe σ us) → Q σ' H
structure DG (X : Cx) (tg : Expr) (h : FG) (is : List Nat) : Prop where
  pg : PG X tg (tG X.K h is)
abbrev FGs := List D → DEnv → Option DEnv
def tGs (K : PySem.W.Frag) (h : FGs) (is : List Nat) : TGs := fun vs σ H Q => ∃ ρ ε S ds ε', Sim K ρ ε S σ H ∧ RpA K ρ H vs ds ∧ h ds ε = some ε' ∧ ∀ σ', Sim K ρ ε' S σ' H → (∀ us : List Nat, (∀ i ∈ is, i ∈ us) → wipe σ' us = wipe σ us) → Q σ' H
structure DGs (X : Cx) (tgs : List Expr) (h : FGs) (is : List Nat) : Prop where
  pgs : PGs X tgs (tGs X.K h is)
def hName (i : Nat) : FG := fun d ε => some (ε.set i (some (.dat d)))
def hNil : FGs := fun ds ε => match ds with
  | [] => some ε
  | _ => none
def hCons (h : FG) (hs : FGs) : FGs := fun ds ε => match ds with
  | d :: ds => (match h d ε with
    | some ε1 => hs ds ε1
    | none => none)
  | [] => none
def hTup (n : Nat) (hs : FGs) : FG := fun d ε => match d with
  | .tuple ds => if ds.length = n then hs ds ε else none
  | _ => none
section
variable {X : Cx} {pos : Pos}
theorem dg_name {i : Nat} {x : Str} (hN : X.N.Nodup) (hi : X.N[i]? = some x) (hx : Loc X.env.scope x) (hf : X.fn x = true ∨ X.env.scope.names.lookup x = some .local := by first | exact .inl rfl | exact .inr rfl | assumption) : DG X (.Name x pos) (hName i) [i] :=
  ⟨fun pins s σ H v u Q I r ⟨ρ, ε, S, d, ε', M, rp, h, k⟩ => pg_name hN hi hx hf pins s σ H v u Q I r (by
    unfold hName at h; cases h
    exact k _ (M.set (.dat rp)) fun us hu => wipe_set _ _ _ us (hu i (by simp)))⟩
theorem dgs_nil : DGs X [] hNil [] := ⟨fun pins s σ H vs us Q I r ⟨ρ, ε, S, ds, ε', M, rp, h, k⟩ => pgs_nil pins s σ H vs us Q I r (by
    cases rp with
    | nil => cases h; exact ⟨rfl, k σ M fun _ _ => rfl⟩
    | cons _ _ => cases h)⟩
theorem dgs_cons {e : Expr} {es : List Expr} {h : FG} {hs : FGs} {is js : List Nat} (h1 : DG X e h is) (h2 : DGs X es hs js)
    (hq : (assignEach (e :: es) X.env).map (·.2) = assign e X.env :: (assignEach es X.env).map (·.2) := by rfl) : DGs X (e :: es) (hCons h hs) (is ++ js) :=
  ⟨fun pins s σ H vs us Q I r ⟨ρ, ε, S, ds, ε', M, rp, hh, k⟩ => pgs_cons h1.pg h2.pgs hq pins s σ H vs us Q I r (by
    cases rp with
    | nil => cases hh
    | @cons v vs d ds a b =>
      unfold hCons at hh
      dsimp only at hh
      split at hh
      · rename_i ε1 e1
        refine ⟨v, vs, rfl, ρ, ε, S, d, ε1, M, a, e1, fun σ1 M1 w1 => ?_⟩
        refine ⟨ρ, ε1, S, ds, ε', M1, b, hh, fun σ2 M2 w2 => ?_⟩
        exact k σ2 M2 fun us hu => (w2 us fun i hi => hu i (List.mem_append_right _ hi)).trans (w1 us fun i hi => hu i (List.mem_append_left _ hi))
      · cases hh)⟩
theorem dg_tup {es : List Expr} {k : Nat} {hs : FGs} {is : List Nat} {n : Nat} (hc : X.calm = true) (h : DGs X es hs is)
    (hn : (assignEach es X.env).length = n := by rfl) (hst : (assignEach es X.env).findIdx? (·.1) = none := by rfl) : DG X (.Tuple es k pos) (hTup n hs) is :=
  ⟨fun pins s σ H v u Q I r ⟨ρ, ε, S, d, ε', M, rp, hh, kk⟩ => pg_tup hc h.pgs hn hst pins s σ H v u Q I r (by
    unfold hTup at hh
    split at hh
    · rename_i ds
      split at hh
      · rename_i hl
        cases rp with
        | @tup a xs _ q rr => exact ⟨a, xs, rfl, q, by rw [rr.length]; exact hl, ρ, ε, S, ds, ε', M, rr, hh, kk⟩
      · cases hh
    · cases hh)⟩
end
/-! ### what a loop walks -/
abbrev FI := DEnv → Bxs → Option (List D × Bxs)
/-- J yields ds, one behind the other, as long as the heap goes on -/
def ItOk (K : PySem.W.Frag) (ρ : List Addr) (H : Hp) (J : It) (ds : List D) : Prop := ∀ (i : Nat) (ρ' : List Addr) (H' : Hp), Ext K ρ H ρ' H' →
  (ds.length ≤ i → J.stop i H') ∧ (i < ds.length → J.go i H' ∧ ∀ x H'', J.yld i H' x H'' → H'' = H' ∧ ∃ d, ds[i]? = some d ∧ Rp K ρ' H' x d)
def tDI (K : PySem.W.Frag) (f : FI) : TI := fun σ H R => ∃ ρ ε S ds S', Sim K ρ ε S σ H ∧ f ε S = some (ds, S') ∧ ∀ J H', StOk K ρ H' S' → Ext K ρ H ρ H' → ItOk K ρ H' J ds → R J H'
structure DI (X : Cx) (tg iter : Expr) (f : FI) : Prop where
  pi : PI X tg iter (tDI X.K f)
theorem PI.imp {X : Cx} {tg e : Expr} {t t' : TI} (h : PI X tg e t) (k : ∀ σ H Q, t' σ H Q → t σ H Q) : PI X tg e t' := fun pins s σ H Q I hq => h pins s σ H Q I (k σ H Q hq)
/-- a list or a tuple -/
def iSeq (K : PySem.W.Frag) (tl : TE) : TI := fun σ H R => tl σ H fun x H1 => ∃ a, x = .ref a ∧ (((∃ xs, SqL K H1 a xs) ∧ R (Itl K a) H1) ∨ ((∃ xs, SqT K H1 a xs) ∧ R (Itt K a) H1))
theorem pi_seq {X : Cx} {tg l : Expr} {tl : TE} (hl : PE X l tl) : PI X tg l (iSeq X.K tl) := by
  intro pins s σ H R I h
  refine thn (hl pins s σ H _ I h) fun v s1 ⟨x, H1, I1, r1, q1⟩ => ?_
  obtain ⟨a, e, q1⟩ := q1
  subst e
  cases r1
  rcases q1 with ⟨⟨xs, hq⟩, q⟩ | ⟨⟨xs, hq⟩, q⟩
  · obtain ⟨its, rv, p, hz⟩ := I1.list hq
    refine wpAny_pyIter_list p.isList ?_
    refine ⟨s1.heap.objs.size, [s1.heap.objs.size], _, _, H1, rfl, I1.kept (t' := s1.toks) fun b o e => Heap.get?_push_of_some _ e, turn_list a _, ⟨_, Heap.get?_push_size _ rfl, rfl, rfl⟩, fun b hb => ?_, q⟩
    have e : b = s1.heap.objs.size := by simpa using hb
    subst e
    exact I1.fpOk (Nat.le_refl _) (I1.hok.fresh (Nat.le_refl _))
  · obtain ⟨its, rv, p, hz⟩ := I1.tuple hq
    refine wpAny_pyIter_tuple (show s1.heap.IsTuple a its.toArray from p) ?_
    refine ⟨s1.heap.objs.size, [s1.heap.objs.size], _, _, H1, rfl, I1.kept (t' := s1.toks) fun b o e => Heap.get?_push_of_some _ e, turn_tuple a _, ⟨_, Heap.get?_push_size _ rfl, rfl, rfl⟩, fun b hb => ?_, q⟩
    have e : b = s1.heap.objs.size := by simpa using hb
    subst e
    exact I1.fpOk (Nat.le_refl _) (I1.hok.fresh (Nat.le_refl _))
def seqD : D → Option (List D)
  | .list ds => some ds
  | .tuple ds => some ds
  | _ => none
def iD (fa : FE) : FI := fun ε S => match fa ε S with
  | some (x, S1) => (match toD x with
    | some d => (match seqD d with
      | some ds => some (ds, S1)
      | none => none)
    | none => none)
  | none => none
theorem itOk_list {ρ : List Addr} {H : Hp} {a : Addr} {xs : List V} {ds : List D} (bx : Bx ρ H) (q : SqN K ρ H a xs) (r : RpA K ρ H xs ds) : ItOk K ρ H (Itl K a) ds := fun i ρ' H' x => by
  have q' := (x.sqN q).sqL
  have r' := RpA.keep x bx _ _ r
  refine ⟨fun h => ⟨xs, q', by rw [r.length]; exact h⟩, fun h => ?_⟩
  have hd : ds[i]? = some ds[i] := List.getElem?_eq_getElem h
  obtain ⟨v, h1, h2⟩ := r'.get hd
  refine ⟨⟨xs, v, q', h1⟩, fun y H'' hy => ⟨hy.1, ds[i], hd, ?_⟩⟩
  have := hy.2 xs q'
  rw [h1] at this; cases this
  exact h2
theorem itOk_tup {ρ : List Addr} {H : Hp} {a : Addr} {xs : List V} {ds : List D} (bx : Bx ρ H) (q : SqT K H a xs) (r : RpA K ρ H xs ds) : ItOk K ρ H (Itt K a) ds := fun i ρ' H' x => by
  have q' := x.sqT bx q
  have r' := RpA.keep x bx _ _ r
  refine ⟨fun h => ⟨xs, q', by rw [r.length]; exact h⟩, fun h => ?_⟩
  have hd : ds[i]? = some ds[i] := List.getElem?_eq_getElem h
  obtain ⟨v, h1, h2⟩ := r'.get hd
  refine ⟨⟨xs, v, q', h1⟩, fun y H'' hy => ⟨hy.1, ds[i], hd, ?_⟩⟩
  have := hy.2 xs q'
  rw [h1] at this; cases this
  exact h2
def nums (lo : Int) (n : Nat) : List D := (List.range n).map fun (i : Nat) => PyData.int (lo + (i : Int))
theorem itOk_range {ρ : List Addr} {H : Hp} (lo : Int) (n : Nat) : ItOk K ρ H (Itr lo n) (nums lo n) := fun i ρ' H' x => by
  have hl : (nums lo n).length = n := by simp [nums]
  rw [hl]
  refine ⟨fun h => h, fun h => ⟨h, fun y H'' hy => ⟨hy.1, .int (lo + i), by simp [nums, h], ?_⟩⟩⟩
  rw [hy.2]; exact .int _
section
variable {X : Cx} {tg l : Expr} {fa fb : FE} {fr : FA} {p pos : Pos}
theorem di_seq (hl : DE X l fa) : DI X tg l (iD fa) := ⟨PI.imp (pi_seq hl.pe) fun σ H R ⟨ρ, ε, S, ds, S', M, h, k⟩ => by
  unfold iD at h
  split at h
  · rename_i x S1 h1
    split at h
    · rename_i d h2
      split at h
      · rename_i ds' h3
        cases h
        refine ⟨ρ, ε, S, x, S', M, h1, fun v H1 ⟨st1, r1, _⟩ x1 => ?_⟩
        have rp := toD_ok r1 h2
        cases d with
        | list es =>
          cases h3
          cases rp with
          | @lst a xs _ q r => exact ⟨a, rfl, .inl ⟨⟨xs, q.sqL⟩, k _ H1 st1 x1 (itOk_list st1.bx q r)⟩⟩
        | tuple es =>
          cases h3
          cases rp with
          | @tup a xs _ q r => exact ⟨a, rfl, .inr ⟨⟨xs, q⟩, k _ H1 st1 x1 (itOk_tup st1.bx q r)⟩⟩
        | _ => cases h3
      · cases h
    · cases h
  · cases h⟩
def okI (i : Int) : Bool := decide (-(2 ^ 62) ≤ i ∧ i < 2 ^ 62)
def iRange1 (fr : FA) : FI := fun ε S => match fr ε S with
  | some ([x], S1) => (match rd S1 x with
    | some (.int j) => if okI j = true then some (nums 0 j.toNat, S1) else none
    | _ => none)
  | _ => none
def iRange2 (fr : FA) : FI := fun ε S => match fr ε S with
  | some ([x, y], S1) => (match rd S1 x, rd S1 y with
    | some (.int i), some (.int j) => if (okI i && okI j) = true then some (nums i (j - i).toNat, S1) else none
    | _, _ => none)
  | _ => none
theorem di_range1 {a : Expr} (hg : Gl X "range") (hm : X.mg "range" = none) (ha : DA X [a] fr) (hs : starEach [a] X.env = [(false, eval a X.env)] := by rfl) : DI X tg (.Call (.Name "range" p) [a] [] pos) (iRange1 fr) := ⟨PI.imp (pi_range1 hg hm ha.pa hs) fun σ H R ⟨ρ, ε, S, ds, S', M, h, k⟩ => by
  unfold iRange1 at h
  split at h
  · rename_i x S1 h1
    split at h
    · rename_i j e1
      split at h
      · rename_i hc
        cases h
        have hc := of_decide_eq_true hc
        refine ⟨ρ, ε, S, _, S', M, h1, fun vs H1 st1 r1 x1 => ?_⟩
        cases r1 with
        | cons r1 r2 =>
          cases r2
          exact ⟨j, by rw [rd_int r1 e1], hc.1, hc.2, k _ H1 st1 x1 (itOk_range 0 _)⟩
      · cases h
    · cases h
  · cases h⟩
theorem di_range2 {a b : Expr} (hg : Gl X "range") (hm : X.mg "range" = none) (ha : DA X [a, b] fr) (hs : starEach [a, b] X.env = [(false, eval a X.env), (false, eval b X.env)] := by rfl) (hs2 : starEach [b] X.env = [(false, eval b X.env)] := by rfl) : DI X tg (.Call (.Name "range" p) [a, b] [] pos) (iRange2 fr) := ⟨PI.imp (pi_range2 hg hm ha.pa hs hs2) fun σ H R ⟨ρ, ε, S, ds, S', M, h, k⟩ => by
  unfold iRange2 at h
  split at h
  · rename_i x y S1 h1
    split at h
    · rename_i i j e1 e2
      split at h
      · rename_i hc
        cases h
        rw [Bool.and_eq_true] at hc
        have c1 := of_decide_eq_true hc.1
        have c2 := of_decide_eq_true hc.2
        refine ⟨ρ, ε, S, _, S', M, h1, fun vs H1 st1 r1 x1 => ?_⟩
        cases r1 with
        | cons r1 r2 =>
          cases r2 with
          | cons r2 r3 =>
            cases r3
            exact ⟨i, j, by rw [rd_int r1 e1, rd_int r2 e2], ⟨c1.1, c1.2, c2.1, c2.2⟩, k _ H1 st1 x1 (itOk_range i _)⟩
      · cases h
    · cases h
  · cases h⟩
end
end DL

set_option linter.all false
set_option maxRecDepth 100000
namespace DL
open PySem PySem.Spec L2
variable {K : PySem.W.Frag}
/-! ### weaker and stronger -/
mutual
theorem Rp.weak {ρ ρ' : List Addr} {H : Hp} (h : ∀ a ∈ ρ, a ∈ ρ') : ∀ (d : D) (v : V), Rp K ρ' H v d → Rp K ρ H v d
  | .none, _, r => by cases r; exact .non
  | .bool b, _, r => by cases r; exact .bl b
  | .int i, _, r => by cases r; exact .int i
  | .str s, _, r => by cases r; exact .str s
  | .list ds, _, r => by
    cases r with
    | lst q r =>
      refine .lst ?_ (RpA.weak h ds _ r)
      rcases q with ⟨n, q⟩ | q
      · exact .inl ⟨fun z => n (h _ z), q⟩
      · exact .inr q
  | .tuple ds, _, r => by cases r with | tup q r => exact .tup q (RpA.weak h ds _ r)
  | .dict _, _, r => by cases r with | dct n e => exact .dct (fun z => n (h _ z)) e
theorem RpA.weak {ρ ρ' : List Addr} {H : Hp} (h : ∀ a ∈ ρ, a ∈ ρ') : ∀ (ds : List D) (vs : List V), RpA K ρ' H vs ds → RpA K ρ H vs ds
  | [], _, r => by cases r; exact .nil
  | d :: ds, _, r => by cases r with | cons a b => exact .cons (Rp.weak h d _ a) (RpA.weak h ds _ b)
end
theorem RpE.weak {ρ ρ' : List Addr} {H : Hp} (h : ∀ a ∈ ρ, a ∈ ρ') : ∀ {vs : List (V × V)} {ds : List D}, RpE K ρ' H vs ds → RpE K ρ H vs ds
  | _, _, .nil => .nil
  | _, _, .cons a b c => .cons (Rp.weak h _ _ a) (Rp.weak h _ _ b) (RpE.weak h c)
theorem DcAt.weak {ρ ρ' : List Addr} {H : Hp} (h : ∀ a ∈ ρ, a ∈ ρ') {a : Addr} {b : Bool} {ds : List D} (q : DcAt K ρ' H a b ds) : DcAt K ρ H a b ds := by
  cases q with
  | k h1 h2 => exact .k h1 (h2.weak h)
  | w h1 h2 h3 h4 h5 h6 => exact .w h1 h2 h3 h4 (h5.weak h) h6
theorem StOk.drop {ρ : List Addr} {more : List Addr} {H : Hp} {S : Bxs} (st : StOk K (ρ ++ more) H S) : StOk K ρ H (S.take ρ.length) := by
  have hl := st.len
  rw [List.length_append] at hl
  refine ⟨by rw [List.length_take]; omega, (List.nodup_append.mp st.nd).1, fun k a e => ?_, st.tb⟩
  have hk := (List.getElem?_eq_some_iff.mp e).1
  obtain ⟨ds, e1, e2⟩ := st.at0 k a (by rw [List.getElem?_append_left hk]; exact e)
  refine ⟨ds, by rw [List.getElem?_take, if_pos hk]; exact e1, ?_⟩
  rcases e2 with ⟨xs, e2, e3⟩ | e2
  · exact .inl ⟨xs, e2, RpA.weak (fun a h => List.mem_append_left _ h) _ _ e3⟩
  · obtain ⟨b, e2⟩ := e2
    exact .inr ⟨b, e2.weak fun a h => List.mem_append_left _ h⟩
theorem Ext.drop {ρ more : List Addr} {H H' : Hp} (x : Ext K ρ H (ρ ++ more) H') : Ext K ρ H ρ H' := ⟨⟨[], by simp⟩, x.keep, x.box, fun _ h => .inl h, x.tab, x.tabr⟩
/-- a kept list gets another content -/
theorem Ext.put {ρ : List Addr} {H : Hp} {p : Addr} {o o0 : HO} (hp : p ∈ ρ) (h0 : H p = some o0) (hk : kd o = kd o0) (h2 : kd o0 ≤ 2 := by simp [kd]) : Ext K ρ H ρ (L2.upd H p o) :=
  ⟨⟨[], by simp⟩, fun a u e n _ => by rw [upd_ne (fun z : a = p => n (by rw [z]; exact hp))]; exact e, fun a u e _ => by
    by_cases z : a = p
    · subst z
      rw [h0] at e; cases e
      exact ⟨o, upd_same, hk⟩
    · exact ⟨u, by rw [upd_ne z]; exact e, rfl⟩, fun _ q => .inl q, fun a ps e => ⟨ps, by
    rw [upd_ne (fun z => by subst z; rw [h0] at e; cases e; simp [kd] at h2)]; exact e⟩, fun P q _ t => t.upd fun u e => by rw [h0] at e; cases e; exact h2⟩
theorem Ext.putL {ρ : List Addr} {H : Hp} {p : Addr} {xs : List V} (hp : p ∈ ρ) (hl : IsL H p) : Ext K ρ H ρ (L2.upd H p (.lst xs)) := by
  obtain ⟨ys, e⟩ := hl
  exact Ext.put hp e rfl
theorem StOk.put {ρ : List Addr} {H : Hp} {S : Bxs} (st : StOk K ρ H S) {k : Nat} {p : Addr} {xs : List V} {ds : List D} (hp : ρ[k]? = some p) (hl : IsL H p) (r : RpA K ρ H xs ds) : StOk K ρ (L2.upd H p (.lst xs)) (S.set k ds) := by
  have hm := List.mem_of_getElem? hp
  have hk := (List.getElem?_eq_some_iff.mp hp).1
  refine ⟨by simp [st.len], st.nd, fun j a e => ?_, fun P q t => (Ext.putL (K := K) (ρ := ρ) hm hl).tabr P q t (st.tb P q t)⟩
  by_cases z : j = k
  · subst z
    rw [hp] at e; cases e
    exact ⟨ds, List.getElem?_set_self (by rw [← st.len]; exact hk), .inl ⟨xs, upd_same, RpA.keep (Ext.putL hm hl) st.bx _ _ r⟩⟩
  · obtain ⟨es, e1, e2⟩ := st.at0 j a e
    have ne : a ≠ p := fun q => z ((List.getElem?_inj (List.getElem?_eq_some_iff.mp e).1 st.nd).mp (by rw [e, hp, q]))
    refine ⟨es, by rw [List.getElem?_set_ne (fun q => z q.symm)]; exact e1, ?_⟩
    rcases e2 with ⟨ys, e2, e3⟩ | e2
    · exact .inl ⟨ys, by rw [upd_ne ne]; exact e2, RpA.keep (Ext.putL hm hl) st.bx _ _ e3⟩
    · obtain ⟨b, e2⟩ := e2
      exact .inr ⟨b, e2.stay (Ext.putL hm hl) st.bx (upd_ne ne)⟩
/-! ### tests in a row -/
structure DTs (X : Cx) (ifs : List Expr) (f : FT) : Prop where
  pts : PTs X ifs (tDT X.K f)
def fYes : FT := fun _ S => some (true, S)
theorem dts_nil {X : Cx} : DTs X [] fYes := ⟨fun pins s σ H Q I ⟨ρ, ε, S, b, S', M, h, k⟩ => pts_nil pins s σ H Q I (by cases h; exact k H M.st (Ext.refl _ _))⟩
theorem dts_one {X : Cx} {c : Expr} {f : FT} (h : DT X c f) : DTs X [c] f := ⟨pts_one h.pt⟩
/-! ### comprehensions -/
def wipeE (ε : DEnv) : List Nat → DEnv
  | [] => ε
  | v :: vs => (wipeE ε vs).set v none
theorem Sim.wipe {ρ : List Addr} {ε : DEnv} {S : Bxs} {σ : L2.St} {H : Hp} (M : Sim K ρ ε S σ H) : ∀ vs : List Nat, Sim K ρ (wipeE ε vs) S (wipe σ vs) H
  | [] => M
  | u :: vs => by
    have ih := M.wipe vs
    refine ⟨M.st, fun i dv e => ?_, by unfold wipeE L2.wipe; simp [ih.len]⟩
    unfold wipeE at e
    by_cases q : i = u
    · subst q
      by_cases hl : i < (wipeE ε vs).length
      · rw [List.getElem?_set_self hl] at e; cases e
      · rw [List.getElem?_eq_none (by simpa using hl)] at e; cases e
    · rw [List.getElem?_set_ne (fun z => q z.symm)] at e
      obtain ⟨v, h1, h2⟩ := ih.env i dv e
      exact ⟨v, by unfold L2.wipe; rw [List.getElem?_set_ne (fun z => q z.symm)]; exact h1, h2⟩
/-- the turns: the new list is the box at n -/
theorem wipe_in {σ : L2.St} {i : Nat} : ∀ {vs : List Nat}, i ∈ vs → i < σ.length → (wipe σ vs)[i]? = some none
  | v :: vs, h, hl => by
    unfold L2.wipe
    by_cases q : v = i
    · subst q
      rw [List.getElem?_set_self (by rw [wipe_length]; exact hl)]
    · rw [List.getElem?_set_ne q]
      exact wipe_in ((List.mem_cons.mp h).resolve_left fun z => q z.symm) hl
theorem wipe_idem (σ : L2.St) (vs : List Nat) : wipe (wipe σ vs) vs = wipe σ vs := by
  apply List.ext_getElem?
  intro i
  by_cases h : i ∈ vs
  · by_cases hl : i < σ.length
    · rw [wipe_in h (by rw [wipe_length]; exact hl), wipe_in h hl]
    · rw [List.getElem?_eq_none (by rw [wipe_length, wipe_length]; omega), List.getElem?_eq_none (by rw [wipe_length]; omega)]
  · exact wipe_out h
def compD (hg : FG) (ft : FT) (fe : FE) (ε0 : DEnv) (n : Nat) : List D → Bxs → Option Bxs
  | [], T => some T
  | d :: ds, T => match hg d ε0 with
    | some ε1 => (match ft ε1 T with
      | some (true, T1) => (match fe ε1 T1 with
        | some (y, T2) => (match toD y, T2[n]? with
          | some dy, some acc => if small (acc.length + 1) = true then compD hg ft fe ε0 n ds (T2.set n (acc ++ [dy])) else none
          | _, _ => none)
        | none => none)
      | some (false, T1) => compD hg ft fe ε0 n ds T1
      | none => none)
    | none => none
def fComp (vs : List Nat) (fi : FI) (hg : FG) (ft : FT) (fe : FE) : FE := fun ε S => match fi ε S with
  | some (ds, S1) => (match compD hg ft fe (wipeE ε vs) S1.length ds (S1 ++ [[]]) with
    | some T => (match T[S1.length]? with
      | some acc => some (.lst acc, T.take S1.length)
      | none => none)
    | none => none)
  | none => none
theorem small_lt {n : Nat} (h : small (n + 1) = true) : n < sizeLine := Nat.lt_of_lt_of_le (Nat.lt_succ_self n) (small_line h)
theorem comp_end {ρ : List Addr} {H H1 H' : Hp} {D : Addr} {S1 T : Bxs} {acc : List PyData} {xs : List V} (hn : ρ.length = S1.length) (hD : H1 D = none) (x1 : Ext K ρ H ρ H1) (st1 : StOk K ρ H1 S1) (st' : StOk K (ρ ++ [D]) H' T) (h3 : T[S1.length]? = some acc) (e2 : H' D = some (.lst xs)) (e3 : RpA K (ρ ++ [D]) H' xs acc) :
    Val K ρ H H' (T.take S1.length) (.ref D) (.lst acc) := by
  have tl : T = T.take S1.length ++ [acc] := by
    have l := st'.len
    rw [List.length_append, List.length_singleton, hn] at l
    obtain ⟨hh, e⟩ := List.getElem?_eq_some_iff.mp h3
    have : T.drop S1.length = [acc] := by
      rw [List.drop_eq_getElem_cons hh, e, List.drop_eq_nil_of_le (by omega)]
    rw [← this, List.take_append_drop]
  refine ⟨by rw [← hn]; exact st'.drop, .lst (x1.free hD) e2 (st1.notin hD) (RpA.weak (fun a h => List.mem_append_left _ h) _ _ e3), ⟨fun p ds e1 e4 => ?_, (fun _ _ _ _ e => nomatch e)⟩⟩
  cases e1; cases e4
  rw [← tl]; exact st'
theorem comp_tD {vs is : List Nat} {fi : FI} {hg : FG} {ft : FT} {fe : FE} (sub : ∀ i ∈ is, i ∈ vs) {σ : L2.St} {H : Hp} {Q : VK} (h : tD K (fComp vs fi hg ft fe) σ H Q) : tLc (tDI K fi) (tG K hg is) (tDT K ft) (tD K fe) vs σ H Q := by
  obtain ⟨ρ, ε, S, dv, S', M, h, k⟩ := h
  unfold fComp at h
  split at h
  · rename_i ds S1 h1
    split at h
    · rename_i T h2
      split at h
      · rename_i acc h3
        cases h
        refine ⟨ρ, ε, S, ds, S1, M, h1, fun J H1 st1 x1 it => ?_⟩
        intro D hD
        have Mw := (M.next x1 st1).wipe vs
        have xa : Ext K ρ H1 (ρ ++ [D]) (L2.upd H1 D (.lst [])) := Ext.adopt hD
        have sta := st1.adopt (ds := []) hD .nil
        have hn : ρ.length = S1.length := st1.len
        have at_D : (ρ ++ [D])[S1.length]? = some D := by rw [← hn, List.getElem?_append_right (Nat.le_refl _)]; simp
        have mem_D : D ∈ ρ ++ [D] := by simp
        -- between two turns
        refine ⟨fun i m H' => m = ds.length - i ∧ i ≤ ds.length ∧ ∃ T', Ext K (ρ ++ [D]) (L2.upd H1 D (.lst [])) (ρ ++ [D]) H' ∧ StOk K (ρ ++ [D]) H' T' ∧ compD hg ft fe (wipeE ε vs) S1.length (ds.drop i) T' = some T,
          ⟨ds.length, by simp, Nat.zero_le _, _, Ext.refl _ _, sta, by simpa using h2⟩, ?_⟩
        rintro i m H' ⟨rfl, hi, T', x', st', hc⟩
        have hLD : IsL H' D := x'.isL ⟨[], upd_same⟩
        have x0 := xa.trans x'
        obtain ⟨stop, go⟩ := it i (ρ ++ [D]) H' x0
        by_cases hlt : i < ds.length
        · obtain ⟨g1, g2⟩ := go hlt
          refine .inr ⟨g1, fun H'' => ∃ T'', Ext K (ρ ++ [D]) (L2.upd H1 D (.lst [])) (ρ ++ [D]) H'' ∧ StOk K (ρ ++ [D]) H'' T'' ∧ compD hg ft fe (wipeE ε vs) S1.length (ds.drop (i + 1)) T'' = some T, fun H'' ⟨T'', a, b, c⟩ => ⟨ds.length - (i + 1), by omega, rfl, hlt, T'', a, b, c⟩, fun y H'' hy => ?_⟩
          obtain ⟨rfl, d, hd, rp⟩ := g2 y H'' hy
          have e0 : ds.drop i = d :: ds.drop (i + 1) := by
            rw [List.drop_eq_getElem_cons hlt]
            congr 1
            exact (List.getElem?_eq_some_iff.mp hd).2
          rw [e0] at hc
          unfold compD at hc
          split at hc
          · rename_i ε1 c1
            refine ⟨ρ ++ [D], _, T', d, ε1, Mw.next x0 st', rp, c1, fun σ2 M2 w2 => ⟨by rw [w2 vs sub]; exact wipe_idem _ _, ?_⟩⟩
            split at hc
            · rename_i T1 c2
              refine ⟨ρ ++ [D], ε1, T', true, T1, M2, c2, fun H3 st3 x3 => ?_⟩
              dsimp only
              rw [if_pos rfl]
              split at hc
              · rename_i yv T2 c3
                split at hc
                · rename_i dy ac c4 c5
                  split at hc
                  · rename_i c6
                    refine ⟨ρ ++ [D], ε1, T1, yv, T2, M2.next x3 st3, c3, fun v H4 ⟨st4, r4, _⟩ x4 => ?_⟩
                    obtain ⟨xs, ds', e1, e2, e3⟩ := st4.at' S1.length D at_D ((x3.trans x4).isL hLD)
                    rw [c5] at e1; cases e1
                    refine ⟨xs, e2, by rw [e3.length]; exact small_lt c6, T2.set S1.length (ac ++ [dy]), (x'.trans (x3.trans x4)).trans (Ext.putL mem_D ⟨_, e2⟩), st4.put at_D ⟨_, e2⟩ (e3.append (.cons (toD_ok r4 c4) .nil)), hc⟩
                  · cases hc
                · cases hc
              · cases hc
            · rename_i T1 c2
              refine ⟨ρ ++ [D], ε1, T', false, T1, M2, c2, fun H3 st3 x3 => ?_⟩
              dsimp only
              rw [if_neg Bool.false_ne_true]
              exact ⟨T1, x'.trans x3, st3, hc⟩
            · cases hc
          · cases hc
        · have : i = ds.length := by omega
          subst this
          refine .inl ⟨stop (Nat.le_refl _), ?_⟩
          rw [List.drop_length] at hc
          cases hc
          obtain ⟨xs, ds', e1, e2, e3⟩ := st'.at' S1.length D at_D hLD
          rw [h3] at e1; cases e1
          exact k (.ref D) H' (comp_end hn hD x1 st1 st' h3 e2 e3) (x1.trans x0.drop)
      · cases h
    · cases h
  · cases h
end DL

set_option linter.all false
set_option maxRecDepth 100000
namespace DL
open PySem PySem.Spec L2
variable {K : PySem.W.Frag}
section
variable {X : Cx} {elt tg iter tg1 iter1 : Expr} {ifs ifs1 : List Expr} {scope : Scope} {own : List (Str × Nat)} {vs1 is is1 : List Nat} {pos : Pos} {fi fi1 : FI} {hg hg1 : FG} {ft ft1 : FT} {fe : FE}
/-- every block of this scope -/
abbrev Blk (X : Cx) (scope : Scope) (P : Cx → Prop) : Prop := ∀ (s : Shared) (H : Hp) (C : Addr) (cl : List (Str × Addr)) (fp : List Addr), P (X.blk s H scope (compEnvC scope cl C X.env) fp)
theorem de_lc (hc : X.calm = true) (hN : X.N.Nodup) (hi : DI X tg iter fi) (ok : BlkOk X.N X.env.scope scope own) (dg : Blk X scope fun Y => DG Y tg hg is) (dt : Blk X scope fun Y => DTs Y ifs ft) (de : Blk X scope fun Y => DE Y elt fe)
    (sub : ∀ i ∈ is, i ∈ own.map (·.2) := by decide) (hs : ∀ x, foldedSetIterable iter X.env x = pure x := by intro _; rfl) : DE X (.ListComp elt [⟨tg, iter, ifs, 0⟩] scope pos) (fComp (own.map (·.2)) fi hg ft fe) :=
  ⟨PE.imp (pe_lc hc hN hi.pi ok (fun s H C cl fp => (dg s H C cl fp).pg) (fun s H C cl fp => (dt s H C cl fp).pts) (fun s H C cl fp => (de s H C cl fp).pe) hs) fun σ H Q h => comp_tD sub h⟩
end
end DL

set_option linter.all false
set_option maxRecDepth 100000
namespace DL
open PySem PySem.Spec L2
variable {K : PySem.W.Frag}
/-! ### statements -/
inductive Out where
  | nx (ε : DEnv) (S : Bxs)
  | rt (dv : DV) (S : Bxs)
  | bk (ε : DEnv) (S : Bxs)
  | ct (ε : DEnv) (S : Bxs)
abbrev FS := DEnv → Bxs → Option Out
def EndOk (K : PySem.W.Frag) (ρ : List Addr) (H : Hp) (E : Ends) : Out → Prop
  | .nx ε S => ∀ σ' H' ρ', Ext K ρ H ρ' H' → Sim K ρ' ε S σ' H' → E.nx σ' H'
  | .bk ε S => ∀ σ' H' ρ', Ext K ρ H ρ' H' → Sim K ρ' ε S σ' H' → E.bk σ' H'
  | .ct ε S => ∀ σ' H' ρ', Ext K ρ H ρ' H' → Sim K ρ' ε S σ' H' → E.ct σ' H'
  | .rt dv S => ∀ v H' ρ', Ext K ρ H ρ' H' → Val K ρ' H H' S v dv → E.rt v H'
theorem EndOk.later {ρ ρ1 : List Addr} {H H1 : Hp} {E : Ends} {o : Out} (k : EndOk K ρ H E o) (x : Ext K ρ H ρ1 H1) : EndOk K ρ1 H1 E o := by
  cases o with
  | nx ε S => exact fun σ' H' ρ' y M => k σ' H' ρ' (x.trans y) M
  | bk ε S => exact fun σ' H' ρ' y M => k σ' H' ρ' (x.trans y) M
  | ct ε S => exact fun σ' H' ρ' y M => k σ' H' ρ' (x.trans y) M
  | rt dv S => exact fun v H' ρ' y r => k v H' ρ' (x.trans y) (r.back fun p q => x.free q)
def sD (K : PySem.W.Frag) (g : FS) : TS := fun E σ H => ∃ ρ ε S o, Sim K ρ ε S σ H ∧ g ε S = some o ∧ EndOk K ρ H E o
structure DS (X : Cx) (st : Stmt) (g : FS) : Prop where
  ps : PS X st (sD X.K g)
structure DSs (X : Cx) (st : List Stmt) (g : FS) : Prop where
  pss : PSs X st (sD X.K g)
def sNil : FS := fun ε S => some (.nx ε S)
def sSeq (g g' : FS) : FS := fun ε S => match g ε S with
  | some (.nx ε1 S1) => g' ε1 S1
  | some o => some o
  | none => none
def sRet (f : FE) : FS := fun ε S => match f ε S with
  | some (dv, S1) => some (.rt dv S1)
  | none => none
def sExpr (f : FE) : FS := fun ε S => match f ε S with
  | some (_, S1) => some (.nx ε S1)
  | none => none
def sIf (ft : FT) (g g' : FS) : FS := fun ε S => match ft ε S with
  | some (true, S1) => g ε S1
  | some (false, S1) => g' ε S1
  | none => none
/-- x = e -/
def sSet (i : Nat) (f : FE) : FS := fun ε S => match f ε S with
  | some (dv, S1) => some (.nx (ε.set i (some (norm dv))) S1)
  | none => none
/-- x = e, a list just made that is changed later -/
def sSetB (i : Nat) (f : FE) : FS := fun ε S => match f ε S with
  | some (.lst ds, S1) => some (.nx (ε.set i (some (.box S1.length))) (S1 ++ [ds]))
  | _ => none
section
variable {X : Cx} {st : Stmt} {rest : List Stmt} {g g' : FS} {e : Expr} {f : FE} {pos : Pos}
theorem dss_nil : DSs X [] sNil := ⟨fun pins s σ H E I ⟨ρ, ε, S, o, M, h, k⟩ => pss_nil pins s σ H E I (by cases h; exact k σ H ρ (Ext.refl _ _) M)⟩
theorem dss_cons (h1 : DS X st g) (h2 : DSs X rest g') : DSs X (st :: rest) (sSeq g g') := ⟨fun pins s σ H E I ⟨ρ, ε, S, o, M, h, k⟩ => pss_cons h1.ps h2.pss pins s σ H E I (by
  unfold sSeq at h
  split at h
  · rename_i ε1 S1 e1
    exact ⟨ρ, ε, S, .nx ε1 S1, M, e1, fun σ' H' ρ' x M' => ⟨ρ', ε1, S1, o, M', h, k.later x⟩⟩
  · rename_i o' hn e1
    cases h
    refine ⟨ρ, ε, S, o, M, e1, ?_⟩
    cases o with
    | nx ε1 S1 => exact absurd rfl (hn ε1 S1)
    | bk ε1 S1 => exact k
    | ct ε1 S1 => exact k
    | rt dv S1 => exact k
  · cases h)⟩
theorem dss_one (h1 : DS X st g) : DSs X [st] g := ⟨pss_one h1.ps⟩
theorem ds_expr (he : DE X e f) (hs : swapsWith e none pos.line X.env = pure false := by rfl) : DS X (.Expr e pos) (sExpr f) := ⟨fun pins s σ H E I ⟨ρ, ε, S, o, M, h, k⟩ => ps_expr he.pe hs pins s σ H E I (by
  unfold sExpr at h
  split at h
  · rename_i dv S1 h1
    cases h
    exact ⟨ρ, ε, S, dv, S1, M, h1, fun v H1 v1 x1 => k σ H1 ρ x1 (M.next x1 v1.st)⟩
  · cases h)⟩
theorem ds_ret (he : DE X e f) : DS X (.Return (some e) pos) (sRet f) := ⟨fun pins s σ H E I ⟨ρ, ε, S, o, M, h, k⟩ => ps_ret he.pe pins s σ H E I (by
  unfold sRet at h
  split at h
  · rename_i dv S1 h1
    cases h
    exact ⟨ρ, ε, S, dv, S1, M, h1, fun v H1 v1 x1 => k v H1 ρ x1 v1⟩
  · cases h)⟩
theorem ds_if {c : Expr} {a b : List Stmt} {ft : FT} (hc : DT X c ft) (ha : DSs X a g) (hb : DSs X b g') : DS X (.If c a b pos) (sIf ft g g') := ⟨fun pins s σ H E I ⟨ρ, ε, S, o, M, h, k⟩ => ps_if hc.pt ha.pss hb.pss pins s σ H E I (by
  unfold sIf at h
  split at h
  · rename_i S1 h1
    refine ⟨ρ, ε, S, true, S1, M, h1, fun H1 st1 x1 => ?_⟩
    dsimp only
    rw [if_pos rfl]
    exact ⟨ρ, ε, S1, o, M.next x1 st1, h, k.later x1⟩
  · rename_i S1 h1
    refine ⟨ρ, ε, S, false, S1, M, h1, fun H1 st1 x1 => ?_⟩
    dsimp only
    rw [if_neg Bool.false_ne_true]
    exact ⟨ρ, ε, S1, o, M.next x1 st1, h, k.later x1⟩
  · cases h)⟩
/-- what a store by a name wants, from any reading of the value -/
theorem set_sD {te : TE} {i : Nat} (ht : ∀ σ H Q, tD X.K f σ H Q → te σ H Q) {E : Ends} {σ : L2.St} {H : Hp} (h : sD X.K (sSet i f) E σ H) : tAsg te (gName i) E σ H := by
  obtain ⟨ρ, ε, S, o, M, h, k⟩ := h
  unfold sSet at h
  split at h
  · rename_i dv S1 h1
    cases h
    refine ht _ _ _ ⟨ρ, ε, S, dv, S1, M, h1, fun v H1 ⟨st1, r1, _⟩ x1 => ?_⟩
    exact k _ H1 ρ x1 ((M.next x1 st1).set r1.norm)
  · cases h
theorem setB_sD {te : TE} {i : Nat} (ht : ∀ σ H Q, tD X.K f σ H Q → te σ H Q) {E : Ends} {σ : L2.St} {H : Hp} (h : sD X.K (sSetB i f) E σ H) : tAsg te (gName i) E σ H := by
  obtain ⟨ρ, ε, S, o, M, h, k⟩ := h
  unfold sSetB at h
  split at h
  · rename_i ds S1 h1
    cases h
    refine ht _ _ _ ⟨ρ, ε, S, .lst ds, S1, M, h1, fun v H1 ⟨st1, r1, ad⟩ x1 => ?_⟩
    cases r1 with
    | @lst p xs _ hp hh n r =>
      have x2 : Ext X.K ρ H (ρ ++ [p]) H1 := ⟨⟨[p], rfl⟩, x1.keep, x1.box, fun a q => (List.mem_append.mp q).elim .inl fun z => .inr (by rw [List.mem_singleton.mp z]; exact hp), x1.tab, x1.tabr⟩
      have M2 := M.next x2 (ad.1 p ds rfl rfl)
      refine k _ H1 (ρ ++ [p]) x2 (M2.set (.box ?_ ⟨_, hh⟩))
      rw [← st1.len, List.getElem?_append_right (Nat.le_refl _)]; simp
  · cases h
theorem ds_set {i : Nat} {x : Str} {pos' : Pos} (hN : X.N.Nodup) (hi : X.N[i]? = some x) (hx : Loc X.env.scope x) (he : DE X e f) (hs : swapsWith e (some (.Name x pos')) pos.line X.env = pure false := by rfl) (hf : X.fn x = true ∨ X.env.scope.names.lookup x = some .local := by first | exact .inl rfl | exact .inr rfl | assumption) :
    DS X (.Assign [.Name x pos'] e pos) (sSet i f) := ⟨fun pins s σ H E I h => ps_set hN hi hx he.pe hs hf pins s σ H E I (set_sD (fun _ _ _ q => q) h)⟩
theorem ds_setB {i : Nat} {x : Str} {pos' : Pos} (hN : X.N.Nodup) (hi : X.N[i]? = some x) (hx : Loc X.env.scope x) (he : DE X e f) (hs : swapsWith e (some (.Name x pos')) pos.line X.env = pure false := by rfl) (hf : X.fn x = true ∨ X.env.scope.names.lookup x = some .local := by first | exact .inl rfl | exact .inr rfl | assumption) :
    DS X (.Assign [.Name x pos'] e pos) (sSetB i f) := ⟨fun pins s σ H E I h => ps_set hN hi hx he.pe hs hf pins s σ H E I (setB_sD (fun _ _ _ q => q) h)⟩
end
section
variable {X : Cx} {y : Str} {py : Pos} {i : Nat} {spos : Pos} {elt tg iter tg1 iter1 : Expr} {ifs ifs1 : List Expr} {scope : Scope} {own : List (Str × Nat)} {vs1 is is1 : List Nat} {pos : Pos} {fi fi1 : FI} {hg hg1 : FG} {ft ft1 : FT} {fe : FE}
end
end DL

set_option linter.all false
set_option maxRecDepth 100000
namespace DL
open PySem PySem.Spec L2
variable {K : PySem.W.Frag}
/-! ### for -/
def forD (hg : FG) (gb : FS) : List D → DEnv → Bxs → Option Out
  | [], ε, S => some (.nx ε S)
  | d :: ds, ε, S => match hg d ε with
    | some ε1 => (match gb ε1 S with
      | some (.nx ε2 S2) => forD hg gb ds ε2 S2
      | some (.ct ε2 S2) => forD hg gb ds ε2 S2
      | some (.bk ε2 S2) => some (.nx ε2 S2)
      | some (.rt v S2) => some (.rt v S2)
      | none => none)
    | none => none
def sFor (fi : FI) (hg : FG) (gb : FS) : FS := fun ε S => match fi ε S with
  | some (ds, S1) => forD hg gb ds ε S1
  | none => none
section
variable {X : Cx} {pos : Pos}
theorem ds_for {tg iter : Expr} {body : List Stmt} {fi : FI} {hg : FG} {is : List Nat} {gb : FS} (hp : PassesOwn (model X.prog X.w) X.A X.env X.xe) (hc : X.calm = true) (hi : DI X tg iter fi) (dg : DG X tg hg is) (hb : DSs X body gb)
    (hs : ∀ x, foldedSetIterable iter X.env x = pure x := by intro _; rfl) : DS X (.For tg iter body [] pos) (sFor fi hg gb) := ⟨fun pins s σ H E I ⟨ρ, ε, S, o, M, h, k⟩ => ps_for hp hc hi.pi dg.pg hb.pss hs pins s σ H E I (by
  unfold sFor at h
  split at h
  · rename_i ds S1 h1
    refine ⟨ρ, ε, S, ds, S1, M, h1, fun J H1 st1 x1 it => ?_⟩
    refine ⟨fun i m σ' H' => m = ds.length - i ∧ i ≤ ds.length ∧ ∃ ρ' ε' S', Ext X.K ρ H1 ρ' H' ∧ Sim X.K ρ' ε' S' σ' H' ∧ forD hg gb (ds.drop i) ε' S' = some o,
      ⟨ds.length, by simp, Nat.zero_le _, ρ, ε, S1, Ext.refl _ _, M.next x1 st1, by simpa using h⟩, ?_⟩
    rintro i m σ' H' ⟨rfl, hi, ρ', ε', S', x', M', hc⟩
    obtain ⟨stop, go⟩ := it i ρ' H' x'
    by_cases hlt : i < ds.length
    · obtain ⟨g1, g2⟩ := go hlt
      refine .inr ⟨g1, fun σ'' H'' => ∃ ρ'' ε'' S'', Ext X.K ρ H1 ρ'' H'' ∧ Sim X.K ρ'' ε'' S'' σ'' H'' ∧ forD hg gb (ds.drop (i + 1)) ε'' S'' = some o, fun σ'' H'' ⟨ρ'', ε'', S'', a, b, c⟩ => ⟨ds.length - (i + 1), by omega, rfl, hlt, ρ'', ε'', S'', a, b, c⟩, fun y H'' hy => ?_⟩
      obtain ⟨rfl, d, hd, rp⟩ := g2 y H'' hy
      have e0 : ds.drop i = d :: ds.drop (i + 1) := by
        rw [List.drop_eq_getElem_cons hlt]
        congr 1
        exact (List.getElem?_eq_some_iff.mp hd).2
      rw [e0] at hc
      unfold forD at hc
      split at hc
      · rename_i ε1 c1
        refine ⟨ρ', ε', S', d, ε1, M', rp, c1, fun σ2 M2 _ => ?_⟩
        split at hc
        · rename_i ε2 S2 c2
          exact ⟨ρ', ε1, S', .nx ε2 S2, M2, c2, fun σ3 H3 ρ3 x3 M3 => ⟨ρ3, ε2, S2, x'.trans x3, M3, hc⟩⟩
        · rename_i ε2 S2 c2
          exact ⟨ρ', ε1, S', .ct ε2 S2, M2, c2, fun σ3 H3 ρ3 x3 M3 => ⟨ρ3, ε2, S2, x'.trans x3, M3, hc⟩⟩
        · rename_i ε2 S2 c2
          cases hc
          exact ⟨ρ', ε1, S', .bk ε2 S2, M2, c2, fun σ3 H3 ρ3 x3 M3 => k σ3 H3 ρ3 (x1.trans (x'.trans x3)) M3⟩
        · rename_i v S2 c2
          cases hc
          exact ⟨ρ', ε1, S', .rt v S2, M2, c2, fun v' H3 ρ3 x3 r3 => k v' H3 ρ3 (x1.trans (x'.trans x3)) (r3.back fun p q => (x1.trans x').free q)⟩
        · cases hc
      · cases hc
    · have : i = ds.length := by omega
      subst this
      refine .inl ⟨stop (Nat.le_refl _), ?_⟩
      rw [List.drop_length] at hc
      cases hc
      exact k σ' H' ρ' (x1.trans x') M'
  · cases h)⟩
/-! ### xs[i] = e, a kept list -/
theorem RpA.set {ρ : List Addr} {H : Hp} {v : V} {d : D} (r : Rp K ρ H v d) : ∀ {vs : List V} {ds : List D} (i : Nat), RpA K ρ H vs ds → RpA K ρ H (vs.set i v) (ds.set i d)
  | _, _, _, .nil => .nil
  | _, _, 0, .cons _ b => .cons r b
  | _, _, i + 1, .cons a b => .cons a (RpA.set r i b)
def sPut (fo fi fe : FE) : FS := fun ε S => match fe ε S with
  | some (y, S1) => (match toD y with
    | some d => (match fo ε S1 with
      | some (.box k, S2) => (match fi ε S2 with
        | some (z, S3) => (match rd S3 z, S3[k]? with
          | some (.int i), some ds => (match ixN ds.length i with
            | some j => some (.nx ε (S3.set k (ds.set j d)))
            | none => none)
          | _, _ => none)
        | none => none)
      | _ => none)
    | none => none)
  | none => none
theorem ds_put {o i e : Expr} {fo fi fe : FE} {tpos : Pos} (ho : DE X o fo) (hi : DE X i fi) (he : DE X e fe) (ha : ∀ v, assign (.Subscript o i tpos) X.env v = (do
      let ov ← holding [v] (eval o X.env)
      let iv ← holding [v, ov] (eval i X.env)
      standAt tpos
      holding [v, ov, iv] (setItem ov iv v)
      release [v, ov, iv] []) := by intro _; rfl) (hs : swapsWithSole [.Subscript o i tpos] e pos.line X.env = pure false := by rfl) (hw : swappedStores [.Subscript o i tpos] e X.env = pure none := by rfl)
    (h1 : (assignEach [.Subscript o i tpos] X.env).map (·.2) = [assign (.Subscript o i tpos) X.env] := by rfl) : DS X (.Assign [.Subscript o i tpos] e pos) (sPut fo fi fe) := ⟨fun pins s σ H E I ⟨ρ, ε, S, out, M, h, k⟩ => ps_asg he.pe (pg_sub ho.pe hi.pe set_list ha) hs hw h1 pins s σ H E I (by
  unfold sPut at h
  split at h
  · rename_i y S1 e1
    split at h
    · rename_i d e2
      split at h
      · rename_i b S2 e3
        split at h
        · rename_i z S3 e4
          split at h
          · rename_i ii ds e5 e6
            split at h
            · rename_i j e7
              cases h
              refine ⟨ρ, ε, S, y, S1, M, e1, fun v H1 ⟨st1, r1, _⟩ x1 => ?_⟩
              refine ⟨ρ, ε, S1, .box b, S2, M.next x1 st1, e3, fun u H2 ⟨st2, r2, _⟩ x2 => ?_⟩
              refine ⟨ρ, ε, S2, z, S3, (M.next x1 st1).next x2 st2, e4, fun w H3 ⟨st3, r3, _⟩ x3 => ?_⟩
              cases r2 with
              | @box _ p hp hl =>
                obtain ⟨xs, ds', f1, f2, f3⟩ := st3.at' b p hp (x3.isL hl)
                rw [e6] at f1; cases f1
                have rv : Rp X.K ρ H3 v d := Rp.keep x3 st2.bx _ _ (Rp.keep x2 st1.bx _ _ (toD_ok r1 e2))
                have hm : p ∈ ρ := List.mem_of_getElem? hp
                refine ⟨p, xs, ii, j, rfl, rd_int r3 e5, f2, by rw [f3.length]; exact e7, ?_⟩
                have xx := (x1.trans (x2.trans x3)).trans (Ext.putL (xs := xs.set j v) hm ⟨_, f2⟩)
                exact k σ _ ρ xx (M.next xx (st3.put hp ⟨_, f2⟩ (RpA.set rv j f3)))
            · cases h
          · cases h
        · cases h
      · cases h
    · cases h
  · cases h)⟩
/-! ### methods of a kept list -/
def fAppend (fo : FE) (fr : FA) : FE := fun ε S => match fo ε S with
  | some (.box k, S1) => (match fr ε S1 with
    | some ([y], S2) => (match toD y, S2[k]? with
      | some d, some acc => if small (acc.length + 1) = true then some (.dat .none, S2.set k (acc ++ [d])) else none
      | _, _ => none)
    | _ => none)
  | _ => none
/-- the list that is there, by itself -/
def ownL (S : Bxs) : DV → Option (List D)
  | .lst ds => some ds
  | .box k => S[k]?
  | .dat _ => none
  | .dct _ _ => none
  | .dbx _ _ => none
  | .dcd _ _ => none
def fExtend (fo : FE) (fr : FA) : FE := fun ε S => match fo ε S with
  | some (.box k, S1) => (match fr ε S1 with
    | some ([y], S2) => (match ownL S2 y, S2[k]? with
      | some ds, some acc => if small (acc.length + ds.length) = true then some (.dat .none, S2.set k (acc ++ ds)) else none
      | _, _ => none)
    | _ => none)
  | _ => none
theorem ownL_ok {ρ : List Addr} {S : Bxs} {H0 H : Hp} {v : V} {dv : DV} {ds : List D} (st : StOk K ρ H S) (r : RV K ρ H0 H v dv) (h : ownL S dv = some ds) : ∃ p xs, v = .ref p ∧ H p = some (.lst xs) ∧ RpA K ρ H xs ds := by
  cases r with
  | dat _ => cases h
  | lst a b n r => cases h; exact ⟨_, _, rfl, b, r⟩
  | dct _ _ _ => cases h
  | dbx _ _ => cases h
  | dcd _ _ => cases h
  | @box k a e hl =>
    obtain ⟨xs, ds', f1, f2, f3⟩ := st.at' k a e hl
    have h : S[k]? = some ds := h
    rw [f1] at h; cases h
    exact ⟨a, xs, rfl, f2, f3⟩
variable {o e : Expr} {fo : FE} {fr : FA} {apos cpos : Pos}
/-- the receiver, then the arguments -/
theorem bm_tD {ρ : List Addr} {ε : DEnv} {S S1 S2 : Bxs} {σ : L2.St} {H : Hp} {b : Nat} {ys : List DV} {R : V → List V → Hp → Prop} (M : Sim K ρ ε S σ H) (h1 : fo ε S = some (.box b, S1)) (h2 : fr ε S1 = some (ys, S2))
    (k : ∀ p xs acc vs H2, S2[b]? = some acc → ρ[b]? = some p → H2 p = some (.lst xs) → RpA K ρ H2 xs acc → StOk K ρ H2 S2 → RVs K ρ H H2 vs ys → Ext K ρ H ρ H2 → R (.ref p) vs H2) :
    tD K fo σ H fun x H1 => tyV K "list" x H1 ∧ tDA K fr σ H1 fun xs H2 => R x xs H2 := by
  refine ⟨ρ, ε, S, _, S1, M, h1, fun v H1 ⟨st1, r1, _⟩ x1 => ?_⟩
  cases r1 with
  | @box _ p hp hl =>
    obtain ⟨xs, ds, f1, f2, f3⟩ := st1.at' b p hp hl
    refine ⟨.inl ⟨rfl, xs, SqL.of f2⟩, ρ, ε, S1, ys, S2, M.next x1 st1, h2, fun vs H2 st2 r2 x2 => ?_⟩
    obtain ⟨xs', ds', g1, g2, g3⟩ := st2.at' b p hp (x2.isL hl)
    exact k p xs' ds' vs H2 g1 hp g2 g3 st2 (RVs.back (fun p q => x1.free q) r2) (x1.trans x2)
theorem de_append (ho : DE X o fo) (ha : DA X [e] fr) (hbase : attributeBase o "append" X.env (eval o X.env) = eval o X.env := by rfl)
    (hfew : ((backTo cpos (starEach [e] X.env)).all (fun x => !x.1) && (backToKw cpos (keywordEach [] X.env)).all (fun x => x.1.isSome)
      && decide (([e]).length + ([] : List Keyword).length + (if ([] : List Keyword).isEmpty then 0 else 1) < 30)) = true := by rfl)
    (hline : (apos.endLine == cpos.line) = true := by rfl) (hs : starEach [e] X.env = (false, eval e X.env) :: starEach [] X.env := by rfl) (hplain : (backTo cpos (starEach [] X.env)).any (·.1) = false := by rfl) :
    DE X (.Call (.Attribute o "append" apos) [e] [] cpos) (fAppend fo fr) := ⟨PE.imp (pe_bm PySem.F.plainAttrs_list PySem.F.slot_list_append PySem.F.type_list_append mt_append ho.pe ha.pa hbase hfew hline hs hplain) fun σ H Q ⟨ρ, ε, S, dv, S', M, h, k⟩ => by
  unfold fAppend at h
  split at h
  · rename_i b S1 h1
    split at h
    · rename_i y S2 h2
      split at h
      · rename_i d acc h3 h4
        split at h
        · rename_i hc
          cases h
          refine bm_tD M h1 h2 fun p xs acc' vs H2 g1 hp g2 g3 st2 r2 x2 => ?_
          rw [h4] at g1; cases g1
          cases r2 with
          | cons r2 r3 =>
            cases r3
            refine ⟨p, xs, _, rfl, rfl, g2, by rw [g3.length]; exact small_lt hc, ?_⟩
            exact k _ _ (.dat (st2.put hp ⟨_, g2⟩ (g3.append (.cons (toD_ok r2 h3) .nil))) .non) (x2.trans (Ext.putL (List.mem_of_getElem? hp) ⟨_, g2⟩))
        · cases h
      · cases h
    · cases h
  · cases h⟩
theorem de_extend (ho : DE X o fo) (ha : DA X [e] fr) (hbase : attributeBase o "extend" X.env (eval o X.env) = eval o X.env := by rfl)
    (hfew : ((backTo cpos (starEach [e] X.env)).all (fun x => !x.1) && (backToKw cpos (keywordEach [] X.env)).all (fun x => x.1.isSome)
      && decide (([e]).length + ([] : List Keyword).length + (if ([] : List Keyword).isEmpty then 0 else 1) < 30)) = true := by rfl)
    (hline : (apos.endLine == cpos.line) = true := by rfl) (hs : starEach [e] X.env = (false, eval e X.env) :: starEach [] X.env := by rfl) (hplain : (backTo cpos (starEach [] X.env)).any (·.1) = false := by rfl) :
    DE X (.Call (.Attribute o "extend" apos) [e] [] cpos) (fExtend fo fr) := ⟨PE.imp (pe_bm PySem.F.plainAttrs_list PySem.F.slot_list_extend PySem.F.type_list_extend mt_extend ho.pe ha.pa hbase hfew hline hs hplain) fun σ H Q ⟨ρ, ε, S, dv, S', M, h, k⟩ => by
  unfold fExtend at h
  split at h
  · rename_i b S1 h1
    split at h
    · rename_i y S2 h2
      split at h
      · rename_i ds acc h3 h4
        split at h
        · rename_i hc
          cases h
          refine bm_tD M h1 h2 fun p xs acc' vs H2 g1 hp g2 g3 st2 r2 x2 => ?_
          rw [h4] at g1; cases g1
          cases r2 with
          | cons r2 r3 =>
            cases r3
            obtain ⟨q, zs, rfl, hz, rz⟩ := ownL_ok st2 r2 h3
            refine ⟨p, q, xs, zs, rfl, rfl, g2, hz, by rw [g3.length, rz.length]; exact small_line hc, ?_⟩
            exact k _ _ (.dat (st2.put hp ⟨_, g2⟩ (g3.append rz)) .non) (x2.trans (Ext.putL (List.mem_of_getElem? hp) ⟨_, g2⟩))
        · cases h
      · cases h
    · cases h
  · cases h⟩
end
end DL

set_option linter.all false
set_option maxRecDepth 100000
namespace DL
open PySem PySem.Spec L2
variable {K : PySem.W.Frag}
/-! ### the order of tuples of whole numbers -/
/-- strictly rising -/
def Up (l : List (List Int)) : Prop := l.Pairwise fun a b => HT.lexLt a b = true
/-! ### whole numbers in order -/
/-! ### tuples of whole numbers as data -/
def intD : D → Option Int
  | .int i => some i
  | _ => none
def intsD : List D → Option (List Int)
  | [] => some []
  | d :: ds => match intD d, intsD ds with
    | some i, some is => some (i :: is)
    | _, _ => none
def tupD : D → Option (List Int)
  | .tuple ds => intsD ds
  | _ => none
def tupsD : List D → Option (List (List Int))
  | [] => some []
  | d :: ds => match tupD d, tupsD ds with
    | some i, some is => some (i :: is)
    | _, _ => none
def dT (ns : List Int) : D := .tuple (ns.map .int)
theorem intsD_eq : ∀ {ds : List D} {ns : List Int}, intsD ds = some ns → ds = ns.map .int
  | [], _, h => by cases h; rfl
  | d :: ds, ns, h => by
    unfold intsD at h
    split at h
    · rename_i i is e1 e2
      cases h
      have := intsD_eq e2
      subst this
      cases d with
      | int j => cases e1; rfl
      | _ => cases e1
    · cases h
theorem intsD_map : ∀ ns : List Int, intsD (ns.map .int) = some ns
  | [] => rfl
  | n :: ns => by rw [List.map_cons]; unfold intsD; rw [intsD_map ns]; rfl
theorem tupD_dT (ns : List Int) : tupD (dT ns) = some ns := intsD_map ns
theorem tupD_eq {d : D} {ns : List Int} (h : tupD d = some ns) : d = dT ns := by
  cases d with
  | tuple ds => unfold dT; rw [intsD_eq (show intsD ds = some ns from h)]
  | _ => cases h
theorem tupsD_eq : ∀ {ds : List D} {nss : List (List Int)}, tupsD ds = some nss → ds = nss.map dT
  | [], _, h => by cases h; rfl
  | d :: ds, nss, h => by
    unfold tupsD at h
    split at h
    · rename_i i is e1 e2
      cases h
      rw [tupD_eq e1, tupsD_eq e2]; rfl
    · cases h
theorem tupsD_map : ∀ nss : List (List Int), tupsD (nss.map dT) = some nss
  | [] => rfl
  | n :: ns => by rw [List.map_cons]; unfold tupsD; rw [tupsD_map ns, tupD_dT]
theorem RpA.ofInts {ρ : List Addr} {H : Hp} : ∀ ns : List Int, RpA K ρ H (ns.map V.int) (ns.map .int)
  | [] => .nil
  | n :: ns => .cons (.int n) (RpA.ofInts ns)
end DL

set_option linter.all false
set_option maxRecDepth 100000
namespace L2
open PySem PySem.Spec PyProof.Rows
section
variable {X : Cx}
/-- list + list -/
def rCatL (K : PySem.W.Frag) : R2 := fun x y H Q => ∃ a b xs ys, x = .ref a ∧ y = .ref b ∧ SqL K H a xs ∧ SqL K H b ys ∧ xs.length + ys.length ≤ sizeLine ∧ ∀ p, H p = none → Q (.ref p) (upd H p (.lst (xs ++ ys)))
theorem op_catL : OpR X (binaryOp .Add) (rCatL X.K) := by
  intro pins s σ H x y v u Q I rx ry h
  obtain ⟨a, b, xs, ys, rfl, rfl, ha, hb, hz, q⟩ := h
  cases rx
  cases ry
  obtain ⟨its, r1, ⟨o1, n1, e1, c1, _, d1⟩, _⟩ := I.list ha
  obtain ⟨its2, r2, ⟨o2, n2, e2, c2, _, d2⟩, _⟩ := I.list hb
  obtain ⟨cls, dd, data, sl⟩ := o1
  obtain ⟨cls2, dd2, data2, sl2⟩ := o2
  simp only at c1 d1 c2 d2
  subst c1 d1 c2 d2
  refine concat_meets ⟨_, e1, rfl⟩ ⟨_, e2, rfl⟩ noFill_list_add seq_list_add PySem.F.slot_list_add PySem.F.entry_list_add (PySem.F.args_list_add_2 _ _) (list_addW a b its.toArray its2.toArray n1 n2 dd dd2 sl sl2 (by rw [List.size_toArray, List.size_toArray, ← r1.length, ← r2.length]; exact hz)) ⟨e1, e2, ?_⟩
  have ea : its.toArray ++ its2.toArray = (its ++ its2).toArray := by simp
  rw [ea]
  exact ⟨.ref _, _, I.lnew (t' := s.toks) (r1.append r2) (by rw [List.length_append]; exact hz), rfl, q _ I.fresh⟩
open Classical in
end
end L2

set_option linter.all false
set_option maxRecDepth 100000
namespace DL
open PySem PySem.Spec L2
variable {K : PySem.W.Frag}
/-! ### operations on data -/
def gCat : Bxs → DV → DV → Option DV := fun S x y => match rd S x, rd S y with
  | some (.list ds), some (.list es) => if small (ds.length + es.length) = true then some (.lst (ds ++ es)) else none
  | _, _ => none
theorem op2_cat : Op2 K (rCatL K) gCat := by
  intro ρ S H0 H v u x y dv Q st fr r1 r2 h k
  unfold gCat at h
  split at h
  · rename_i ds es e1 e2
    split at h
    · rename_i hc
      cases h
      obtain ⟨a, xs, rfl, q1, rr1⟩ := rd_lst st r1 e1
      obtain ⟨b, ys, rfl, q2, rr2⟩ := rd_lst st r2 e2
      refine ⟨a, b, xs, ys, rfl, rfl, q1, q2, by rw [rr1.length, rr2.length]; exact small_line hc, fun p hp => ?_⟩
      obtain ⟨a1, a3⟩ := new_lst st fr hp (rr1.append rr2)
      exact k _ _ a1 a3
    · cases h
  · cases h
/-- a thing of one argument -/
def g1 (g : Bxs → DV → Option DV) : Bxs → List DV → Option DV := fun S xs => match xs with
  | [x] => g S x
  | _ => none
def g2 (g : Bxs → DV → DV → Option DV) : Bxs → List DV → Option DV := fun S xs => match xs with
  | [x, y] => g S x y
  | _ => none
theorem opN1 {r : List V → Hp → VK → Prop} {g : Bxs → DV → Option DV} (O : Op1 K (fun v H Q => r [v] H Q) g) : OpN K r (g1 g) := by
  intro ρ S H0 H vs xs dv Q st fr r1 h k
  unfold g1 at h
  split at h
  · cases r1 with
    | cons a b =>
      cases b
      exact O ρ S H0 H _ _ dv Q st fr a h k
  · cases h
theorem opN2 {r : List V → Hp → VK → Prop} {g : Bxs → DV → DV → Option DV} (O : Op2 K (fun v u H Q => r [v, u] H Q) g) : OpN K r (g2 g) := by
  intro ρ S H0 H vs xs dv Q st fr r1 h k
  unfold g2 at h
  split at h
  · cases r1 with
    | cons a b =>
      cases b with
      | cons b c =>
        cases c
        exact O ρ S H0 H _ _ _ _ dv Q st fr a b h k
  · cases h
def gLen : Bxs → DV → Option DV := fun S x => match sq S x with
  | some ds => some (.dat (.int (ds.length : Int)))
  | none => none
theorem op_len : OpN K (fun xs H Q => ∃ p ys, xs = [.ref p] ∧ (SqL K H p ys ∨ SqT K H p ys) ∧ Q (.int ys.length) H) (g1 gLen) := opN1 (by
  intro ρ S H0 H v x dv Q st fr r1 h k
  unfold gLen at h
  split at h
  · rename_i ds e1
    cases h
    obtain ⟨a, xs, rfl, q, rr⟩ := sq_ok st r1 e1
    refine ⟨a, xs, rfl, q, ?_⟩
    rw [rr.length]
    exact same_end st (.int _) k
  · cases h)
def gTup1 : Bxs → DV → Option DV := fun S x => match sq S x with
  | some ds => some (.dat (.tuple ds))
  | none => none
theorem op_tup1 : OpN K (fun xs H Q => ∃ p ys, xs = [.ref p] ∧ ((SqL K H p ys ∧ ∀ l, H l = none → Q (.ref l) (upd H l (.tup ys))) ∨ (SqT K H p ys ∧ Q (.ref p) H))) (g1 gTup1) := opN1 (by
  intro ρ S H0 H v x dv Q st fr r1 h k
  unfold gTup1 at h
  split at h
  · rename_i ds e1
    cases h
    obtain ⟨a, xs, rfl, q, rr⟩ := sq_ok st r1 e1
    refine ⟨a, xs, rfl, ?_⟩
    rcases q with q | q
    · refine .inl ⟨q, fun p hp => ?_⟩
      obtain ⟨a1, a3⟩ := new_tup (H0 := H0) st hp rr
      exact k _ _ a1 a3
    · exact .inr ⟨q, same_end st (.tup q rr) k⟩
  · cases h)
def gMin : Bxs → DV → DV → Option DV := gI (fun _ _ => true) fun i j => .int (if j < i then j else i)
def gMax : Bxs → DV → DV → Option DV := gI (fun _ _ => true) fun i j => .int (if j > i then j else i)
theorem gI_some {C : Int → Int → Bool} {f : Int → Int → D} {S : Bxs} {x y dv : DV} (h : gI C f S x y = some dv) : ∃ i j, rd S x = some (.int i) ∧ rd S y = some (.int j) ∧ C i j = true ∧ dv = .dat (f i j) := by
  unfold gI at h
  split at h
  · rename_i i j e1 e2
    split at h
    · rename_i hc
      cases h
      exact ⟨i, j, e1, e2, hc, rfl⟩
    · cases h
  · cases h
theorem op_min : OpN K (fun xs H Q => ∃ i j, xs = [V.int i, .int j] ∧ Q (.int (if j < i then j else i)) H) (g2 gMin) := opN2 (by
  intro ρ S H0 H v u x y dv Q st fr r1 r2 h k
  obtain ⟨i, j, e1, e2, _, rfl⟩ := gI_some h
  exact ⟨i, j, by rw [rd_int r1 e1, rd_int r2 e2], same_end st (.int _) k⟩)
theorem op_max : OpN K (fun xs H Q => ∃ i j, xs = [V.int i, .int j] ∧ Q (.int (if j > i then j else i)) H) (g2 gMax) := opN2 (by
  intro ρ S H0 H v u x y dv Q st fr r1 r2 h k
  obtain ⟨i, j, e1, e2, _, rfl⟩ := gI_some h
  exact ⟨i, j, by rw [rd_int r1 e1, rd_int r2 e2], same_end st (.int _) k⟩)
/-! ### in -/
/-! ### isinstance -/
section
variable {X : Cx} {e a b : Expr} {fa fb : FE} {fr : FA} {pos p p2 : Pos} {T : String}
/-! ### list(range(n)) -/
/-! ### sorted(set(..)) -/
variable {p3 pos3 p4 pos4 pos5 : Pos}
/-! ### in short -/
def gAdd : Bxs → DV → DV → Option DV := gI (fun _ _ => true) fun i j => .int (i + j)
def gSub : Bxs → DV → DV → Option DV := gI (fun _ _ => true) fun i j => .int (i - j)
def gMul : Bxs → DV → DV → Option DV := gI (fun i j => (decide (-(2 ^ 64) < i) && decide (i < 2 ^ 64)) || (decide (-(2 ^ 64) < j) && decide (j < 2 ^ 64))) fun i j => .int (i * j)
def gDiv : Bxs → DV → DV → Option DV := gI (fun i j => decide (0 < j) && decide (j < 1073741824)) fun i j => .int (i / j)
def gMod : Bxs → DV → DV → Option DV := gI (fun i j => decide (0 < j)) fun i j => .int (i % j)
def gPow : Bxs → DV → DV → Option DV := gI (fun i j => decide (0 ≤ j) && decide (j ≤ 1000000) && decide (i.natAbs < 2 ^ 64)) fun i j => .int (i ^ j.toNat)
theorem e_add (ha : DE X a fa) (hb : DE X b fb) : DE X (.BinOp a .Add b pos) (fOp2 gAdd fa fb) := de_bin op_add (op2_int0 fun _ _ _ _ => .int _) ha hb
theorem e_sub (ha : DE X a fa) (hb : DE X b fb) : DE X (.BinOp a .Sub b pos) (fOp2 gSub fa fb) := de_bin op_sub (op2_int0 fun _ _ _ _ => .int _) ha hb
theorem e_mul (ha : DE X a fa) (hb : DE X b fb) : DE X (.BinOp a .Mult b pos) (fOp2 gMul fa fb) := de_bin op_mul (op2_int (fun i j h => by
  simp only [Bool.or_eq_true, Bool.and_eq_true, decide_eq_true_eq] at h
  exact h) fun _ _ _ _ => .int _) ha hb
theorem e_div (ha : DE X a fa) (hb : DE X b fb) : DE X (.BinOp a .FloorDiv b pos) (fOp2 gDiv fa fb) := de_bin op_fdiv (op2_int (fun i j h => by
  simp only [Bool.and_eq_true, decide_eq_true_eq] at h
  exact h) fun _ _ _ _ => .int _) ha hb
theorem e_mod (ha : DE X a fa) (hb : DE X b fb) : DE X (.BinOp a .Mod b pos) (fOp2 gMod fa fb) := de_bin op_mod (op2_int (fun i j h => of_decide_eq_true h) fun _ _ _ _ => .int _) ha hb
theorem e_pow (ha : DE X a fa) (hb : DE X b fb) : DE X (.BinOp a .Pow b pos) (fOp2 gPow fa fb) := de_bin op_pow (op2_int (fun i j h => by
  simp only [Bool.and_eq_true, decide_eq_true_eq] at h
  exact ⟨h.1.1, h.1.2, h.2⟩) fun _ _ _ _ => .int _) ha hb
theorem e_cat (ha : DE X a fa) (hb : DE X b fb) : DE X (.BinOp a .Add b pos) (fOp2 gCat fa fb) := de_bin op_catL op2_cat ha hb
theorem e_ix (ha : DE X a fa) (hb : DE X b fb) (hs : PlainIx b := by intro _ _; rfl) : DE X (.Subscript a b pos) (fOp2 gIx fa fb) := op2_tD op2_ix (pe_ix ix_seq ha.pe hb.pe hs)
def bLt := bI fun i j => decide (i < j)
def bLe := bI fun i j => decide (i ≤ j)
def bGt := bI fun i j => decide (j < i)
def bGe := bI fun i j => decide (j ≤ i)
theorem t_lt (ha : DE X a fa) (hb : DE X b fb) (hm : behindInMarks .Lt b = false := by rfl) : DT X (.Compare a [.Lt] [b] pos) (fCmpT bLt fa fb) := dt_cmp op_lt opb_int ha hb hm
theorem t_gt (ha : DE X a fa) (hb : DE X b fb) (hm : behindInMarks .Gt b = false := by rfl) : DT X (.Compare a [.Gt] [b] pos) (fCmpT bGt fa fb) := dt_cmp op_gt opb_int ha hb hm
theorem t_ge (ha : DE X a fa) (hb : DE X b fb) (hm : behindInMarks .GtE b = false := by rfl) : DT X (.Compare a [.GtE] [b] pos) (fCmpT bGe fa fb) := dt_cmp op_ge opb_int ha hb hm
theorem t_eq (hu : X.A.units + 80 < cLine) (ha : DE X a fa) (hb : DE X b fb) (hm : behindInMarks .Eq b = false := by rfl) : DT X (.Compare a [.Eq] [b] pos) (fCmpT bEq fa fb) := dt_cmp (op_eqD (by omega)) opb_eq ha hb hm
theorem t_ne (hu : X.A.units + 80 < cLine) (ha : DE X a fa) (hb : DE X b fb) (hm : behindInMarks .NotEq b = false := by rfl) : DT X (.Compare a [.NotEq] [b] pos) (fCmpT bNe fa fb) := dt_cmp (op_neD (by omega)) opb_ne ha hb hm
end
end DL

set_option linter.all false
set_option maxRecDepth 100000
namespace DL
open PySem PySem.Spec L2 PyProof.Rows
variable {K : PySem.W.Frag}
/-! ### a def -/
def fin (n : Nat) : DV → Bxs → Option (DV × Bxs)
  | .box k, S => if k < n then some (.box k, S.take n) else (match S[k]? with
      | some ds => some (.lst ds, S.take n)
      | none => none)
  | .dbx b k, S => if k < n then some (.dbx b k, S.take n) else (match S[k]? with
      | some ds => some (.dct b ds, S.take n)
      | none => none)
  | v, S => some (v, S.take n)
/-- what a def answers -/
def semOf (m : Nat) (g : FS) : Sem0 := fun dvs S => match g (dvs.map some ++ List.replicate (m - dvs.length) none) S with
  | some (.rt dv S') => fin S.length dv S'
  | some (.nx _ S') => some (.dat .none, S'.take S.length)
  | _ => none
/-- one kept list of the later ones stays -/
theorem StOk.one {ρ more : List Addr} {H : Hp} {S : Bxs} {k : Nat} {p : Addr} {ds : List D} (st : StOk K (ρ ++ more) H S) (hk : ρ.length ≤ k) (hp : (ρ ++ more)[k]? = some p) (hd : S[k]? = some ds) : StOk K (ρ ++ [p]) H (S.take ρ.length ++ [ds]) := by
  have d := st.drop
  have pin : p ∉ ρ := fun z => by
    obtain ⟨j, hj⟩ := List.mem_iff_getElem?.mp z
    have jl := (List.getElem?_eq_some_iff.mp hj).1
    have e : (ρ ++ more)[j]? = some p := by rw [List.getElem?_append_left jl]; exact hj
    have kl := (List.getElem?_eq_some_iff.mp hp).1
    have := (List.getElem?_inj (j := j) kl st.nd).mp (hp.trans e.symm)
    omega
  have sub : ∀ a ∈ ρ ++ [p], a ∈ ρ ++ more := fun a ha => by
    rcases List.mem_append.mp ha with z | z
    · exact List.mem_append_left _ z
    · rw [List.mem_singleton.mp z]; exact List.mem_of_getElem? hp
  have hl : (S.take ρ.length).length = ρ.length := by rw [← d.len]
  refine ⟨by simp [hl], ?_, fun j a e => ?_, st.tb⟩
  · rw [List.nodup_append]
    exact ⟨d.nd, by simp, fun a ha b hb => by rw [List.mem_singleton.mp hb]; exact fun z => pin (z ▸ ha)⟩
  · by_cases hj : j < ρ.length
    · rw [List.getElem?_append_left hj] at e
      obtain ⟨es, e1, e2⟩ := st.at0 j a (by rw [List.getElem?_append_left hj]; exact e)
      refine ⟨es, ?_, ?_⟩
      · rw [List.getElem?_append_left (by rw [hl]; exact hj), List.getElem?_take, if_pos hj]
        exact e1
      · rcases e2 with ⟨xs, e2, e3⟩ | e2
        · exact .inl ⟨xs, e2, RpA.weak sub _ _ e3⟩
        · obtain ⟨b, e2⟩ := e2
          exact .inr ⟨b, e2.weak sub⟩
    · have hj2 : j = ρ.length := by
        have := (List.getElem?_eq_some_iff.mp e).1
        rw [List.length_append] at this
        simp at this; omega
      subst hj2
      rw [List.getElem?_append_right (Nat.le_refl _)] at e
      simp at e
      subst e
      obtain ⟨es, e1, e2⟩ := st.at0 k p hp
      rw [hd] at e1; cases e1
      refine ⟨ds, ?_, ?_⟩
      · rw [List.getElem?_append_right (by rw [hl]; exact Nat.le_refl _), hl]
        simp
      · rcases e2 with ⟨xs, e2, e3⟩ | e2
        · exact .inl ⟨xs, e2, RpA.weak sub _ _ e3⟩
        · obtain ⟨b, e2⟩ := e2
          exact .inr ⟨b, e2.weak sub⟩
theorem Val.fin {ρ ρ' : List Addr} {H H' : Hp} {S S' S2 : Bxs} {v : V} {dv dv2 : DV} (hl : ρ.length = S.length) (x : Ext K ρ H ρ' H') (h : Val K ρ' H H' S' v dv) (e : DL.fin S.length dv S' = some (dv2, S2)) : Val K ρ H H' S2 v dv2 := by
  obtain ⟨more, em⟩ := x.pre
  subst em
  have sub : ∀ a ∈ ρ, a ∈ ρ ++ more := fun a ha => List.mem_append_left _ ha
  obtain ⟨st, r, ad⟩ := h
  have d := st.drop
  rw [hl] at d
  cases dv with
  | dat dd =>
    cases e
    cases r with
    | dat r => exact .dat d (Rp.weak sub _ _ r)
  | lst ds =>
    cases e
    cases r with
    | @lst p xs _ h0 h1 n r =>
      refine ⟨d, .lst h0 h1 (fun z => n (sub _ z)) (RpA.weak sub _ _ r), ⟨fun q es e1 e2 => ?_, (fun _ _ _ _ e => nomatch e)⟩⟩
      cases e1; cases e2
      have ad' := ad.1 p ds rfl rfl
      rw [List.append_assoc] at ad'
      have hS : S'.length = (ρ ++ more).length := st.len.symm
      have := StOk.one (k := (ρ ++ more).length) (p := p) (ds := ds) ad' (by rw [List.length_append]; omega) (by rw [← List.append_assoc, List.getElem?_append_right (Nat.le_refl _)]; simp) (by rw [List.getElem?_append_right (by omega), hS]; simp)
      rw [List.take_append_of_le_length (by rw [hS, List.length_append]; omega), hl] at this
      exact this
  | box k =>
    unfold DL.fin at e
    dsimp only at e
    cases r with
    | @box _ a ha hLa =>
      split at e
      · rename_i hk
        cases e
        refine ⟨d, .box ?_ hLa, ⟨(fun _ _ _ z => nomatch z), (fun _ _ _ _ z => nomatch z)⟩⟩
        rw [List.getElem?_append_left (by omega)] at ha
        exact ha
      · rename_i hk
        split at e
        · rename_i ds hd
          cases e
          have one := StOk.one (k := k) (p := a) (ds := ds) st (by omega) ha hd
          have pin : a ∉ ρ := fun z => by
            have := one.nd
            rw [List.nodup_append] at this
            exact this.2.2 a z a (by simp) rfl
          obtain ⟨xs, es, e1, e2, e3⟩ := st.at' k a ha hLa
          rw [hd] at e1; cases e1
          have h0 : H a = none := (x.new a (List.mem_of_getElem? ha)).resolve_left pin
          refine ⟨d, .lst h0 e2 pin (RpA.weak sub _ _ e3), ⟨fun q es' e4 e5 => ?_, (fun _ _ _ _ e => nomatch e)⟩⟩
          cases e4; cases e5
          rw [hl] at one; exact one
        · cases e
  | dcd b ds =>
    cases e
    cases r with
    | dcd n dc => exact ⟨d, .dcd (fun z => n (sub _ z)) (dc.weak sub), ⟨(fun _ _ _ z => nomatch z), (fun _ _ _ _ z => nomatch z)⟩⟩
  | dct b ds =>
    cases e
    cases r with
    | @dct p _ _ h0 n dc =>
      refine ⟨d, .dct h0 (fun z => n (sub _ z)) (dc.weak sub), ⟨(fun _ _ _ e => nomatch e), fun q b' es e1 e2 => ?_⟩⟩
      cases e1; cases e2
      have ad' := ad.2 p b ds rfl rfl
      rw [List.append_assoc] at ad'
      have hS : S'.length = (ρ ++ more).length := st.len.symm
      have := StOk.one (k := (ρ ++ more).length) (p := p) (ds := ds) ad' (by rw [List.length_append]; omega) (by rw [← List.append_assoc, List.getElem?_append_right (Nat.le_refl _)]; simp) (by rw [List.getElem?_append_right (by omega), hS]; simp)
      rw [List.take_append_of_le_length (by rw [hS, List.length_append]; omega), hl] at this
      exact this
  | dbx b k =>
    unfold DL.fin at e
    dsimp only at e
    cases r with
    | @dbx _ a _ ha hDa =>
      split at e
      · rename_i hk
        cases e
        refine ⟨d, .dbx ?_ hDa, ⟨(fun _ _ _ z => nomatch z), (fun _ _ _ _ z => nomatch z)⟩⟩
        rw [List.getElem?_append_left (by omega)] at ha
        exact ha
      · rename_i hk
        split at e
        · rename_i ds hd
          cases e
          have one := StOk.one (k := k) (p := a) (ds := ds) st (by omega) ha hd
          have pin : a ∉ ρ := fun z => by
            have := one.nd
            rw [List.nodup_append] at this
            exact this.2.2 a z a (by simp) rfl
          obtain ⟨es, e1, e3⟩ := st.atD k a ha hDa
          rw [hd] at e1; cases e1
          have h0 : H a = none := (x.new a (List.mem_of_getElem? ha)).resolve_left pin
          refine ⟨d, .dct h0 pin (e3.weak sub), ⟨(fun _ _ _ e => nomatch e), fun q b' es' e4 e5 => ?_⟩⟩
          cases e4; cases e5
          rw [hl] at one; exact one
        · cases e
theorem RVs.get {ρ : List Addr} {H0 H : Hp} : ∀ {vs : List V} {ds : List DV} {i : Nat} {d : DV}, RVs K ρ H0 H vs ds → ds[i]? = some d → ∃ v, vs[i]? = some v ∧ RV K ρ H0 H v d
  | _, _, _, _, .nil, h => by simp at h
  | _, _, 0, _, .cons a _, h => by simp at h; subst h; exact ⟨_, rfl, a⟩
  | _, _, i + 1, _, .cons _ b, h => by
    obtain ⟨v, h1, h2⟩ := RVs.get (i := i) b (by simpa using h)
    exact ⟨v, by simpa using h1, h2⟩
theorem Sim.start {ρ : List Addr} {H : Hp} {S : Bxs} {vs : List V} {dvs : List DV} {N : List Str} (st : StOk K ρ H S) (r : RVs K ρ H H vs dvs) : Sim K ρ (dvs.map some ++ List.replicate (N.length - dvs.length) none) S (L2.start N vs) H := by
  have hl := r.length
  refine ⟨st, fun i dv e => ?_, by unfold L2.start; simp [hl]⟩
  by_cases hi : i < dvs.length
  · rw [List.getElem?_append_left (by simpa using hi)] at e
    have e' : dvs[i]? = some dv := by
      rw [List.getElem?_map] at e
      cases q : dvs[i]? with
      | none => rw [q] at e; cases e
      | some d => rw [q] at e; cases e; rfl
    obtain ⟨v, h1, h2⟩ := r.get e'
    refine ⟨v, ?_, h2⟩
    unfold L2.start
    rw [List.getElem?_append_left (by simp; omega), List.getElem?_map, h1]; rfl
  · exfalso
    rw [List.getElem?_append_right (by simpa using hi)] at e
    obtain ⟨_, e2⟩ := List.getElem?_eq_some_iff.mp e
    simp at e2
section
variable {P : Program} {w : World} {mg : Str → Option Value} {base : Heap}
abbrev Bd (P : Program) (w : World) (K : PySem.W.Frag) (mg : Str → Option Value) (base : Heap) (N : List Str) (qual : Str) (sc : Scope) (f : Addr) (cdv : Value) (A : Around) (outer : List Env) (s : Shared) (H : Hp) (E : XK) : Cx := (cxOf CX0 P w K mg base N qual sc f cdv A outer s H E).nox
/-- THE RULE for a def: its body keeps to g -/
theorem fn_data {x qual : Str} {st : Stmt} {f : Addr} {fd : FuncData} {N ps : List Str} {k n : Nat} {g : FS} (F : Fun K x qual st f fd) (S : FnScope N ps (defScope st)) (hn : n = ps.length)
    (hb : ∀ (cdv : Value) (A : Around) (outer : List Env) (s : Shared) (H : Hp) (E : XK), Room k (A.deeper (envOfC qual (defScope st) s.heap.objs.size f cdv)) → DSs (Bd P w K mg base N qual (defScope st) f cdv A outer s H E) (defBody st) g) :
    FnOk P w K mg base CX0 (k + 1) f fd ps (spD K n (semOf N.length g)) := by
  subst hn
  refine F.ok S (fun vs H Q E h => h.1) fun cdv A outer s H vs Q E hr h => ?_
  obtain ⟨hl, ρ, SS, dvs, dv, S', st0, r, e, kk⟩ := h
  refine ⟨_, (hb cdv A outer s H E hr).pss, ?_⟩
  unfold semOf at e
  split at e
  · rename_i dv1 S1 e1
    refine ⟨ρ, _, SS, .rt dv1 S1, Sim.start st0 r, e1, fun v H' ρ' x' v' => ?_⟩
    obtain ⟨more, em⟩ := x'.pre
    have xd : Ext K ρ H ρ H' := by subst em; exact x'.drop
    exact kk v H' (Val.fin st0.len x' v' e) xd
  · rename_i ε1 S1 e1
    cases e
    refine ⟨ρ, _, SS, .nx ε1 S1, Sim.start st0 r, e1, fun σ' H' ρ' x' M' => ?_⟩
    obtain ⟨more, em⟩ := x'.pre
    subst em
    refine kk .non H' (.dat ?_ .non) x'.drop
    rw [← st0.len]
    exact M'.st.drop
  · cases e
end
end DL

set_option linter.all false
set_option maxRecDepth 100000
namespace DL
open PySem PySem.Spec L2 PyProof.Rows
/-- an own def by its name, as the top has made it -/
structure Fn (P : Program) (w : World) (K : PySem.W.Frag) (mg : Str → Option Value) (base : Heap) (k : Nat) (x : Str) (ps : List Str) (n : Nat) (sem : Sem0) : Prop where
  ex : ∃ (f : Addr) (fd : FuncData), FnOk P w K mg base CX0 k f fd ps (spD K n sem) ∧ mg x = some (.ref f) ∧ PySem.W.keepIn K (.ref f) = true ∧ Binds K fd ps []
section
variable {X : Cx} {x : Str} {p pos : Pos} {e : Expr} {es : List Expr} {fr : FA}
theorem de_callF {k j n : Nat} {ps : List Str} {sem : Sem0} (F : Fn X.prog X.w X.K X.mg X.base j x ps n sem) (hr : Room k X.A) (hj : j ≤ k) (hg : Gl X x) (ha : DA X (e :: es) fr) (hdb : (x == ("__debug__" : Str)) = false := by decide)
    (he : starEach (e :: es) X.env = (false, eval e X.env) :: starEach es X.env := by rfl) (hpl : (backTo pos (starEach es X.env)).any (·.1) = false := by rfl) : DE X (.Call (.Name x p) (e :: es) [] pos) (fCall n sem fr) := by
  obtain ⟨f, fd, h1, h2, h3, h4⟩ := F.ex
  exact de_call h1 (hr.mono hj) hg h2 h3 h4 pass0 ha hdb he hpl
/-- the built-in names that the top leaves alone -/
structure Bl (mg : Str → Option Value) : Prop where
  len : mg "len" = none
  tuple : mg "tuple" = none
  list : mg "list" = none
  range : mg "range" = none
  sorted : mg "sorted" = none
  set : mg "set" = none
  min : mg "min" = none
  max : mg "max" = none
  all : mg "all" = none
  any : mg "any" = none
  isinstance : mg "isinstance" = none
  int : mg "int" = none
  bool : mg "bool" = none
  str : mg "str" = none
theorem e_len (B : Bl X.mg) (hg : Gl X "len") (ha : DA X [e] fr) (he : starEach [e] X.env = (false, eval e X.env) :: starEach [] X.env := by rfl) (hpl : (backTo pos (starEach [] X.env)).any (·.1) = false := by rfl) :
    DE X (.Call (.Name "len" p) [e] [] pos) (fOpN (g1 gLen) fr) := de_callB call_len_seq op_len hg B.len PySem.boot_len ha (by decide) (by decide) he hpl
theorem e_tuple (B : Bl X.mg) (hg : Gl X "tuple") (ha : DA X [e] fr) (he : starEach [e] X.env = (false, eval e X.env) :: starEach [] X.env := by rfl) (hpl : (backTo pos (starEach [] X.env)).any (·.1) = false := by rfl) :
    DE X (.Call (.Name "tuple" p) [e] [] pos) (fOpN (g1 gTup1) fr) := de_callTy call_tuple_of op_tup1 hg B.tuple rfl ha (by decide) (by decide) he hpl
theorem e_min {e2 : Expr} (B : Bl X.mg) (hc : X.calm = true) (hg : Gl X "min") (ha : DA X [e, e2] fr) (he : starEach [e, e2] X.env = (false, eval e X.env) :: starEach [e2] X.env := by rfl) (hpl : (backTo pos (starEach [e2] X.env)).any (·.1) = false := by rfl) :
    DE X (.Call (.Name "min" p) [e, e2] [] pos) (fOpN (g2 gMin) fr) := de_callB (call_min2 hc) op_min hg B.min rfl ha (by decide) (by decide) he hpl
theorem e_max {e2 : Expr} (B : Bl X.mg) (hc : X.calm = true) (hg : Gl X "max") (ha : DA X [e, e2] fr) (he : starEach [e, e2] X.env = (false, eval e X.env) :: starEach [e2] X.env := by rfl) (hpl : (backTo pos (starEach [e2] X.env)).any (·.1) = false := by rfl) :
    DE X (.Call (.Name "max" p) [e, e2] [] pos) (fOpN (g2 gMax) fr) := de_callB (call_max2 hc) op_max hg B.max rfl ha (by decide) (by decide) he hpl
end
theorem room80 {k : Nat} {A : Around} (h : Room k A) : A.units + 80 < cLine := by have := h.un; omega
end DL

set_option linter.all false
set_option maxRecDepth 100000
namespace DL
open PySem PySem.Spec L2 PyProof.Rows
variable {K : PySem.W.Frag}
/-- the law's promise at a script -/
theorem spD_law {H : Hp} {a : Addr} {ns : List Int} {sem : Sem0} (hT : ∀ P q, TabAt K P q → TabR P q H) (hS : SqL K H a (ns.map V.int)) (h : sem [.dat (.list (ns.map .int))] [] = some (.dat (.bool true), [])) : spD K 1 sem [.ref a] H (fun v _ => v = .bl true) fun _ _ _ => False := by
  refine ⟨rfl, [], [], [.dat (.list (ns.map .int))], _, [], ⟨rfl, List.nodup_nil, fun k a e => by simp at e, hT⟩, .cons (.dat (.lst ?_ (RpA.ofInts ns))) .nil, h, fun v H' hv _ => ?_⟩
  · rcases hS with h | h
    · exact .inl ⟨List.not_mem_nil, h⟩
    · exact .inr h
  · cases hv.rv with
    | dat r => cases r; rfl
end DL

set_option linter.all false
set_option maxRecDepth 100000
/-! tuples: +, *, slices -/
namespace L2
open PySem PySem.Spec PyProof.Rows
section
variable {X : Cx}
/-- t + u -/
def rCatT2 (K : PySem.W.Frag) : R2 := fun x y H Q => ∃ a b xs ys, x = .ref a ∧ y = .ref b ∧ SqT K H a xs ∧ SqT K H b ys ∧ xs.length + ys.length ≤ sizeLine ∧
  (xs = [] → Q (.ref b) H) ∧ (xs ≠ [] → ys = [] → Q (.ref a) H) ∧ (xs ≠ [] → ys ≠ [] → ∀ p, H p = none → Q (.ref p) (upd H p (.tup (xs ++ ys))))
theorem op_catT2 : OpR X (binaryOp .Add) (rCatT2 X.K) := by
  intro pins s σ H x y v u Q I rx ry h
  obtain ⟨a, b, xs, ys, rfl, rfl, ha, hb, hz, q0, q1, q2⟩ := h
  cases rx
  cases ry
  obtain ⟨its, r1, p1, _⟩ := I.tuple ha
  obtain ⟨its2, r2, p2, _⟩ := I.tuple hb
  by_cases hx : xs = []
  · have he : its = [] := r1.nil_iff.mpr hx
    obtain ⟨⟨cls, dd, data, sl⟩, ho, hc, n, hd⟩ := id p1
    obtain ⟨⟨cls2, dd2, data2, sl2⟩, ho2, hc2, n2, hd2⟩ := id p2
    simp only at hc hd hc2 hd2
    subst hc hd hc2 hd2
    exact concat_meets ⟨_, ho, rfl⟩ ⟨_, ho2, rfl⟩ noFill_tuple_add seq_tuple_add PySem.F.slot_tuple_add PySem.F.entry_tuple_add (PySem.F.args_tuple_add_2 _ _)
      (tuple_addW0 a b its.toArray its2.toArray n n2 dd dd2 sl sl2 (by simp [he])) ⟨ho, ho2, .ref b, H, I, rfl, q0 hx⟩
  · refine HT.cat_tup p1 p2 (fun z => hx (r1.nil_iff.mp z)) (fun z => ⟨.ref a, H, I, rfl, q1 hx (r2.nil_iff.mp z)⟩) (fun z => ?_) (by rw [← r1.length, ← r2.length]; exact hz)
    refine ⟨.ref s.heap.objs.size, _, I.laid (t' := s.toks) (o := .tup (xs ++ ys)) (fun b ob q => Heap.get?_push_of_some _ q) (Nat.le_refl _) ?_, rfl, q2 hx (fun w => z (r2.nil_iff.mpr w)) _ (I.hok.fresh (Nat.le_refl _))⟩
    exact ⟨⟨by rw [List.length_append]; exact hz, NoD.of (Heap.get?_push_size _ rfl) rfl⟩, _, r1.append r2, IsTup.new _ _⟩
end
end L2

set_option linter.all false
set_option maxRecDepth 100000
namespace HT
open PySem PySem.Spec PyProof.Rows PySem.F
section
variable {prog : Program} {w : World} {A : Around} {E : Value → Shared → Prop} {s : Shared}
end
end HT
namespace L2
open PySem PySem.Spec PyProof.Rows
section
variable {X : Cx} {e : Expr} {te : TE} {pos p2 p3 p4 : Pos} {j : Nat}
end
end L2

set_option linter.all false
set_option maxRecDepth 100000
namespace L2
open PySem PySem.Spec PyProof.Rows
section
variable {X : Cx}
end
end L2
namespace DL
open PySem PySem.Spec L2 PyProof.Rows
variable {K : PySem.W.Frag}
/-! ### tuples + and * -/
theorem RpA.nil_iff {ρ : List Addr} {H : Hp} {xs : List V} {ds : List D} (r : RpA K ρ H xs ds) : xs = [] ↔ ds = [] := by
  cases r with
  | nil => simp
  | cons _ _ => simp
def gCatT : Bxs → DV → DV → Option DV := fun S x y => match rd S x, rd S y with
  | some (.tuple ds), some (.tuple es) => if small (ds.length + es.length) = true then some (.dat (.tuple (ds ++ es))) else none
  | _, _ => none
theorem op2_catT : Op2 K (rCatT2 K) gCatT := by
  intro ρ S H0 H v u x y dv Q st fr r1 r2 h k
  unfold gCatT at h
  split at h
  · rename_i ds es e1 e2
    split at h
    · rename_i hc
      cases h
      obtain ⟨a, xs, rfl, q1, rr1⟩ := rd_tup r1 e1
      obtain ⟨b, ys, rfl, q2, rr2⟩ := rd_tup r2 e2
      refine ⟨a, b, xs, ys, rfl, rfl, q1, q2, by rw [rr1.length, rr2.length]; exact small_line hc, fun z => ?_, fun _ z => ?_, fun _ _ p hp => ?_⟩
      · have : ds = [] := rr1.nil_iff.mp z
        subst this
        exact same_end st (.tup q2 rr2) k
      · have : es = [] := rr2.nil_iff.mp z
        subst this
        rw [List.append_nil] at k
        exact same_end st (.tup q1 rr1) k
      · obtain ⟨a1, a3⟩ := new_tup (H0 := H0) st hp (rr1.append rr2)
        exact k _ _ a1 a3
    · cases h
  · cases h
/-! ### slices -/
section
variable {X : Cx} {a b e : Expr} {fa fb fe : FE} {pos p2 p3 p4 : Pos} {lo hi : Option Expr} {fl fu : FO}
/-! ### {}, -x, is -/
theorem e_catT (ha : DE X a fa) (hb : DE X b fb) : DE X (.BinOp a .Add b pos) (fOp2 gCatT fa fb) := de_bin op_catT2 op2_catT ha hb
/-! ### tuples of whole numbers: < -/
end
end DL
namespace DL
open PySem PySem.Spec L2 PyProof.Rows
theorem e_const {X : Cx} {x : Str} {i : Int} {pos : Pos} (C : ∃ t, X.mg x = some (.int i t)) (hg : Gl X x) (hd : (x == ("__debug__" : Str)) = false := by decide) : DE X (.Name x pos) (fC (.int i)) := by
  obtain ⟨t, h⟩ := C
  exact de_glob (v := .int i) hg h ⟨t, rfl⟩ (fun _ _ => .int i) hd
end DL

set_option linter.all false
set_option maxRecDepth 100000
namespace HT
open PySem PySem.Spec PyProof.Rows
section
open PySem.SeqAt
open PySem.AutoSeq1 (wpAny_loadPart')
open PySem.MeetsSeq PySem.MeetsSeq2 PySem.MeetsSeq3
end
end HT
namespace L2
open PySem PySem.Spec PyProof.Rows
section
variable {X : Cx} {a b c d : Expr} {ta tb tc td : TE} {pos : Pos}
end
end L2

set_option linter.all false
set_option maxRecDepth 100000
namespace DL
open PySem PySem.Spec L2 PyProof.Rows
variable {K : PySem.W.Frag}
section
variable {X : Cx} {a b c d e : Expr} {fa fb fc fd : FE} {pos : Pos}
end
end DL

set_option linter.all false
set_option maxRecDepth 100000
namespace SE
open PySem PySem.Spec PyProof.Rows ST
/-! ### sets of whole numbers -/
section
variable {prog : Program} {w : World} {A : Around} {E : Value → Shared → Prop} {s : Shared}
end
end SE

set_option linter.all false
set_option maxRecDepth 100000
namespace SE
open PySem PySem.Spec PyProof.Rows ST
section
variable {prog : Program} {w : World} {A : Around} {E : Value → Shared → Prop} {s : Shared}
section
variable {R : Result → Shared → Prop} {I : Addr} {fp wr : List Addr} {G : Array GenState → Array GenState → Prop} {n : Nat} {P : Nat → Value → Prop} {St : Nat → Shared → Prop}
end
set_option maxHeartbeats 3200000 in
end
end SE

set_option linter.all false
set_option maxRecDepth 100000
namespace L2
open PySem PySem.Spec PyProof.Rows ST SE
section
variable {X : Cx}
end
end L2

set_option linter.all false
set_option maxRecDepth 100000
namespace L2
open PySem PySem.Spec PyProof.Rows
section
variable {X : Cx}
end
end L2
namespace DL
open PySem PySem.Spec L2
variable {K : PySem.W.Frag}
/-! ### while -/
section
variable {X : Cx} {pos : Pos}
/-! ### xs.pop(), xs.extend(a tuple) -/
variable {o e : Expr} {fo : FE} {fr : FA} {apos cpos : Pos}
/-! ### sorted(set(a list of whole numbers)) -/
variable {a : Expr} {fa : FE} {p p3 pos3 : Pos}
end
end DL

set_option linter.all false
set_option maxRecDepth 100000
namespace DL
open PySem PySem.Spec L2
variable {K : PySem.W.Frag}
/-! ### walking a kept list, as it stands at each turn -/
section
variable {X : Cx} {elt tg iter : Expr} {ifs : List Expr} {scope : Scope} {own : List (Str × Nat)} {is : List Nat} {fa : FE} {hg : FG} {ft : FT} {fe : FE} {pos : Pos}
/-! ### xs[i], xs[j] = a pair -/
end
end DL

set_option linter.all false
set_option maxRecDepth 100000
namespace L2
open PySem PySem.Spec PyProof.Rows
section
variable {X : Cx}
variable {o e : Expr} {es : List Expr} {to : TE} {t : TA} {name : Str} {apos cpos : Pos} {id : String} {r : V → List V → Hp → VK → Prop}
end
end L2
namespace DL
open PySem PySem.Spec L2
variable {K : PySem.W.Frag}
section
variable {X : Cx} {o e : Expr} {fo : FE} {fr : FA} {p pos apos cpos : Pos}
end
end DL

set_option linter.all false
set_option maxRecDepth 100000
/-! the defs of the program and of the laws, as functions of data -/
namespace DL
open PySem PySem.Spec L2
/-- _law_cell_at: ['_law_script', '_law_k'] kept: [] -/
def g__law_cell_at : FS := (sSeq (sIf (fCmpT bLt (fVar 1) (fOpN (g1 gLen) (fCons (fVar 0) fNil))) (sRet (fOp2 gIx (fVar 0) (fVar 1))) sNil)
  (sRet (fC (.int 0))))
def sem__law_cell_at : Sem0 := semOf 2 g__law_cell_at
/-- _law_state: ['_law_script', '_law_k', '_law_cell'] kept: [] -/
def g__law_state : FS := (sSeq (sSet 2 (fCall 2 sem__law_cell_at (fCons (fVar 0) (fCons (fVar 1) fNil))))
  (sSeq (sIf (fCmpT bGe (fVar 2) (fOp2 gPow (fC (.int 10)) (fC (.int 18)))) (sRet (fLst (fCons (fOp2 gSub (fVar 2) (fOp2 gPow (fC (.int 10)) (fC (.int 18)))) (fCons (fC (.bool true)) fNil)))) sNil)
  (sRet (fLst (fCons (fOp2 gMod (fVar 2) (fC (.int 2147483647))) (fCons (fC (.bool false)) fNil))))))
def sem__law_state : Sem0 := semOf 3 g__law_state
/-- _law_take: ['_law_state_here', '_law_many', '_law_found', '_law_mixed'] kept: ['_law_state_here'] -/
def g__law_take : FS := (sSeq (sIf (fTru (fOp2 gIx (fVar 0) (fC (.int 1)))) (sSeq (sSet 2 (fOp2 gMod (fOp2 gIx (fVar 0) (fC (.int 0))) (fVar 1)))
  (sSeq (sPut (fVar 0) (fC (.int 0)) (fOp2 gDiv (fOp2 gIx (fVar 0) (fC (.int 0))) (fVar 1)))
  (sRet (fVar 2)))) sNil)
  (sSeq (sPut (fVar 0) (fC (.int 0)) (fOp2 gMod (fOp2 gAdd (fOp2 gMul (fOp2 gIx (fVar 0) (fC (.int 0))) (fC (.int 48271))) (fC (.int 29))) (fC (.int 2147483647))))
  (sSeq (sSet 3 (fOp2 gMod (fOp2 gAdd (fOp2 gAdd (fOp2 gMul (fOp2 gIx (fVar 0) (fC (.int 0))) (fOp2 gIx (fVar 0) (fC (.int 0)))) (fOp2 gMul (fC (.int 39373)) (fOp2 gIx (fVar 0) (fC (.int 0))))) (fC (.int 7))) (fC (.int 2147483629))))
  (sSeq (sSet 3 (fOp2 gMod (fOp2 gAdd (fOp2 gMul (fVar 3) (fVar 3)) (fOp2 gMul (fC (.int 16807)) (fVar 3))) (fC (.int 2147483587))))
  (sRet (fOp2 gMod (fOp2 gDiv (fVar 3) (fC (.int 8))) (fVar 1)))))))
def sem__law_take : Sem0 := semOf 4 g__law_take
/-- _law_pairs: ['_law_places', '_law_found', '_law_a', '_law_b'] kept: ['_law_found'] -/
def g__law_pairs : FS := (sSeq (sSetB 1 (fLst fNil))
  (sSeq (sFor (iRange1 (fCons (fVar 0) fNil)) (hName 2) (sExpr (fExtend (fVar 1) (fCons (fComp [3] (iRange2 (fCons (fOp2 gAdd (fVar 2) (fC (.int 1))) (fCons (fVar 0) fNil))) (hName 3) fYes (fTup (fCons (fVar 2) (fCons (fVar 3) fNil)))) fNil))))
  (sRet (fVar 1))))
def sem__law_pairs : Sem0 := semOf 4 g__law_pairs
end DL

set_option linter.all false
set_option maxRecDepth 100000
namespace DL
open PySem PySem.Spec L2
/-! ### running the readings -/
section
variable {g g' : FS} {f fa fb fe : FE} {ft : FT} {ε ε1 : DEnv} {S S1 S2 : Bxs} {dv x y : DV} {i : Nat}
theorem sSeq_nx (h : g ε S = some (.nx ε1 S1)) : sSeq g g' ε S = g' ε1 S1 := by simp [sSeq, h]
theorem sSeq_rt (h : g ε S = some (.rt dv S1)) : sSeq g g' ε S = some (.rt dv S1) := by simp [sSeq, h]
theorem sSet_eq (h : f ε S = some (dv, S1)) : sSet i f ε S = some (.nx (ε.set i (some (norm dv))) S1) := by simp [sSet, h]
theorem sSetB_eq {ds : List D} (h : f ε S = some (.lst ds, S1)) : sSetB i f ε S = some (.nx (ε.set i (some (.box S1.length))) (S1 ++ [ds])) := by simp [sSetB, h]
theorem sRet_eq (h : f ε S = some (dv, S1)) : sRet f ε S = some (.rt dv S1) := by simp [sRet, h]
theorem sExpr_eq (h : f ε S = some (dv, S1)) : sExpr f ε S = some (.nx ε S1) := by simp [sExpr, h]
theorem sIf_t (h : ft ε S = some (true, S1)) : sIf ft g g' ε S = g ε S1 := by simp [sIf, h]
theorem sIf_f (h : ft ε S = some (false, S1)) : sIf ft g g' ε S = g' ε S1 := by simp [sIf, h]
def finOf (S : Bxs) : Option Out → Option (DV × Bxs)
  | some (.rt dv S') => fin S.length dv S'
  | some (.nx _ S') => some (.dat .none, S'.take S.length)
  | _ => none
theorem semOf_eq (m : Nat) (g : FS) (dvs : List DV) (S : Bxs) : semOf m g dvs S = finOf S (g (dvs.map some ++ List.replicate (m - dvs.length) none) S) := by
  unfold semOf finOf
  split <;> rename_i h <;> simp [h]
theorem fin_dat {d : D} {S S' : Bxs} (h : S'.length = S.length) : finOf S (some (.rt (.dat d) S')) = some (.dat d, S') := by
  simp [finOf, fin, ← h]
theorem fin_lst {d : List D} {S S' : Bxs} (h : S'.length = S.length) : finOf S (some (.rt (.lst d) S')) = some (.lst d, S') := by
  simp [finOf, fin, ← h]
/-- what the def keeps for itself goes -/
theorem fin_dat' {d : D} {S S' T : Bxs} (h : S'.length = S.length) : finOf S (some (.rt (.dat d) (S' ++ T))) = some (.dat d, S') := by
  simp [finOf, fin, ← h]
theorem fin_box {S S' T : Bxs} {ds : List D} {k : Nat} (h : S'.length = S.length) (hk : S.length ≤ k) (hd : (S' ++ T)[k]? = some ds) : finOf S (some (.rt (.box k) (S' ++ T))) = some (.lst ds, S') := by
  simp only [finOf, fin]
  rw [if_neg (Nat.not_lt.mpr hk), hd]
  simp [← h]
end
section
variable {fa fb : FE} {fr : FA} {ε : DEnv} {S S1 S2 : Bxs} {x y dv : DV} {xs : List DV}
theorem vr {i : Nat} (h : ε[i]? = some (some dv)) : fVar i ε S = some (dv, S) := by simp [fVar, h]
theorem op2 {g : Bxs → DV → DV → Option DV} (ha : fa ε S = some (x, S1)) (hb : fb ε S1 = some (y, S2)) (hg : g S2 x y = some dv) : fOp2 g fa fb ε S = some (dv, S2) := by simp [fOp2, ha, hb, hg]
theorem opN {g : Bxs → List DV → Option DV} (ha : fr ε S = some (xs, S1)) (hg : g S1 xs = some dv) : fOpN g fr ε S = some (dv, S1) := by simp [fOpN, ha, hg]
theorem cns (ha : fa ε S = some (x, S1)) (hr : fr ε S1 = some (xs, S2)) : fCons fa fr ε S = some (x :: xs, S2) := by simp [fCons, ha, hr]
theorem nl : fNil ε S = some ([], S) := rfl
theorem cl {n : Nat} {sem : Sem0} (ha : fr ε S = some (xs, S1)) (hn : xs.length = n) (h : sem (xs.map norm) S1 = some (dv, S2)) : fCall n sem fr ε S = some (dv, S2) := by simp [fCall, ha, hn, h]
theorem tp {ds : List D} (ha : fr ε S = some (xs, S1)) (h : toDs xs = some ds) (hl : ds.length ≤ 100000) : fTup fr ε S = some (.dat (.tuple ds), S1) := by simp [fTup, ha, h, small, hl]
theorem ls {ds : List D} (ha : fr ε S = some (xs, S1)) (h : toDs xs = some ds) (hl : ds.length ≤ 100000) : fLst fr ε S = some (.lst ds, S1) := by simp [fLst, ha, h, small, hl]
theorem cmT {g : Bxs → DV → DV → Option Bool} {b : Bool} (ha : fa ε S = some (x, S1)) (hb : fb ε S1 = some (y, S2)) (hg : g S2 x y = some b) : fCmpT g fa fb ε S = some (b, S2) := by simp [fCmpT, ha, hb, hg]
theorem cmE {g : Bxs → DV → DV → Option Bool} {b : Bool} (ha : fa ε S = some (x, S1)) (hb : fb ε S1 = some (y, S2)) (hg : g S2 x y = some b) : fOp2 (gB g) fa fb ε S = some (.dat (.bool b), S2) := op2 ha hb (by simp [gB, hg])
theorem it {ds : List D} {d : D} (ha : fa ε S = some (x, S1)) (h : toD x = some d) (hs : seqD d = some ds) : iD fa ε S = some (ds, S1) := by simp [iD, ha, h, hs]
theorem r1 {j : Int} (ha : fr ε S = some ([.dat (.int j)], S1)) (h : okI j = true) : iRange1 fr ε S = some (nums 0 j.toNat, S1) := by simp [iRange1, ha, h, rd]
theorem r2 {i j : Int} (ha : fr ε S = some ([.dat (.int i), .dat (.int j)], S1)) (h : okI i = true) (h' : okI j = true) : iRange2 fr ε S = some (nums i (j - i).toNat, S1) := by simp [iRange2, ha, h, h', rd]
theorem apd {k : Nat} {acc : List D} {d : D} (ho : fa ε S = some (.box k, S1)) (ha : fr ε S1 = some ([y], S2)) (hy : toD y = some d) (hk : S2[k]? = some acc) (hs : small (acc.length + 1) = true) : fAppend fa fr ε S = some (.dat .none, S2.set k (acc ++ [d])) := by
  unfold fAppend
  rw [ho]
  simp only [ha, hy, hk]
  rw [if_pos hs]
theorem exd {k : Nat} {acc ds : List D} (ho : fa ε S = some (.box k, S1)) (ha : fr ε S1 = some ([y], S2)) (hy : ownL S2 y = some ds) (hk : S2[k]? = some acc) (hs : small (acc.length + ds.length) = true) : fExtend fa fr ε S = some (.dat .none, S2.set k (acc ++ ds)) := by
  unfold fExtend
  rw [ho]
  simp only [ha, hy, hk]
  rw [if_pos hs]
theorem okI_of {i : Int} (h1 : -(2 ^ 62) ≤ i) (h2 : i < 2 ^ 62) : okI i = true := decide_eq_true ⟨h1, h2⟩
end
@[simp] theorem fVar_z (dv : DV) (ε : DEnv) (S : Bxs) : fVar 0 (some dv :: ε) S = some (dv, S) := rfl
@[simp] theorem fVar_s (i : Nat) (x : Option DV) (ε : DEnv) (S : Bxs) : fVar (i + 1) (x :: ε) S = fVar i ε S := by simp [fVar]
@[simp] theorem fC_e (d : D) (ε : DEnv) (S : Bxs) : fC d ε S = some (.dat d, S) := rfl
@[simp] theorem fNil_e (ε : DEnv) (S : Bxs) : fNil ε S = some ([], S) := rfl
@[simp] theorem fYes_e (ε : DEnv) (S : Bxs) : fYes ε S = some (true, S) := rfl
@[simp] theorem rd_dat (S : Bxs) (d : D) : rd S (.dat d) = some d := rfl
@[simp] theorem rd_lst' (S : Bxs) (d : List D) : rd S (.lst d) = some (.list d) := rfl
@[simp] theorem toD_dat (d : D) : toD (.dat d) = some d := rfl
@[simp] theorem toD_lst (d : List D) : toD (.lst d) = some (.list d) := rfl
@[simp] theorem norm_dat (d : D) : norm (.dat d) = .dat d := rfl
@[simp] theorem norm_lst (d : List D) : norm (.lst d) = .dat (.list d) := rfl
@[simp] theorem norm_box (k : Nat) : norm (.box k) = .box k := rfl
theorem rd_box {S : Bxs} {k : Nat} {ds : List D} (h : S[k]? = some ds) : rd S (.box k) = some (.list ds) := by simp [rd, h]
@[simp] theorem sq_tup (S : Bxs) (ds : List D) : sq S (.dat (.tuple ds)) = some ds := rfl
@[simp] theorem sq_lst (S : Bxs) (ds : List D) : sq S (.dat (.list ds)) = some ds := rfl
@[simp] theorem sq_lst' (S : Bxs) (ds : List D) : sq S (.lst ds) = some ds := rfl
theorem sq_box {S : Bxs} {k : Nat} {ds : List D} (h : S[k]? = some ds) : sq S (.box k) = some ds := by simp [sq, rd_box h]
@[simp] theorem gAdd_e (S : Bxs) (i j : Int) : gAdd S (.dat (.int i)) (.dat (.int j)) = some (.dat (.int (i + j))) := rfl
@[simp] theorem gSub_e (S : Bxs) (i j : Int) : gSub S (.dat (.int i)) (.dat (.int j)) = some (.dat (.int (i - j))) := rfl
theorem gMul_e (S : Bxs) (i j : Int) (h : (-(2 ^ 64) < i ∧ i < 2 ^ 64) ∨ (-(2 ^ 64) < j ∧ j < 2 ^ 64)) : gMul S (.dat (.int i)) (.dat (.int j)) = some (.dat (.int (i * j))) := by
  unfold gMul gI
  simp only [rd_dat]
  rw [if_pos (by simpa using h)]
theorem gDiv_e (S : Bxs) (i j : Int) (h : 0 < j) (h' : j < 1073741824) : gDiv S (.dat (.int i)) (.dat (.int j)) = some (.dat (.int (i / j))) := by
  unfold gDiv gI
  simp only [rd_dat]
  rw [if_pos (by simp [h, h'])]
theorem gMod_e (S : Bxs) (i j : Int) (h : 0 < j) : gMod S (.dat (.int i)) (.dat (.int j)) = some (.dat (.int (i % j))) := by
  unfold gMod gI
  simp only [rd_dat]
  rw [if_pos (by simp [h])]
@[simp] theorem gMin_e (S : Bxs) (i j : Int) : gMin S (.dat (.int i)) (.dat (.int j)) = some (.dat (.int (if j < i then j else i))) := rfl
@[simp] theorem gMax_e (S : Bxs) (i j : Int) : gMax S (.dat (.int i)) (.dat (.int j)) = some (.dat (.int (if j > i then j else i))) := rfl
@[simp] theorem bLt_e (S : Bxs) (i j : Int) : bLt S (.dat (.int i)) (.dat (.int j)) = some (decide (i < j)) := rfl
@[simp] theorem bLe_e (S : Bxs) (i j : Int) : bLe S (.dat (.int i)) (.dat (.int j)) = some (decide (i ≤ j)) := rfl
@[simp] theorem bGt_e (S : Bxs) (i j : Int) : bGt S (.dat (.int i)) (.dat (.int j)) = some (decide (j < i)) := rfl
@[simp] theorem bGe_e (S : Bxs) (i j : Int) : bGe S (.dat (.int i)) (.dat (.int j)) = some (decide (j ≤ i)) := rfl
@[simp] theorem shaped_int (i : Int) : SeqAt.shaped (.int i) = true := by simp [SeqAt.shaped, PyData.canLay0, PyData.depth]
@[simp] theorem shaped_bool (i : Bool) : SeqAt.shaped (.bool i) = true := by simp [SeqAt.shaped, PyData.canLay0, PyData.depth]
theorem canAll_map {α : Type} {f : α → D} (h : ∀ a, (f a).canLay0 = true) : ∀ l : List α, PyData.canLayAll0 (l.map f) = true
  | [] => by simp [PyData.canLayAll0]
  | a :: l => by simp [PyData.canLayAll0, h a, canAll_map h l]
theorem depthAll_map {α : Type} {f : α → D} {n : Nat} (h : ∀ a, (f a).depth ≤ n) : ∀ l : List α, PyData.depthAll (l.map f) ≤ n
  | [] => by simp [PyData.depthAll]
  | a :: l => by simp only [List.map_cons, PyData.depthAll]; exact Nat.max_le.mpr ⟨h a, depthAll_map h l⟩
theorem can_dT (ns : List Int) : (dT ns).canLay0 = true := by unfold dT; rw [PyData.canLay0]; exact canAll_map (fun a => by simp [PyData.canLay0]) ns
theorem depth_dT (ns : List Int) : (dT ns).depth ≤ 1 := by
  unfold dT; rw [PyData.depth]
  have := depthAll_map (f := PyData.int) (n := 0) (fun a => by simp [PyData.depth]) ns
  omega
@[simp] theorem shaped_dT (ns : List Int) : SeqAt.shaped (dT ns) = true := by
  unfold SeqAt.shaped
  rw [can_dT, Bool.true_and]
  exact decide_eq_true (Nat.le_trans (depth_dT ns) (by decide))
theorem eqv_int (i j : Int) : PyData.eqv (.int i) (.int j) = decide (i = j) := by simp [PyData.eqv]; rfl
theorem eqv_dT (a b : List Int) : PyData.eqv (dT a) (dT b) = decide (a = b) := by
  unfold dT
  rw [PyData.eqv]
  exact PySem.W.ked_eqvAll a b
@[simp] theorem bEq_int (S : Bxs) (i j : Int) : bEq S (.dat (.int i)) (.dat (.int j)) = some (decide (i = j)) := by
  simp [bEq, eqv_int]
@[simp] theorem bNe_int (S : Bxs) (i j : Int) : bNe S (.dat (.int i)) (.dat (.int j)) = some (!decide (i = j)) := by
  simp [bNe, eqv_int]
/-! ### comprehensions that change nothing -/
section
variable {vs : List Nat} {fi : FI} {hg : FG} {ft : FT} {fe : FE} {ε ε0 : DEnv} {S : Bxs}
theorem small_of {n : Nat} (h : n ≤ 100000) : small n = true := decide_eq_true h
theorem get_end (S : Bxs) (a : List D) : (S ++ [a])[S.length]? = some a := by simp
theorem set_end (S : Bxs) (a b : List D) : (S ++ [a]).set S.length b = S ++ [b] := by simp
theorem compD_pure (b : D → Bool) (r : D → D) : ∀ (ds : List D) (acc : List D), acc.length + ds.length ≤ 100000 →
    (∀ d ∈ ds, ∃ ε1, hg d ε0 = some ε1 ∧ (∀ acc, ft ε1 (S ++ [acc]) = some (b d, S ++ [acc])) ∧ (b d = true → ∀ acc, ∃ y, fe ε1 (S ++ [acc]) = some (y, S ++ [acc]) ∧ toD y = some (r d))) →
    compD hg ft fe ε0 S.length ds (S ++ [acc]) = some (S ++ [acc ++ (ds.filter b).map r])
  | [], acc, _, _ => by simp [compD]
  | d :: ds, acc, hl, h => by
    obtain ⟨ε1, h1, h2, h3⟩ := h d List.mem_cons_self
    rw [List.length_cons] at hl
    unfold compD
    rw [h1]
    simp only [h2]
    cases hb : b d with
    | false =>
      simp only
      rw [compD_pure b r ds acc (by omega) fun d hd => h d (List.mem_cons_of_mem _ hd)]
      simp [List.filter_cons, hb]
    | true =>
      obtain ⟨y, h4, h5⟩ := h3 hb acc
      simp only [h4, h5, get_end, set_end]
      rw [if_pos (small_of (by omega)), compD_pure b r ds (acc ++ [r d]) (by simp; omega) fun d hd => h d (List.mem_cons_of_mem _ hd)]
      simp [List.filter_cons, hb]
theorem fComp_pure {ds : List D} (b : D → Bool) (r : D → D) (hi : fi ε S = some (ds, S)) (hl : ds.length ≤ 100000)
    (h : ∀ d ∈ ds, ∃ ε1, hg d (wipeE ε vs) = some ε1 ∧ (∀ acc, ft ε1 (S ++ [acc]) = some (b d, S ++ [acc])) ∧ (b d = true → ∀ acc, ∃ y, fe ε1 (S ++ [acc]) = some (y, S ++ [acc]) ∧ toD y = some (r d))) :
    fComp vs fi hg ft fe ε S = some (.lst ((ds.filter b).map r), S) := by
  unfold fComp
  rw [hi]
  simp only
  rw [compD_pure b r ds [] (by simpa using hl) h]
  simp
/-! ### comprehensions and loops by what holds between two turns -/
/-- a loop that neither breaks nor returns -/
theorem forD_inv {gb : FS} (J : Nat → DEnv → Bxs → Prop) : ∀ (ds : List D) (i : Nat) (ε : DEnv) (S : Bxs), J i ε S →
    (∀ (j : Nat) (d : D) (ε' : DEnv) (S' : Bxs), ds[j]? = some d → J (i + j) ε' S' → ∃ ε1 ε2 S2, hg d ε' = some ε1 ∧ gb ε1 S' = some (.nx ε2 S2) ∧ J (i + j + 1) ε2 S2) → ∃ ε' S', forD hg gb ds ε S = some (.nx ε' S') ∧ J (i + ds.length) ε' S'
  | [], i, ε, S, hJ, _ => ⟨ε, S, rfl, by simpa using hJ⟩
  | d :: ds, i, ε, S, hJ, h => by
    obtain ⟨ε1, ε2, S2, h1, h2, h3⟩ := h 0 d ε S rfl hJ
    obtain ⟨ε', S', r1, r2⟩ := forD_inv J ds (i + 1) ε2 S2 h3 fun j d ε' S' hd hj => by
      have e : i + 1 + j = i + (j + 1) := by omega
      rw [e] at hj ⊢
      exact h (j + 1) d ε' S' (by simpa using hd) hj
    refine ⟨ε', S', ?_, ?_⟩
    · unfold forD
      simp only [h1, h2]
      exact r1
    · rw [List.length_cons, show i + (ds.length + 1) = i + 1 + ds.length by omega]; exact r2
theorem sFor_inv {gb : FS} {ds : List D} {S1 : Bxs} (J : Nat → DEnv → Bxs → Prop) (hi : fi ε S = some (ds, S1)) (h0 : J 0 ε S1)
    (h : ∀ (j : Nat) (d : D) (ε' : DEnv) (S' : Bxs), ds[j]? = some d → J j ε' S' → ∃ ε1 ε2 S2, hg d ε' = some ε1 ∧ gb ε1 S' = some (.nx ε2 S2) ∧ J (j + 1) ε2 S2) : ∃ ε' S', sFor fi hg gb ε S = some (.nx ε' S') ∧ J ds.length ε' S' := by
  obtain ⟨ε', S', r1, r2⟩ := forD_inv J ds 0 ε S1 h0 fun j d ε' S' hd hj => by
    rw [Nat.zero_add] at hj ⊢
    exact h j d ε' S' hd hj
  refine ⟨ε', S', ?_, by simpa using r2⟩
  unfold sFor
  rw [hi]
  exact r1
end
end DL

set_option linter.all false
set_option maxRecDepth 100000
namespace DL
open PySem PySem.Spec L2
/-! ### drawing -/
theorem atI_int {ns : List D} {i : Int} {d : D} (h0 : 0 ≤ i) (h : ns[i.toNat]? = some d) : atI ns i = some d := by
  have := atI_nat (xs := ns) (j := i.toNat) h
  rw [show ((i.toNat : Nat) : Int) = i by omega] at this
  exact this
theorem gIx_e {S : Bxs} {x : DV} {ds : List D} {i : Int} {d : D} (h : sq S x = some ds) (h0 : 0 ≤ i) (hd : ds[i.toNat]? = some d) : gIx S x (.dat (.int i)) = some (.dat d) := by
  unfold gIx
  simp only [h, rd_dat, atI_int h0 hd, Option.map_some]
def cellI (ns : List Int) (k : Nat) : Int := ns.getD k 0
theorem cell_at_eq (ns : List Int) (k : Nat) (S : Bxs) : sem__law_cell_at [.dat (.list (ns.map .int)), .dat (.int k)] S = some (.dat (.int (cellI ns k)), S) := by
  unfold sem__law_cell_at
  rw [semOf_eq]
  show finOf S (g__law_cell_at [some _, some _] S) = _
  unfold g__law_cell_at
  have test : fCmpT bLt (fVar 1) (fOpN (g1 gLen) (fCons (fVar 0) fNil)) [some (.dat (.list (ns.map .int))), some (.dat (.int k))] S = some (decide ((k : Int) < ns.length), S) := by
    simp [fCmpT, fOpN, fCons, g1, gLen]
  by_cases h : k < ns.length
  · rw [decide_eq_true (by omega)] at test
    have e : fOp2 gIx (fVar 0) (fVar 1) [some (.dat (.list (ns.map .int))), some (.dat (.int k))] S = some (.dat (.int (cellI ns k)), S) := by
      simp only [fOp2, fVar_z, fVar_s]
      rw [gIx_e (d := .int (cellI ns k)) (sq_lst _ _) (by omega) (by simp [cellI, h])]
    rw [sSeq_rt ((sIf_t test).trans (sRet_eq e))]
    exact fin_dat rfl
  · rw [decide_eq_false (by omega)] at test
    rw [sSeq_nx ((sIf_f test).trans rfl), sRet_eq (fC_e _ _ _), fin_dat rfl]
    simp [cellI, List.getD_eq_getElem?_getD, List.getElem?_eq_none (Nat.not_lt.mp h)]
/-- the state of a drawing -/
def StV (v : List D) : Prop := ∃ a b, v = [.int a, .bool b] ∧ 0 ≤ a ∧ (b = false → a < 2147483647)
theorem pow_e (ε : DEnv) (S : Bxs) : fOp2 gPow (fC (.int 10)) (fC (.int 18)) ε S = some (.dat (.int (10 ^ 18)), S) := by
  simp only [fOp2, fC_e]
  rfl
theorem state_ok (ns : List Int) (k : Nat) (S : Bxs) : ∃ v, sem__law_state [.dat (.list (ns.map .int)), .dat (.int k)] S = some (.lst v, S) ∧ StV v := by
  unfold sem__law_state
  rw [semOf_eq]
  show ∃ v, finOf S (g__law_state [some _, some _, none] S) = _ ∧ _
  unfold g__law_state
  have call : fCall 2 sem__law_cell_at (fCons (fVar 0) (fCons (fVar 1) fNil)) [some (.dat (.list (ns.map .int))), some (.dat (.int k)), none] S = some (.dat (.int (cellI ns k)), S) := by
    simp [fCall, fCons, cell_at_eq]
  rw [sSeq_nx (sSet_eq call)]
  simp only [List.set_cons_succ, List.set_cons_zero, norm_dat]
  generalize cellI ns k = c
  have test : fCmpT bGe (fVar 2) (fOp2 gPow (fC (.int 10)) (fC (.int 18))) [some (.dat (.list (ns.map .int))), some (.dat (.int k)), some (.dat (.int c))] S = some (decide (10 ^ 18 ≤ c), S) := by
    simp only [fCmpT, fVar_s, fVar_z, pow_e, bGe_e]
  by_cases h : (10 : Int) ^ 18 ≤ c
  · rw [decide_eq_true h] at test
    refine ⟨[.int (c - 10 ^ 18), .bool true], ?_, _, _, rfl, by omega, fun z => nomatch z⟩
    rw [sSeq_rt ((sIf_t test).trans (sRet_eq (dv := .lst [.int (c - 10 ^ 18), .bool true]) (S1 := S) ?_))]
    · exact fin_lst rfl
    · simp only [fLst, fCons, fNil_e, fOp2, fVar_s, fVar_z, fC_e, gSub_e, show gPow S (.dat (.int 10)) (.dat (.int 18)) = some (.dat (.int (10 ^ 18))) from rfl, toDs, toD_dat]
      rfl
  · rw [decide_eq_false h] at test
    refine ⟨[.int (c % 2147483647), .bool false], ?_, _, _, rfl, Int.emod_nonneg _ (by decide), fun _ => Int.emod_lt_of_pos _ (by decide)⟩
    rw [sSeq_nx ((sIf_f test).trans rfl), sRet_eq (dv := .lst [.int (c % 2147483647), .bool false]) (S1 := S) ?_]
    · exact fin_lst rfl
    · simp only [fLst, fCons, fNil_e, fOp2, fVar_s, fVar_z, fC_e, gMod_e S c 2147483647 (by decide), toDs, toD_dat]
      rfl
theorem ix_box {S : Bxs} {i j : Nat} {ds : List D} {d : D} {ε : DEnv} (hS : S[i]? = some ds) (hd : ds[j]? = some d) (hi : ε[0]? = some (some (.box i))) : fOp2 gIx (fVar 0) (fC (.int j)) ε S = some (.dat d, S) := by
  simp only [fOp2, fVar, hi, fC_e]
  rw [gIx_e (sq_box hS) (by omega) (by simpa using hd)]
theorem take_ok {S : Bxs} {i : Nat} {v : List D} {many : Int} (hS : S[i]? = some v) (hv : StV v) (hm : 0 < many) (hm2 : many < 1073741824) :
    ∃ r v', sem__law_take [.box i, .dat (.int many)] S = some (.dat (.int r), S.set i v') ∧ 0 ≤ r ∧ r < many ∧ StV v' := by
  obtain ⟨a, b, rfl, h0, hb⟩ := hv
  have il : i < S.length := (List.getElem?_eq_some_iff.mp hS).1
  unfold sem__law_take
  simp only [semOf_eq]
  show ∃ r v', finOf S (g__law_take [some _, some _, none, none] S) = _ ∧ _
  unfold g__law_take
  have e0 : ∀ (x y : Option DV), fOp2 gIx (fVar 0) (fC (.int 0)) [some (.box i), some (.dat (.int many)), x, y] S = some (.dat (.int a), S) := fun x y => ix_box (j := 0) hS rfl rfl
  have e1 : ∀ (x y : Option DV), fOp2 gIx (fVar 0) (fC (.int 1)) [some (.box i), some (.dat (.int many)), x, y] S = some (.dat (.bool b), S) := fun x y => ix_box (j := 1) hS rfl rfl
  have test : fTru (fOp2 gIx (fVar 0) (fC (.int 1))) [some (.box i), some (.dat (.int many)), none, none] S = some (b, S) := by
    simp only [fTru, e1, rd_dat, tru]
  -- a store
  have put : ∀ (x y : Option DV) (fe : FE) (z : Int), fe [some (.box i), some (.dat (.int many)), x, y] S = some (.dat (.int z), S) → sPut (fVar 0) (fC (.int 0)) fe [some (.box i), some (.dat (.int many)), x, y] S = some (.nx [some (.box i), some (.dat (.int many)), x, y] (S.set i [.int z, .bool b])) := by
    intro x y fe z hz
    simp only [sPut, hz, toD_dat, fVar_z, fC_e, rd_dat, hS]
    rfl
  have len : ∀ z : List D, (S.set i z).length = S.length := fun z => by simp
  cases b with
  | true =>
    have s1 : sSet 2 (fOp2 gMod (fOp2 gIx (fVar 0) (fC (.int 0))) (fVar 1)) [some (.box i), some (.dat (.int many)), none, none] S = some (.nx [some (.box i), some (.dat (.int many)), some (.dat (.int (a % many))), none] S) := by
      rw [sSet_eq (dv := .dat (.int (a % many))) (S1 := S)]
      · rfl
      · exact op2 (e0 _ _) (vr rfl) (gMod_e S a many hm)
    have s2 := put (some (.dat (.int (a % many)))) none (fOp2 gDiv (fOp2 gIx (fVar 0) (fC (.int 0))) (fVar 1)) (a / many) (op2 (e0 _ _) (vr rfl) (gDiv_e S a many hm hm2))
    refine ⟨a % many, [.int (a / many), .bool true], ?_, Int.emod_nonneg _ (by omega), Int.emod_lt_of_pos _ hm, _, _, rfl, Int.ediv_nonneg h0 (by omega), fun z => nomatch z⟩
    rw [sSeq_rt ((sIf_t test).trans ((sSeq_nx s1).trans ((sSeq_nx s2).trans (sRet_eq (dv := .dat (.int (a % many))) (S1 := S.set i [.int (a / many), .bool true]) (by simp)))))]
    exact fin_dat (len _)
  | false =>
    have ha := hb rfl
    have n0 : 0 ≤ (a * 48271 + 29) % 2147483647 := Int.emod_nonneg _ (by decide)
    have n1 : (a * 48271 + 29) % 2147483647 < 2147483647 := Int.emod_lt_of_pos _ (by decide)
    have s1 := put none none (fOp2 gMod (fOp2 gAdd (fOp2 gMul (fOp2 gIx (fVar 0) (fC (.int 0))) (fC (.int 48271))) (fC (.int 29))) (fC (.int 2147483647))) ((a * 48271 + 29) % 2147483647) (op2 (op2 (op2 (e0 _ _) (fC_e _ _ _) (gMul_e S a 48271 (.inr (by decide)))) (fC_e _ _ _) (gAdd_e _ _ _)) (fC_e _ _ _) (gMod_e S _ 2147483647 (by decide)))
    generalize (a * 48271 + 29) % 2147483647 = c at n0 n1 s1
    have hS2 : (S.set i [.int c, .bool false])[i]? = some [.int c, .bool false] := List.getElem?_set_self il
    have f0 : ∀ (x y : Option DV), fOp2 gIx (fVar 0) (fC (.int 0)) [some (.box i), some (.dat (.int many)), x, y] (S.set i [.int c, .bool false]) = some (.dat (.int c), S.set i [.int c, .bool false]) := fun x y => ix_box (j := 0) hS2 rfl rfl
    have s2 : sSet 3 (fOp2 gMod (fOp2 gAdd (fOp2 gAdd (fOp2 gMul (fOp2 gIx (fVar 0) (fC (.int 0))) (fOp2 gIx (fVar 0) (fC (.int 0)))) (fOp2 gMul (fC (.int 39373)) (fOp2 gIx (fVar 0) (fC (.int 0))))) (fC (.int 7))) (fC (.int 2147483629))) [some (.box i), some (.dat (.int many)), none, none] (S.set i [.int c, .bool false]) =
        some (.nx [some (.box i), some (.dat (.int many)), none, some (.dat (.int ((c * c + 39373 * c + 7) % 2147483629)))] (S.set i [.int c, .bool false])) := by
      rw [sSet_eq (dv := .dat (.int ((c * c + 39373 * c + 7) % 2147483629))) (S1 := S.set i [.int c, .bool false])]
      · rfl
      · exact op2 (op2 (op2 (op2 (f0 _ _) (f0 _ _) (gMul_e _ c c (.inl (by omega)))) (op2 (fC_e _ _ _) (f0 _ _) (gMul_e _ 39373 c (.inl (by decide)))) (gAdd_e _ _ _)) (fC_e _ _ _) (gAdd_e _ _ _)) (fC_e _ _ _) (gMod_e _ _ 2147483629 (by decide))
    have d0 : 0 ≤ (c * c + 39373 * c + 7) % 2147483629 := Int.emod_nonneg _ (by decide)
    have d1 : (c * c + 39373 * c + 7) % 2147483629 < 2147483629 := Int.emod_lt_of_pos _ (by decide)
    generalize (c * c + 39373 * c + 7) % 2147483629 = e at d0 d1 s2
    have s3 : sSet 3 (fOp2 gMod (fOp2 gAdd (fOp2 gMul (fVar 3) (fVar 3)) (fOp2 gMul (fC (.int 16807)) (fVar 3))) (fC (.int 2147483587))) [some (.box i), some (.dat (.int many)), none, some (.dat (.int e))] (S.set i [.int c, .bool false]) =
        some (.nx [some (.box i), some (.dat (.int many)), none, some (.dat (.int ((e * e + 16807 * e) % 2147483587)))] (S.set i [.int c, .bool false])) := by
      rw [sSet_eq (dv := .dat (.int ((e * e + 16807 * e) % 2147483587))) (S1 := S.set i [.int c, .bool false])]
      · rfl
      · exact op2 (op2 (op2 (vr rfl) (vr rfl) (gMul_e _ e e (.inl (by omega)))) (op2 (fC_e _ _ _) (vr rfl) (gMul_e _ 16807 e (.inl (by decide)))) (gAdd_e _ _ _)) (fC_e _ _ _) (gMod_e _ _ 2147483587 (by decide))
    generalize (e * e + 16807 * e) % 2147483587 = q at s3
    refine ⟨q / 8 % many, [.int c, .bool false], ?_, Int.emod_nonneg _ (by omega), Int.emod_lt_of_pos _ hm, _, _, rfl, n0, fun _ => n1⟩
    rw [sSeq_nx ((sIf_f test).trans rfl), sSeq_nx s1, sSeq_nx s2, sSeq_nx s3, sRet_eq (dv := .dat (.int (q / 8 % many))) (S1 := S.set i [.int c, .bool false])]
    · exact fin_dat (len _)
    · exact op2 (op2 (vr rfl) (fC_e _ _ _) (gDiv_e _ q 8 (by decide) (by decide))) (vr rfl) (gMod_e _ _ many hm)
end DL

set_option linter.all false
set_option maxRecDepth 100000
namespace DL
open PySem PySem.Spec L2
/-! ### all pairs -/
def rowP (m a : Nat) : List (List Int) := (List.range (m - (a + 1))).map fun (j : Nat) => [(a : Int), (a : Int) + 1 + (j : Int)]
def allPairs (m : Nat) : List (List Int) := (List.range m).flatMap (rowP m)
/-- a pair of places -/
def TieIn (n : Int) (t : List Int) : Prop := ∃ a b, t = [a, b] ∧ 0 ≤ a ∧ a < b ∧ b < n
theorem mem_rowP {m a : Nat} {t : List Int} : t ∈ rowP m a ↔ ∃ b : Int, t = [(a : Int), b] ∧ (a : Int) < b ∧ b < m := by
  unfold rowP
  rw [List.mem_map]
  constructor
  · rintro ⟨j, hj, rfl⟩
    rw [List.mem_range] at hj
    exact ⟨_, rfl, by omega, by omega⟩
  · rintro ⟨b, rfl, h1, h2⟩
    refine ⟨(b - a - 1).toNat, ?_, ?_⟩
    · rw [List.mem_range]; omega
    · congr 2; omega
theorem mem_allPairs {m : Nat} {t : List Int} : t ∈ allPairs m ↔ TieIn m t := by
  unfold allPairs
  rw [List.mem_flatMap]
  constructor
  · rintro ⟨a, ha, h⟩
    obtain ⟨b, rfl, h1, h2⟩ := mem_rowP.mp h
    exact ⟨a, b, rfl, by omega, h1, h2⟩
  · rintro ⟨a, b, rfl, h0, h1, h2⟩
    refine ⟨a.toNat, by rw [List.mem_range]; omega, mem_rowP.mpr ⟨b, ?_, by omega, h2⟩⟩
    congr 1; omega
theorem rowP_len (m a : Nat) : (rowP m a).length ≤ m := by unfold rowP; simp
theorem flat_len {f : Nat → List (List Int)} {m : Nat} (h : ∀ a, (f a).length ≤ m) : ∀ l : List Nat, (l.flatMap f).length ≤ l.length * m
  | [] => by simp
  | a :: l => by
    rw [List.flatMap_cons, List.length_append, List.length_cons, Nat.succ_mul]
    have := h a; have := flat_len h l; omega
theorem nums_get {lo : Int} {n j : Nat} {d : D} (h : (nums lo n)[j]? = some d) : d = .int (lo + j) ∧ j < n := by
  unfold nums at h
  rw [List.getElem?_map] at h
  by_cases hj : j < n
  · rw [List.getElem?_range hj] at h; cases h; exact ⟨rfl, hj⟩
  · rw [List.getElem?_eq_none (by simpa using hj)] at h; cases h
theorem nums_len (lo : Int) (n : Nat) : (nums lo n).length = n := by simp [nums]
theorem nums_mem {lo : Int} {n : Nat} {d : D} (h : d ∈ nums lo n) : ∃ j : Nat, d = .int (lo + j) ∧ j < n := by
  obtain ⟨j, hj⟩ := List.mem_iff_getElem?.mp h
  obtain ⟨e, l⟩ := nums_get hj
  exact ⟨j, e, l⟩
theorem toDs2 (a b : D) : toDs [.dat a, .dat b] = some [a, b] := rfl
theorem pairs_row (m j : Nat) (hm : m ≤ 100) (hj : j < m) (S : Bxs) (y : Option DV) (A : List D) : fComp [3] (iRange2 (fCons (fOp2 gAdd (fVar 2) (fC (.int 1))) (fCons (fVar 0) fNil))) (hName 3) fYes (fTup (fCons (fVar 2) (fCons (fVar 3) fNil))) [some (.dat (.int m)), y, some (.dat (.int (0 + j))), none] (S ++ [A]) = some (.lst ((rowP m j).map dT), S ++ [A]) := by
  have hi : iRange2 (fCons (fOp2 gAdd (fVar 2) (fC (.int 1))) (fCons (fVar 0) fNil)) [some (.dat (.int m)), y, some (.dat (.int (0 + j))), none] (S ++ [A]) = some (nums (0 + j + 1) ((m : Int) - (0 + j + 1)).toNat, S ++ [A]) := r2 (cns (op2 (vr rfl) (fC_e _ _ _) (gAdd_e _ _ _)) (cns (vr rfl) nl)) (okI_of (by omega) (by omega)) (okI_of (by omega) (by omega))
  have key := fComp_pure (vs := [3]) (hg := hName 3) (ft := fYes) (fe := fTup (fCons (fVar 2) (fCons (fVar 3) fNil))) (fun _ => true) (fun d => match d with | .int b => dT [(j : Int), b] | _ => .none) hi (by rw [nums_len]; omega) (by
    intro d hd
    obtain ⟨b, rfl, hb⟩ := nums_mem hd
    refine ⟨[some (.dat (.int m)), y, some (.dat (.int (0 + j))), some (.dat (.int (0 + j + 1 + b)))], rfl, fun _ => rfl, fun _ acc => ⟨_, tp (cns (vr rfl) (cns (vr rfl) nl)) (toDs2 _ _) (by simp), ?_⟩⟩
    simp [dT])
  rw [key]
  refine congrArg (fun z => some (DV.lst z, S ++ [A])) ?_
  unfold nums rowP
  rw [List.filter_eq_self.mpr (fun _ _ => rfl), List.map_map, List.map_map]
  rw [show ((m : Int) - (0 + j + 1)).toNat = m - (j + 1) by omega]
  simp
theorem pairs_step (m j : Nat) (hm : m ≤ 100) (hj : j < m) (S : Bxs) : sExpr (fExtend (fVar 1) (fCons (fComp [3] (iRange2 (fCons (fOp2 gAdd (fVar 2) (fC (.int 1))) (fCons (fVar 0) fNil))) (hName 3) fYes (fTup (fCons (fVar 2) (fCons (fVar 3) fNil)))) fNil)) [some (.dat (.int m)), some (.box S.length), some (.dat (.int (0 + j))), none] (S ++ [((List.range j).flatMap (rowP m)).map dT]) =
    some (.nx [some (.dat (.int m)), some (.box S.length), some (.dat (.int (0 + j))), none] (S ++ [((List.range (j + 1)).flatMap (rowP m)).map dT])) := by
  have hlen : ((List.range j).flatMap (rowP m)).length ≤ j * m := by
    have := flat_len (rowP_len m) (List.range j)
    rw [List.length_range] at this; exact this
  have h2 : j * m ≤ 100 * 100 := Nat.mul_le_mul (by omega) hm
  have hrow := rowP_len m j
  have e : ((List.range (j + 1)).flatMap (rowP m)).map dT = ((List.range j).flatMap (rowP m)).map dT ++ (rowP m j).map dT := by
    rw [List.range_succ, List.flatMap_append, List.map_append]; simp
  rw [e]
  generalize ((List.range j).flatMap (rowP m)) = A at hlen
  have hs : small ((A.map dT).length + ((rowP m j).map dT).length) = true := small_of (by rw [List.length_map, List.length_map]; omega)
  refine sExpr_eq (dv := .dat .none) ?_
  have ha := cns (pairs_row m j hm hj S (some (.box S.length)) (A.map dT)) nl
  rw [exd (vr (dv := .box S.length) rfl) ha (ds := (rowP m j).map dT) rfl (get_end _ _) hs, set_end]
theorem pairs_eq (m : Nat) (hm : m ≤ 100) (S : Bxs) : sem__law_pairs [.dat (.int m)] S = some (.lst ((allPairs m).map dT), S) := by
  unfold sem__law_pairs
  rw [semOf_eq]
  show finOf S (g__law_pairs [some _, none, none, none] S) = _
  unfold g__law_pairs
  have s1 : sSetB 1 (fLst fNil) [some (.dat (.int m)), none, none, none] S = some (.nx [some (.dat (.int m)), some (.box S.length), none, none] (S ++ [[]])) := sSetB_eq (ls nl rfl (Nat.zero_le _))
  rw [sSeq_nx s1]
  have hi : iRange1 (fCons (fVar 0) fNil) [some (.dat (.int m)), some (.box S.length), none, none] (S ++ [[]]) = some (nums 0 (m : Int).toNat, S ++ [[]]) := r1 (cns (vr rfl) nl) (okI_of (by omega) (by omega))
  obtain ⟨ε', S', h1, x, e1, e2⟩ := sFor_inv (hg := hName 2) (gb := sExpr (fExtend (fVar 1) (fCons (fComp [3] (iRange2 (fCons (fOp2 gAdd (fVar 2) (fC (.int 1))) (fCons (fVar 0) fNil))) (hName 3) fYes (fTup (fCons (fVar 2) (fCons (fVar 3) fNil)))) fNil)))
    (fun j ε S' => ∃ x, ε = [some (.dat (.int m)), some (.box S.length), x, none] ∧ S' = S ++ [((List.range j).flatMap (rowP m)).map dT]) hi ⟨none, rfl, rfl⟩ (by
    rintro j d ε' S' hd ⟨x, rfl, rfl⟩
    obtain ⟨rfl, hj⟩ := nums_get hd
    exact ⟨_, _, _, rfl, pairs_step m j hm (by omega) S, _, rfl, rfl⟩)
  subst e1 e2
  rw [nums_len, show ((m : Int).toNat) = m by omega] at h1
  rw [sSeq_nx h1, sRet_eq (vr (dv := .box S.length) rfl)]
  exact fin_box (T := [(allPairs m).map dT]) rfl (Nat.le_refl _) (get_end _ _)
end DL

set_option linter.all false
set_option maxRecDepth 100000
namespace DL
open PySem PySem.Spec L2
theorem len_e {S : Bxs} {x : DV} {ds : List D} (h : sq S x = some ds) : g1 gLen S [x] = some (.dat (.int ds.length)) := by
  unfold g1 gLen
  simp only [h]
/-! ### an order -/
end DL

set_option linter.all false
set_option maxRecDepth 100000
namespace DL
open PySem PySem.Spec L2
/-! ### a web is drawn -/
section
variable {S : Bxs} {i : Nat} {lo hi' kd fl : Int} {o : List Int} {m : Nat}
end
end DL

set_option linter.all false
set_option maxRecDepth 100000
namespace DL
open PySem PySem.Spec L2
def webD (n : Int) (ties : List (List Int)) : D := .tuple [.int n, .tuple (ties.map dT)]
end DL

set_option linter.all false
set_option maxRecDepth 100000
namespace DL
open PySem PySem.Spec L2
/-! ### comprehensions over what is known -/
theorem fComp_map {α : Type} {vs : List Nat} {fi : FI} {hg : FG} {ft : FT} {fe : FE} {ε : DEnv} {S S0 : Bxs} (f : α → D) (g : D → Option α) (fg : ∀ a, g (f a) = some a) {l : List α} (b : α → Bool) (r : α → D) (hi : fi ε S0 = some (l.map f, S)) (hl : l.length ≤ 100000)
    (h : ∀ a ∈ l, ∃ ε1, hg (f a) (wipeE ε vs) = some ε1 ∧ (∀ acc, ft ε1 (S ++ [acc]) = some (b a, S ++ [acc])) ∧ (b a = true → ∀ acc, ∃ y, fe ε1 (S ++ [acc]) = some (y, S ++ [acc]) ∧ toD y = some (r a))) :
    fComp vs fi hg ft fe ε S0 = some (.lst ((l.filter b).map r), S) := by
  unfold fComp
  rw [hi]
  simp only
  have key := compD_pure (hg := hg) (ft := ft) (fe := fe) (ε0 := wipeE ε vs) (S := S) (fun d => match g d with | some a => b a | none => false) (fun d => match g d with | some a => r a | none => .none) (l.map f) [] (by simpa using hl) (by
    intro d hd
    obtain ⟨a, ha, rfl⟩ := List.mem_map.mp hd
    simp only [fg]
    exact h a ha)
  rw [key]
  simp only [List.nil_append, get_end]
  have e1 : ((l.map f).filter fun d => match g d with | some a => b a | none => false).map (fun d => match g d with | some a => r a | none => .none) = (l.filter b).map r := by
    rw [List.filter_map, List.map_map]
    have e2 : ((fun d => match g d with | some a => b a | none => false) ∘ f) = b := by
      funext a; simp [fg]
    rw [e2]
    refine List.map_congr_left fun a _ => ?_
    simp [fg]
  rw [e1]
  simp
/-! ### what is near, by the order of ties -/
end DL

set_option linter.all false
set_option maxRecDepth 100000
namespace DL
open PySem PySem.Spec L2
/-! ### a web turned -/
/-! ### the law's own turn -/
instance (l : List (List Int)) : Decidable (Up l) := by unfold Up; infer_instance
/-! ### the same compared -/
end DL

set_option linter.all false
set_option maxRecDepth 100000
namespace DL
open PySem PySem.Spec L2
/-! ### tests in short -/
theorem tru_b {fa : FE} {ε : DEnv} {S S1 : Bxs} {b : Bool} (h : fa ε S = some (.dat (.bool b), S1)) : fTru fa ε S = some (b, S1) := by simp [fTru, h, tru]
theorem not_e {ft : FT} {ε : DEnv} {S S1 : Bxs} {b : Bool} (h : ft ε S = some (b, S1)) : fNotT ft ε S = some (!b, S1) := by simp [fNotT, h]
theorem or_f {ft fu : FT} {ε : DEnv} {S S1 S2 : Bxs} {b : Bool} (h : ft ε S = some (false, S1)) (h' : fu ε S1 = some (b, S2)) : fOrT ft fu ε S = some (b, S2) := by simp [fOrT, h, h']
/-! ### rows -/
/-! ### looking at things -/
/-! ### slices, +, * -/
section
variable {fa f : FE} {fl fu : FO} {ε : DEnv} {S : Bxs} {ds es : List D} {lo hi : Option Int} {i k : Int}
theorem catT_e (h : ds.length + es.length ≤ 100000) : gCatT S (.dat (.tuple ds)) (.dat (.tuple es)) = some (.dat (.tuple (ds ++ es))) := by
  unfold gCatT
  simp only [rd_dat]
  rw [if_pos (small_of h)]
end
/-- how many cells are asked -/
theorem cells_e {k : Int} (ns : List Int) {ε : DEnv} {S : Bxs} (h1 : 1 ≤ k) (h2 : k ≤ 1000) (he : ε[0]? = some (some (.dat (.list (ns.map .int))))) :
    ∃ c : Int, 0 ≤ c ∧ c ≤ k ∧ iRange1 (fCons (fOpN (g2 gMax) (fCons (fC (.int 1)) (fCons (fOpN (g2 gMin) (fCons (fOpN (g1 gLen) (fCons (fVar 0) fNil)) (fCons (fC (.int k)) fNil))) fNil))) fNil) ε S = some (nums 0 c.toNat, S) := by
  refine ⟨if (if k < (ns.length : Int) then k else (ns.length : Int)) > 1 then (if k < (ns.length : Int) then k else (ns.length : Int)) else 1, by split <;> (try split) <;> omega, by split <;> (try split) <;> omega, ?_⟩
  refine r1 (cns (opN (cns (fC_e _ _ _) (cns (opN (cns (opN (cns (vr he) nl) (len_e rfl)) (cns (fC_e _ _ _) nl)) (gMin_e _ _ _)) nl)) ?_) nl) (okI_of ?_ ?_)
  · rw [List.length_map]
    exact gMax_e _ _ _
  · split <;> (try split) <;> omega
  · split <;> (try split) <;> omega
end DL

set_option linter.all false
set_option maxRecDepth 100000
namespace DL
open PySem PySem.Spec L2
/-! ### named anew -/
end DL

set_option linter.all false
set_option maxRecDepth 100000
namespace DL
open PySem PySem.Spec L2
/-! ### what ties join -/
section
variable {n : Int} {ties : List (List Int)}
/-! ### marks -/
/-! ### the pieces -/
section
variable {m : Nat} (hw : ∀ t ∈ ties, TieIn m t)
include hw
end
end
end DL

set_option linter.all false
set_option maxRecDepth 100000
namespace DL
open PySem PySem.Spec L2
/-! ### running what is new -/
section
variable {fa fo fi fe : FE} {ε : DEnv} {S S1 : Bxs} {hg : FG} {ft : FT} {vs : List Nat}
end
/-! ### one piece -/
section
variable {m : Nat} {ties : List (List Int)} {p : Int}
end
end DL

set_option linter.all false
set_option maxRecDepth 100000
namespace DL
open PySem PySem.Spec L2
/-! ### all pieces -/
section
variable {m : Nat} {ties : List (List Int)}
/-! ### the law's pieces -/
end
end DL

set_option linter.all false
set_option maxRecDepth 100000
namespace DL
open PySem PySem.Spec L2
/-! ### a tie -/
/-! ### ties -/
/-! ### a web -/
end DL

set_option linter.all false
set_option maxRecDepth 100000
namespace DL
open PySem PySem.Spec L2
/-! ### turns, by which places are tied -/
section
variable {n : Int} {ties : List (List Int)}
/-! ### pieces stay -/
end
/-! ### as many places in the pieces as there are -/
/-! ### named anew and turned -/
section
variable {m : Nat} {ties : List (List Int)} {o : List Int}
end
end DL

set_option linter.all false
set_option maxRecDepth 100000
namespace L2
open PySem PySem.Spec PyProof.Rows
section
variable {X : Cx}
/-- what is shown of a thing -/
def rRepr (K : PySem.W.Frag) : List V → Hp → VK → Prop := fun xs H Q => ∃ (v : V) (d : PyData), xs = [v] ∧ Dp K H v d ∧ d.showable = true ∧ d.hasDict = false ∧ d.depth ≤ 60 ∧ d.shown.length ≤ sizeLine ∧ Q (.str d.shown) H
theorem cr_repr {k : Nat} (hr : Room k X.A) : CallR X (.builtin "repr") (rRepr X.K) := by
  intro pins s σ H xs us Q I r h
  obtain ⟨v, d, rfl, hd, h1, h2, h3, h4, q⟩ := h
  obtain ⟨u, rfl, ru⟩ := vals1 r
  have hun := hr.un
  obtain ⟨as, hR⟩ := Dp.reads I d v u hd ru
  cases hR with
  | none => exact PySem.P.repr_of_none ⟨.str _, H, I.tok _, ⟨_, rfl⟩, q⟩
  | bool b => exact PySem.P.repr_of_bool ⟨.str _, H, I.tok _, ⟨_, rfl⟩, q⟩
  | int i t => exact PySem.P.repr_of_int (of_decide_eq_true h1) ⟨.str _, H, I.tok _, ⟨_, rfl⟩, q⟩
  | str x t => exact PySem.P.repr_of_str ⟨.str _, H, I.tok _, ⟨_, rfl⟩, q⟩ h4
  | list e1 e2 e3 e4 => exact repr_of_reads' (Reads.list e1 e2 e3 e4) h1 (PyData.noDict_hsm h2) hr.gd (by omega) (fun _ _ e => e) (fun h' u tk hk => ⟨.str _, H, I.kept hk, ⟨_, rfl⟩, q⟩) h4
  | tuple e1 e2 e3 e4 => exact repr_of_reads' (Reads.tuple e1 e2 e3 e4) h1 (PyData.noDict_hsm h2) hr.gd (by omega) (fun _ _ e => e) (fun h' u tk hk => ⟨.str _, H, I.kept hk, ⟨_, rfl⟩, q⟩) h4
  | dict => cases h2
end
end L2
namespace DL
open PySem PySem.Spec L2
variable {K : PySem.W.Frag}
/-- a statement that is never reached -/
def sNever : FS := fun _ _ => none
theorem ds_never {X : Cx} {st : Stmt} : DS X st sNever := ⟨fun pins s σ H E I ⟨ρ, ε, S, o, M, h, k⟩ => nomatch h⟩
section
variable {X : Cx} {o e : Expr} {fo : FE} {fr : FA} {p pos apos cpos : Pos}
end
end DL

set_option linter.all false
set_option maxRecDepth 100000
/-! zip of two tuples -/
namespace ZT
open PySem PySem.Spec L2 PyProof.Rows
section
variable {prog : Program} {w : World} {A : Around} {E : Value → Shared → Prop} {s : Shared}
variable {z TI TO p q a b : Addr} {i j : Nat} {xs ys : Array Value}
end
end ZT

set_option linter.all false
set_option maxRecDepth 100000
namespace DL
open PySem PySem.Spec L2
variable {K : PySem.W.Frag}
/-- J yields ds, each perhaps a new thing -/
def ItOkZ (K : PySem.W.Frag) (ρ : List Addr) (H : Hp) (J : It) (ds : List D) : Prop := ∀ (i : Nat) (ρ' : List Addr) (H' : Hp) (S' : Bxs), Ext K ρ H ρ' H' → StOk K ρ' H' S' →
  (ds.length ≤ i → J.stop i H') ∧ (i < ds.length → J.go i H' ∧ ∀ x H'', J.yld i H' x H'' → Ext K ρ' H' ρ' H'' ∧ StOk K ρ' H'' S' ∧ ∃ d, ds[i]? = some d ∧ Rp K ρ' H'' x d)
def tDIZ (K : PySem.W.Frag) (f : FI) : TI := fun σ H R => ∃ ρ ε S ds S', Sim K ρ ε S σ H ∧ f ε S = some (ds, S') ∧ ∀ J H', StOk K ρ H' S' → Ext K ρ H ρ H' → ItOkZ K ρ H' J ds → R J H'
structure DIZ (X : Cx) (tg iter : Expr) (f : FI) : Prop where
  pi : PI X tg iter (tDIZ X.K f)
theorem compZ_tD {vs is : List Nat} {fi : FI} {hg : FG} {ft : FT} {fe : FE} (sub : ∀ i ∈ is, i ∈ vs) {σ : L2.St} {H : Hp} {Q : VK} (h : tD K (fComp vs fi hg ft fe) σ H Q) : tLc (tDIZ K fi) (tG K hg is) (tDT K ft) (tD K fe) vs σ H Q := by
  obtain ⟨ρ, ε, S, dv, S', M, h, k⟩ := h
  unfold fComp at h
  split at h
  · rename_i ds S1 h1
    split at h
    · rename_i T h2
      split at h
      · rename_i acc h3
        cases h
        refine ⟨ρ, ε, S, ds, S1, M, h1, fun J H1 st1 x1 it => ?_⟩
        intro D hD
        have Mw := (M.next x1 st1).wipe vs
        have xa : Ext K ρ H1 (ρ ++ [D]) (L2.upd H1 D (.lst [])) := Ext.adopt hD
        have sta := st1.adopt (ds := []) hD .nil
        have hn : ρ.length = S1.length := st1.len
        have at_D : (ρ ++ [D])[S1.length]? = some D := by rw [← hn, List.getElem?_append_right (Nat.le_refl _)]; simp
        have mem_D : D ∈ ρ ++ [D] := by simp
        refine ⟨fun i m H' => m = ds.length - i ∧ i ≤ ds.length ∧ ∃ T', Ext K (ρ ++ [D]) (L2.upd H1 D (.lst [])) (ρ ++ [D]) H' ∧ StOk K (ρ ++ [D]) H' T' ∧ compD hg ft fe (wipeE ε vs) S1.length (ds.drop i) T' = some T,
          ⟨ds.length, by simp, Nat.zero_le _, _, Ext.refl _ _, sta, by simpa using h2⟩, ?_⟩
        rintro i m H' ⟨rfl, hi, T', x', st', hc⟩
        have hLD : IsL H' D := x'.isL ⟨[], upd_same⟩
        have x0 := xa.trans x'
        obtain ⟨stop, go⟩ := it i (ρ ++ [D]) H' T' x0 st'
        by_cases hlt : i < ds.length
        · obtain ⟨g1, g2⟩ := go hlt
          refine .inr ⟨g1, fun H'' => ∃ T'', Ext K (ρ ++ [D]) (L2.upd H1 D (.lst [])) (ρ ++ [D]) H'' ∧ StOk K (ρ ++ [D]) H'' T'' ∧ compD hg ft fe (wipeE ε vs) S1.length (ds.drop (i + 1)) T'' = some T, fun H'' ⟨T'', a, b, c⟩ => ⟨ds.length - (i + 1), by omega, rfl, hlt, T'', a, b, c⟩, fun y H'' hy => ?_⟩
          obtain ⟨xy, sty, d, hd, rp⟩ := g2 y H'' hy
          have xx := x'.trans xy
          have e0 : ds.drop i = d :: ds.drop (i + 1) := by
            rw [List.drop_eq_getElem_cons hlt]
            congr 1
            exact (List.getElem?_eq_some_iff.mp hd).2
          rw [e0] at hc
          unfold compD at hc
          split at hc
          · rename_i ε1 c1
            refine ⟨ρ ++ [D], _, T', d, ε1, Mw.next (xa.trans xx) sty, rp, c1, fun σ2 M2 w2 => ⟨by rw [w2 vs sub]; exact wipe_idem _ _, ?_⟩⟩
            split at hc
            · rename_i T1 c2
              refine ⟨ρ ++ [D], ε1, T', true, T1, M2, c2, fun H3 st3 x3 => ?_⟩
              dsimp only
              rw [if_pos rfl]
              split at hc
              · rename_i yv T2 c3
                split at hc
                · rename_i dy ac c4 c5
                  split at hc
                  · rename_i c6
                    refine ⟨ρ ++ [D], ε1, T1, yv, T2, M2.next x3 st3, c3, fun v H4 ⟨st4, r4, _⟩ x4 => ?_⟩
                    obtain ⟨xs, ds', e1, e2, e3⟩ := st4.at' S1.length D at_D ((xx.trans (x3.trans x4)).isL ⟨[], upd_same⟩)
                    rw [c5] at e1; cases e1
                    refine ⟨xs, e2, by rw [e3.length]; exact small_lt c6, T2.set S1.length (ac ++ [dy]), (xx.trans (x3.trans x4)).trans (Ext.putL mem_D ⟨_, e2⟩), st4.put at_D ⟨_, e2⟩ (e3.append (.cons (toD_ok r4 c4) .nil)), hc⟩
                  · cases hc
                · cases hc
              · cases hc
            · rename_i T1 c2
              refine ⟨ρ ++ [D], ε1, T', false, T1, M2, c2, fun H3 st3 x3 => ?_⟩
              dsimp only
              rw [if_neg Bool.false_ne_true]
              exact ⟨T1, xx.trans x3, st3, hc⟩
            · cases hc
          · cases hc
        · have : i = ds.length := by omega
          subst this
          refine .inl ⟨stop (Nat.le_refl _), ?_⟩
          rw [List.drop_length] at hc
          cases hc
          obtain ⟨xs, ds', e1, e2, e3⟩ := st'.at' S1.length D at_D hLD
          rw [h3] at e1; cases e1
          exact k (.ref D) H' (comp_end hn hD x1 st1 st' h3 e2 e3) (x1.trans x0.drop)
      · cases h
    · cases h
  · cases h
/-- two texts -/
def bEqS : Bxs → DV → DV → Option Bool := fun S x y => match rd S x, rd S y with
  | some (.str a), some (.str b) => some (decide (a = b))
  | _, _ => none
theorem opb_eqS : OpB K rEq bEqS := by
  intro ρ S H0 H v u x y b Q st r1 r2 h k
  unfold bEqS at h
  split at h
  · rename_i a c e1 e2
    cases h
    have z1 := rd_str r1 e1
    have z2 := rd_str r2 e2
    subst z1 z2
    refine ⟨rfl, ?_⟩
    have e : decide (V.str a = V.str c) = decide (a = c) := by
      by_cases q : a = c
      · subst q; simp
      · rw [decide_eq_false q, decide_eq_false fun z => q (by injection z)]
    rw [e]
    exact k
  · cases h
theorem e_eqS {X : Cx} {a b : Expr} {fa fb : FE} {pos : Pos} (ha : DE X a fa) (hb : DE X b fb) (hm : behindInMarks .Eq b = false := by rfl) : DE X (.Compare a [.Eq] [b] pos) (fOp2 (gB bEqS) fa fb) := de_cmpB op_eq opb_eqS ha hb hm
section
variable {X : Cx} {elt iter e e2 : Expr} {ifs : List Expr} {scope : Scope} {own : List (Str × Nat)} {is : List Nat} {p pos tp : Pos} {fi : FI} {hg : FG} {ft : FT} {fe : FE} {fr : FA} {es : List Expr} {kk : Nat}
theorem de_lcZ (hc : X.calm = true) (hN : X.N.Nodup) (hi : DIZ X (.Tuple es kk tp) iter fi) (ok : BlkOk X.N X.env.scope scope own) (dg : Blk X scope fun Y => DG Y (.Tuple es kk tp) hg is) (dt : Blk X scope fun Y => DTs Y ifs ft) (de : Blk X scope fun Y => DE Y elt fe)
    (sub : ∀ i ∈ is, i ∈ own.map (·.2) := by decide) (hs : ∀ x, foldedSetIterable iter X.env x = pure x := by intro _; rfl) : DE X (.ListComp elt [⟨.Tuple es kk tp, iter, ifs, 0⟩] scope pos) (fComp (own.map (·.2)) fi hg ft fe) :=
  ⟨PE.imp (pe_lc hc hN hi.pi ok (fun s H C cl fp => (dg s H C cl fp).pg) (fun s H C cl fp => (dt s H C cl fp).pts) (fun s H C cl fp => (de s H C cl fp).pe) hs) fun σ H Q h => compZ_tD sub h⟩
end
end DL

set_option linter.all false
set_option maxRecDepth 100000
/-! what is shown of webs -/
namespace DL
open PySem PySem.Spec L2
theorem int_short {i : Int} (h0 : 0 ≤ i) (h1 : i ≤ 8) : (PyData.int i).leavesShort 8 = true ∧ (PyData.int i).showable = true ∧ (PyData.int i).weight ≤ 4 := by
  have h : i = 0 ∨ i = 1 ∨ i = 2 ∨ i = 3 ∨ i = 4 ∨ i = 5 ∨ i = 6 ∨ i = 7 ∨ i = 8 := by omega
  rcases h with h | h | h | h | h | h | h | h | h <;> subst h <;> exact ⟨by decide +kernel, by decide +kernel, by decide +kernel⟩
/-- two texts -/
theorem bEq_str (S : Bxs) (x : Str) : bEqS S (.dat (.str x)) (.dat (.str x)) = some true := by
  unfold bEqS
  simp only [rd_dat, decide_true]
theorem fin_ret {f : FE} {ε : DEnv} {S0 S S' : Bxs} {d : D} (h : f ε S = some (.dat d, S')) (hl : S'.length = S0.length) : finOf S0 (sRet f ε S) = some (.dat d, S') := by rw [sRet_eq h]; exact fin_dat hl
end DL

set_option linter.all false
set_option maxRecDepth 100000
/-! papers: the defs of the program and of the laws, as functions of data -/
namespace DL
open PySem PySem.Spec L2
end DL

set_option linter.all false
set_option maxRecDepth 100000
/-! papers, as lists of fours -/
namespace DL
open PySem PySem.Spec L2
end DL

set_option linter.all false
set_option maxRecDepth 100000
/-! the laws' own papers -/
namespace DL
open PySem PySem.Spec L2
end DL

set_option linter.all false
set_option maxRecDepth 100000
/-! whether a thing is a paper -/
namespace DL
open PySem PySem.Spec L2
end DL

set_option linter.all false
set_option maxRecDepth 100000
/-! the laws' own look at papers -/
namespace DL
open PySem PySem.Spec L2
section
variable {m : Nat} {t1 t2 P : List (List Int)}
end
end DL

set_option linter.all false
set_option maxRecDepth 100000
namespace L2
open PySem PySem.Spec PyProof.Rows ST SE
section
variable {X : Cx}
end
end L2
namespace DL
open PySem PySem.Spec L2
section
variable {X : Cx} {e : Expr} {fr : FA} {p pos : Pos}
end
end DL

set_option linter.all false
set_option maxRecDepth 100000
/-! ### kept lists lent to a def that changes none; a list just made kept for a call; xs.remove; a store of a walk over a kept list -/
namespace L2
open PySem PySem.Spec PyProof.Rows
section
variable {X : Cx}
end
end L2
namespace DL
open PySem PySem.Spec L2
variable {K : PySem.W.Frag}
section
variable {X : Cx} {o e : Expr} {es : List Expr} {fo fa : FE} {fr : FA} {apos cpos : Pos}
/-! lending -/
variable {x : Str} {p pos : Pos}
end
section
variable {X : Cx} {y : Str} {py : Pos} {i : Nat} {spos : Pos} {elt tg iter : Expr} {ifs : List Expr} {scope : Scope} {own : List (Str × Nat)} {is : List Nat} {pos : Pos} {fa : FE} {hg : FG} {ft : FT} {fe : FE}
end
end DL

set_option linter.all false
set_option maxRecDepth 100000
/-! places peeled off, places left out: the laws, as functions of data -/
namespace DL
open PySem PySem.Spec L2
end DL

set_option linter.all false
set_option maxRecDepth 100000
/-! places peeled off -/
namespace DL
open PySem PySem.Spec L2
/-- a list of whole numbers -/
def dL (ns : List Int) : D := .list (ns.map .int)
theorem can_dL (ns : List Int) : (dL ns).canLay0 = true := by unfold dL; rw [PyData.canLay0]; exact canAll_map (fun a => by simp [PyData.canLay0]) ns
theorem shaped_dL (ns : List Int) : SeqAt.shaped (dL ns) = true := by
  have h2 : PyData.depthAll (ns.map PyData.int) ≤ 0 := depthAll_map (fun a => by simp [PyData.depth]) ns
  unfold SeqAt.shaped
  rw [Bool.and_eq_true]
  refine ⟨can_dL ns, decide_eq_true ?_⟩
  unfold dL
  simp only [PyData.depth]
  omega
theorem eqv_dL (a b : List Int) : PyData.eqv (dL a) (dL b) = decide (a = b) := by
  have := eqv_dT a b
  unfold dT at this
  unfold dL
  rw [← this]
  simp [PyData.eqv]
section
variable {m : Nat} {ties : List (List Int)}
end
end DL

set_option linter.all false
set_option maxRecDepth 100000
/-! close places; the greatest place first -/
namespace DL
open PySem PySem.Spec L2
section
variable {m : Nat} {ties : List (List Int)}
/-! ### the greatest place that can goes -/
end
end DL

set_option linter.all false
set_option maxRecDepth 100000
/-! places peeled off: the program -/
namespace DL
open PySem PySem.Spec L2
section
variable {m : Nat} {ties : List (List Int)}
end
end DL

set_option linter.all false
set_option maxRecDepth 100000
/-! small things, and that they are shown alike -/
namespace DL
open PySem PySem.Spec L2
structure Sh (d : D) (w k : Nat) : Prop where
  ls : d.leavesShort 8 = true
  sh : d.showable = true
  cl : d.canLay0 = true
  wt : d.weight ≤ w
  dp : d.depth ≤ k
structure ShA (ds : List D) (w k : Nat) : Prop where
  ls : PyData.leavesShortAll 8 ds = true
  sh : PyData.showableAll ds = true
  cl : PyData.canLayAll0 ds = true
  wt : PyData.weightAll ds ≤ w
  dp : PyData.depthAll ds ≤ k
theorem ShA.cons {d : D} {ds : List D} {w w' k : Nat} (h : Sh d w k) (h' : ShA ds w' k) : ShA (d :: ds) (w + 1 + w') k :=
  ⟨by simp only [PyData.leavesShortAll, h.ls, h'.ls, Bool.and_self], by simp only [PyData.showableAll, h.sh, h'.sh, Bool.and_self], by simp only [PyData.canLayAll0, h.cl, h'.cl, Bool.and_self], by
    have h1 := h.wt; have h2 := h'.wt
    simp only [PyData.weightAll]; omega, by
    have h1 := h.dp; have h2 := h'.dp
    simp only [PyData.depthAll]; omega⟩
theorem ShA.map {α : Type} {f : α → D} {w k : Nat} : ∀ {l : List α}, (∀ a ∈ l, Sh (f a) w k) → ShA (l.map f) (l.length * (w + 1)) k
  | [], _ => ⟨rfl, rfl, rfl, by simp [PyData.weightAll], by simp [PyData.depthAll]⟩
  | a :: l, h => by
    have h1 := h a List.mem_cons_self
    have h2 := ShA.map (l := l) fun b hb => h b (List.mem_cons_of_mem _ hb)
    have h3 := ShA.cons h1 h2
    rw [List.map_cons, List.length_cons, Nat.succ_mul, Nat.add_comm]
    exact h3
theorem Sh.tup {ds : List D} {w k : Nat} (h : ShA ds w k) : Sh (.tuple ds) w (k + 1) :=
  ⟨by simp only [PyData.leavesShort, h.ls], by simp only [PyData.showable, h.sh], by simp only [PyData.canLay0, h.cl], by have := h.wt; simp only [PyData.weight]; omega, by have := h.dp; simp only [PyData.depth]; omega⟩
theorem Sh.lst {ds : List D} {w k : Nat} (h : ShA ds w k) : Sh (.list ds) w (k + 1) :=
  ⟨by simp only [PyData.leavesShort, h.ls], by simp only [PyData.showable, h.sh], by simp only [PyData.canLay0, h.cl], by have := h.wt; simp only [PyData.weight]; omega, by have := h.dp; simp only [PyData.depth]; omega⟩
theorem Sh.int {i : Int} (h0 : 0 ≤ i) (h1 : i ≤ 8) : Sh (.int i) 4 0 := by
  obtain ⟨q1, q2, q3⟩ := int_short h0 h1
  exact ⟨q1, q2, by simp [PyData.canLay0], q3, by simp [PyData.depth]⟩
theorem Sh.more {d : D} {w w' k k' : Nat} (h : Sh d w k) (hw : w ≤ w') (hk : k ≤ k') : Sh d w' k' := ⟨h.ls, h.sh, h.cl, Nat.le_trans h.wt hw, Nat.le_trans h.dp hk⟩
theorem Sh.ints {l : List Int} (h : ∀ i ∈ l, 0 ≤ i ∧ i ≤ 8) : Sh (dT l) (l.length * 5) 1 := Sh.tup (ShA.map fun i hi => Sh.int (h i hi).1 (h i hi).2)
theorem Sh.tie {n : Int} {t : List Int} (h : TieIn n t) (hn : n ≤ 9) : Sh (dT t) 10 1 := by
  obtain ⟨a, b, rfl, q1, q2, q3⟩ := h
  exact Sh.ints (l := [a, b]) (by intro i hi; simp at hi; omega)
end DL

set_option linter.all false
set_option maxRecDepth 100000
/-! a web is peeled: the program -/
namespace DL
open PySem PySem.Spec L2
theorem sSet_to {i : Nat} {f : FE} {ε ε' : DEnv} {S S1 : Bxs} {dv : DV} (h : f ε S = some (dv, S1)) (e : ε.set i (some (norm dv)) = ε' := by rfl) : sSet i f ε S = some (.nx ε' S1) := by rw [sSet_eq h, e]
theorem sSetB_to {i : Nat} {f : FE} {ε ε' : DEnv} {S S1 : Bxs} {ds : List D} (h : f ε S = some (.lst ds, S1)) (e : ε.set i (some (.box S1.length)) = ε' := by rfl) : sSetB i f ε S = some (.nx ε' (S1 ++ [ds])) := by rw [sSetB_eq h, e]
section
variable {m : Nat} {ties : List (List Int)}
end
end DL

set_option linter.all false
set_option maxRecDepth 100000
/-! places left out: the program and the laws -/
namespace DL
open PySem PySem.Spec L2
section
variable {n p : Int} {ties : List (List Int)}
end
end DL

set_option linter.all false
set_option maxRecDepth 100000
/-! ### tuples of whole numbers and of such tuples, as keys -/
namespace DWK
open PySem PySem.Spec PyProof.Rows L2 DL
abbrev D := PyData
@[inline] def here : Unit := ()
mutual
def isK : D → Bool
  | .int _ => true
  | .tuple ds => isKs ds
  | _ => false
def isKs : List D → Bool
  | [] => true
  | d :: ds => isK d && isKs ds
end
section
variable {prog : Program} {w : World} {E : Value → Shared → Prop}
theorem isKs_map {α : Type} {f : α → D} (hf : ∀ a, isK (f a) = true) : ∀ l : List α, isKs (l.map f) = true
  | [] => by simp [isKs]
  | a :: l => by simp [isKs, hf a, isKs_map hf l]
theorem isK_int (i : Int) : isK (.int i) = true := by simp [isK]
theorem isK_ints (t : List Int) : isK (.tuple (t.map .int)) = true := by rw [isK]; exact isKs_map isK_int t
theorem isK_w (k : WK) : isK (wD k) = true := by
  unfold wD
  rw [isK, isKs, isKs, isKs, isK_int, isK]
  rw [isKs_map isK_ints]; rfl
theorem depth_ints (t : List Int) : (PyData.tuple (t.map .int)).depth ≤ 1 := by
  have : ∀ t : List Int, PyData.depthAll (t.map .int) = 0 := fun t => by
    induction t with
    | nil => simp [PyData.depthAll]
    | cons a t ih => simp [PyData.depthAll, PyData.depth, ih]
  simp [PyData.depth, this]
theorem depth_w (k : WK) : (wD k).depth ≤ 3 := by
  have : ∀ l : List (List Int), PyData.depthAll (l.map fun t => PyData.tuple (t.map .int)) ≤ 1 := fun l => by
    induction l with
    | nil => simp [PyData.depthAll]
    | cons a l ih =>
      rw [List.map_cons, PyData.depthAll]
      exact Nat.max_le.mpr ⟨depth_ints a, ih⟩
  have h := this k.2
  unfold wD
  simp only [PyData.depth, PyData.depthAll]
  omega
theorem ints_inj : ∀ {a b : List Int}, a.map PyData.int = b.map PyData.int → a = b
  | [], [], _ => rfl
  | [], _ :: _, h => by simp at h
  | _ :: _, [], h => by simp at h
  | x :: a, y :: b, h => by
    rw [List.map_cons, List.map_cons] at h
    injection h with h1 h2
    injection h1 with h1
    rw [h1, ints_inj h2]
theorem rows_inj : ∀ {a b : List (List Int)}, a.map (fun t => PyData.tuple (t.map .int)) = b.map (fun t => PyData.tuple (t.map .int)) → a = b
  | [], [], _ => rfl
  | [], _ :: _, h => by simp at h
  | _ :: _, [], h => by simp at h
  | x :: a, y :: b, h => by
    rw [List.map_cons, List.map_cons] at h
    injection h with h1 h2
    injection h1 with h1
    rw [ints_inj h1, rows_inj h2]
theorem wD_inj {a b : WK} (h : wD a = wD b) : a = b := by
  obtain ⟨a1, a2⟩ := a
  obtain ⟨b1, b2⟩ := b
  unfold wD at h
  injection h with h
  injection h with h1 h2
  injection h1 with h1
  injection h2 with h2
  injection h2 with h2
  simp only at h1 h2
  rw [h1, rows_inj h2]
theorem eqvAll_ints (a b : List Int) : PyData.eqvAll (a.map .int) (b.map .int) = decide (a = b) := PySem.W.ked_eqvAll a b
theorem eqv_rows : ∀ a b : List (List Int), PyData.eqvAll (a.map fun t => PyData.tuple (t.map .int)) (b.map fun t => PyData.tuple (t.map .int)) = decide (a = b)
  | [], [] => by simp [PyData.eqvAll]
  | [], _ :: _ => by simp [PyData.eqvAll]
  | _ :: _, [] => by simp [PyData.eqvAll]
  | x :: a, y :: b => by
    rw [List.map_cons, List.map_cons, PyData.eqvAll, eqv_rows a b, PyData.eqv, eqvAll_ints]
    rw [Bool.eq_iff_iff]
    simp
theorem eqv_w (a b : WK) : PyData.eqv (wD a) (wD b) = decide (a = b) := by
  obtain ⟨a1, a2⟩ := a
  obtain ⟨b1, b2⟩ := b
  unfold wD
  rw [PyData.eqv, PyData.eqvAll, PyData.eqvAll, PyData.eqvAll, PyData.eqv, PyData.eqv, eqv_rows]
  rw [Bool.eq_iff_iff]
  simp
mutual
theorem reads_uniq {h : Heap} : ∀ (d : D) (v : Value) (as : List Addr) (d' : D) (bs : List Addr), isK d = true → isK d' = true → Reads h v d as → Reads h v d' bs → d = d'
  | .int i, v, as, d', bs, _, _, x, y => by cases x; cases y; rfl
  | .tuple ds, v, as, d', bs, hk, hk', x, y => by
    cases x with
    | @tuple a oa vs n _ as hg hc hda hr =>
      cases y with
      | @tuple _ ob vs' n' xs' as' hg' hc' hda' hr' =>
        rw [hg] at hg'; cases hg'
        rw [hda] at hda'; cases hda'
        rw [readsAll_uniq ds _ _ _ _ (by simpa [isK] using hk) (by simpa [isK] using hk') hr hr']
      | list _ _ _ _ => simp [isK] at hk'
      | dict _ _ _ _ _ => simp [isK] at hk'
  | .none, _, _, _, _, hk, _, _, _ | .bool _, _, _, _, _, hk, _, _, _ | .str _, _, _, _, _, hk, _, _, _ | .list _, _, _, _, _, hk, _, _, _ | .dict _, _, _, _, _, hk, _, _, _ => by simp [isK] at hk
theorem readsAll_uniq {h : Heap} : ∀ (ds : List D) (vs : List Value) (as : List Addr) (ds' : List D) (bs : List Addr), isKs ds = true → isKs ds' = true → ReadsAll h vs ds as → ReadsAll h vs ds' bs → ds = ds'
  | [], _, _, ds', bs, _, _, x, y => by cases x; cases y; rfl
  | d :: ds, _, _, ds', bs, hk, hk', x, y => by
    have q : isK d = true ∧ isKs ds = true := by simpa [isKs] using hk
    cases x with
    | cons x1 x2 =>
      cases y with
      | @cons _ _ e es _ _ y1 y2 =>
        have q' : isK e = true ∧ isKs es = true := by simpa [isKs] using hk'
        rw [reads_uniq d _ _ _ _ q.1 q'.1 x1 y1, readsAll_uniq ds _ _ _ _ q.2 q'.2 x2 y2]
end
end
mutual
theorem canK : ∀ d : D, isK d = true → d.canLay0 = true
  | .int i, _ => by simp [PyData.canLay0]
  | .tuple ds, h => by rw [PyData.canLay0]; exact canKs ds (by simpa [isK] using h)
  | .none, h | .bool _, h | .str _, h | .list _, h | .dict _, h => by simp [isK] at h
theorem canKs : ∀ ds : List D, isKs ds = true → PyData.canLayAll0 ds = true
  | [], _ => by simp [PyData.canLayAll0]
  | d :: ds, h => by
    have h' : isK d = true ∧ isKs ds = true := by simpa [isKs] using h
    simp [PyData.canLayAll0, canK d h'.1, canKs ds h'.2]
end
end DWK

set_option linter.all false
set_option maxRecDepth 100000
/-! ### dicts, on data -/
namespace DL
open PySem PySem.Spec L2 DWK
variable {K : PySem.W.Frag}
/-- a key: a web, or a whole number -/
def wkOf : D → Option WK
  | .tuple [.int n, .tuple ts] => (tupsD ts).map fun l => (n, l)
  | _ => none
theorem wkOf_eq {d : D} {k : WK} (h : wkOf d = some k) : d = wD k := by
  unfold wkOf at h
  split at h
  · rename_i n ts
    obtain ⟨l, hl, rfl⟩ := Option.map_eq_some_iff.mp h
    rw [tupsD_eq hl]
    rfl
  · cases h
/-! ### the heap's side -/
section
variable {X : Cx} {pins : List (Addr × Obj)} {σ : St} {ρ : List Addr} {H : Hp} {s : Shared} {a : Addr} {ds : List D}
variable {b : Bool} {y : V} {u : Value} {kd : D} {A : Around} {E : Value → Shared → Prop}
end
end DL

set_option linter.all false
set_option maxRecDepth 100000
/-! ### dicts: the rules -/
namespace DL
open PySem PySem.Spec L2 DWK
variable {K : PySem.W.Frag}
/-! k in d, k not in d -/
section
variable {X : Cx} {a b o i e : Expr} {fa fb fo fi fe : FE} {fr : FA} {pos : Pos}
/-! d[k] -/
/-! d[k] = v -/
/-! a dict just made is kept by a name -/
/-! {} -/
end
end DL

set_option linter.all false
set_option maxRecDepth 100000
namespace DL
open PySem PySem.Spec L2 DWK
variable {K : PySem.W.Frag}
end DL

set_option linter.all false
set_option maxRecDepth 100000
namespace L2
open PySem PySem.Spec PyProof.Rows
section
variable {X : Cx}
end
end L2

set_option linter.all false
set_option maxRecDepth 100000
namespace DL
open PySem PySem.Spec L2 DWK
variable {K : PySem.W.Frag}
/-! ### << and ^ of whole numbers -/
def gShl : Bxs → DV → DV → Option DV := gI (fun i j => decide (0 ≤ j) && decide (j ≤ 1000000) && decide (i.natAbs < 2 ^ 64)) fun i j => .int (i * 2 ^ j.toNat)
section
variable {X : Cx} {a b : Expr} {fa fb : FE} {pos : Pos}
theorem e_shl (ha : DE X a fa) (hb : DE X b fb) : DE X (.BinOp a .LShift b pos) (fOp2 gShl fa fb) := de_bin op_shl (op2_int (fun i j h => by
  simp only [Bool.and_eq_true, decide_eq_true_eq] at h
  exact ⟨h.1.1, h.1.2, h.2⟩) fun _ _ _ _ => .int _) ha hb
end
/-! ### list(d), len(d) -/
section
variable {X : Cx} {e a : Expr} {fr : FA} {pos p : Pos}
end
end DL

set_option linter.all false
set_option maxRecDepth 100000
namespace DL
open PySem PySem.Spec L2 DWK
variable {K : PySem.W.Frag}
section
variable {X : Cx} {e k v o : Expr} {fr : FA} {fo fe : FE} {pos p apos cpos : Pos}
/-! ### {web: ()} -/
/-! d.get(k) -/
end
end DL

set_option linter.all false
set_option maxRecDepth 100000
/-! ways: the defs of the program and of the laws, as functions of data -/
namespace DL
open PySem PySem.Spec L2
end DL

set_option linter.all false
set_option maxRecDepth 100000
/-! ### walking along turns: what is found, with the rows -/
namespace DL
open PySem PySem.Spec L2
abbrev TL := List (List Int)
/-! one place, all places -/
section
variable {m : Nat} {t0 k : TL} {s : EWs × List TL} {p : Int}
end
end DL

set_option linter.all false
set_option maxRecDepth 100000
namespace DL
open PySem PySem.Spec L2
section
variable {m : Nat} {S : Bxs} {b l : Nat} {s s' : EWs × List TL}
end
section
variable {m : Nat} {S : Bxs} {b l : Nat} {s s' : EWs × List TL} {t0 k : TL} {p : Int} {semT : Sem0} {fk : FE} {pl f lt : Nat}
end
end DL

set_option linter.all false
set_option maxRecDepth 100000
namespace DL
open PySem PySem.Spec L2
/-! ### the program -/
section
variable {m : Nat} {U : Bxs} {b l k2 : Nat} {t0 : TL}
end
end DL

set_option linter.all false
set_option maxRecDepth 100000
namespace DL
open PySem PySem.Spec L2
/-! ### the law's way -/
section
variable {m : Nat} {U : Bxs} {b l : Nat} {t0 : TL}
end
end DL

set_option linter.all false
set_option maxRecDepth 100000
namespace DL
open PySem PySem.Spec L2
section
variable {m : Nat} {t u : TL} {n : Int}
end
end DL

set_option linter.all false
set_option maxRecDepth 100000
/-! papers go together -/
namespace DL
open PySem PySem.Spec L2
/-! ### bits -/
/-! ### papers, place by place -/
/-! ### sums by evens and odds -/
/-! ### fits -/
/-! ### the bits of papers -/
/-! ### what fits -/
end DL

set_option linter.all false
set_option maxRecDepth 100000
/-! ### papers lead to rows -/
namespace DL
open PySem PySem.Spec L2
section
variable {m : Nat} {t1 t2 : TL} {P : List (List Int)}
end
/-! ### what is found is all -/
section
variable {m : Nat} {t0 : TL}
end
end DL

set_option linter.all false
set_option maxRecDepth 100000
/-! ### webs that can be peeled down: by a tree whose cuts have rank 1 at most -/
namespace DL
open PySem PySem.Spec L2
namespace BT
end BT
section
variable {t : TL} {L : List Int}
end
end DL

set_option linter.all false
set_option maxRecDepth 100000
namespace DL
open PySem PySem.Spec L2
section
variable {t : TL}
end
/-! ### turns -/
section
variable {m : Nat} {t : TL}
/-! ### other names -/
end
end DL

set_option linter.all false
set_option maxRecDepth 100000
/-! ranks, trees: the defs of the program, as functions of data -/
namespace DL
open PySem PySem.Spec L2
end DL

set_option linter.all false
set_option maxRecDepth 100000
namespace DL
open PySem PySem.Spec L2
namespace RK
/-! ### bits -/
/-! the law's sums -/
theorem shl_e (S : Bxs) {j : Int} (h0 : 0 ≤ j) (h1 : j ≤ 1000) : gShl S (.dat (.int 1)) (.dat (.int j)) = some (.dat (.int (1 * 2 ^ j.toNat))) := by
  unfold gShl gI
  simp only [rd_dat]
  rw [if_pos]
  rw [decide_eq_true h0, decide_eq_true (show j ≤ 1000000 by omega)]
  decide
section
variable {m : Nat} {ties : List (List Int)} {sd : List Int}
/-! ### the program's rank -/
end
end RK
end DL

set_option linter.all false
set_option maxRecDepth 100000
namespace DL
open PySem PySem.Spec L2
/-! ### close places -/
section
variable {m : Nat} {t : TL} {L : List Int}
end
/-! ### ranks of two places -/
section
variable {m : Nat} {t : TL}
end
end DL

set_option linter.all false
set_option maxRecDepth 100000
namespace DL
open PySem PySem.Spec L2
/-! ### trees -/
section
variable {m : Nat} {t : TL}
end
end DL

set_option linter.all false
set_option maxRecDepth 100000
namespace L2
open PySem PySem.Spec PyProof.Rows
section
variable {X : Cx}
end
end L2
namespace DL
open PySem PySem.Spec L2
section
variable {X : Cx} {e : Expr} {fr : FA} {p pos : Pos}
end
end DL

set_option linter.all false
set_option maxRecDepth 100000
namespace DL
open PySem PySem.Spec L2
namespace PK
section
variable {m : Nat} {ties : List (List Int)} {th : D}
end
end PK
end DL

set_option linter.all false
set_option maxRecDepth 100000
/-! ### the sort of any number of things: the order, the questions, runs, insertion -/
namespace TS
open PySem PyProof.Rows
structure Ord (lt : Keyed → Keyed → Bool) : Prop where
  irr : ∀ a, lt a a = false
  tr : ∀ a b c, lt a b = true → lt b c = true → lt a c = true
  nt : ∀ a b c, lt a c = true → lt a b = true ∨ lt b c = true
def le (lt : Keyed → Keyed → Bool) (a b : Keyed) : Prop := lt b a = false
section
variable {lt : Keyed → Keyed → Bool} (O : Ord lt)
include O
theorem le_refl (a : Keyed) : le lt a a := O.irr a
theorem le_trans {a b c : Keyed} (h1 : le lt a b) (h2 : le lt b c) : le lt a c := by
  unfold le at *
  cases q : lt c a with
  | false => rfl
  | true => rcases O.nt _ b _ q with z | z <;> simp_all
theorem lt_le {a b : Keyed} (h : lt a b = true) : le lt a b := by
  unfold le
  cases q : lt b a with
  | false => rfl
  | true => have := O.tr _ _ _ h q; rw [O.irr] at this; cases this
theorem lt_of_le {a b c : Keyed} (h : lt a b = true) (h2 : le lt b c) : lt a c = true := by
  rcases O.nt a c b h with z | z
  · exact z
  · unfold le at h2; rw [h2] at z; cases z
theorem lt_of_le' {a b c : Keyed} (h : le lt a b) (h2 : lt b c = true) : lt a c = true := by
  rcases O.nt b a c h2 with z | z
  · unfold le at h; rw [h] at z; cases z
  · exact z
end
def nil0 : Keyed := (Value.none, Value.none)
def at' (xs : Array Keyed) (i : Nat) : Keyed := xs[i]?.getD nil0
theorem at_congr {xs ys : Array Keyed} {i j : Nat} (h : xs[i]? = ys[j]?) : at' xs i = at' ys j := by unfold at'; rw [h]
theorem at_some {xs : Array Keyed} {i : Nat} (h : i < xs.size) : xs[i]? = some (at' xs i) := by
  unfold at'; rw [Array.getElem?_eq_getElem h]; rfl
theorem at_mem {xs : Array Keyed} {i : Nat} (h : i < xs.size) : at' xs i ∈ xs.toList := by
  have := at_some h
  rw [← Array.getElem?_toList] at this
  exact List.mem_of_getElem? this
theorem at_mirror {xs : Array Keyed} {i j : Nat} (hj : j ≤ xs.size) (k : Nat) : at' (mirror xs i j ((j - i) / 2)) k = if i ≤ k ∧ k < j then at' xs (i + j - 1 - k) else at' xs k := by
  have e := getElem?_mirror_all (xs := xs) (i := i) hj k
  split
  · rename_i q; rw [if_pos q] at e; exact at_congr e
  · rename_i q; rw [if_neg q] at e; exact at_congr e
theorem at_bubble {xs : Array Keyed} {src d : Nat} (hs : src < xs.size) (hd : d ≤ src) (k : Nat) : at' (bubble xs src d) k = if k = src - d then at' xs src else if src - d < k ∧ k ≤ src then at' xs (k - 1) else at' xs k := by
  have e := getElem?_bubble hs d hd k
  split
  · rename_i q; rw [if_pos q] at e; exact at_congr e
  · rename_i q; rw [if_neg q] at e
    split
    · rename_i q2; rw [if_pos q2] at e; exact at_congr e
    · rename_i q2; rw [if_neg q2] at e; exact at_congr e
/-- what the sort knows all the while -/
structure SB (a₀ : Array Keyed) (κ : SortKind) (p : Array (Nat × Nat × Nat)) (st : SortSt) : Prop where
  perm : (arrOf st).Perm a₀
  kind : kindOf st = κ
  failed : failedOf st = none
  pend : pendingOf st = p
theorem SB.size {a₀ : Array Keyed} {κ : SortKind} {p : Array (Nat × Nat × Nat)} {st : SortSt} (h : SB a₀ κ p st) : (arrOf st).size = a₀.size := h.perm.size_eq
theorem SB.set {a₀ : Array Keyed} {κ : SortKind} {p : Array (Nat × Nat × Nat)} {st : SortSt} (h : SB a₀ κ p st) {xs : Array Keyed} (hp : xs.Perm (arrOf st)) : SB a₀ κ p (setArr st xs) :=
  ⟨hp.trans h.perm, h.kind, h.failed, h.pend⟩
theorem SB.mem {a₀ : Array Keyed} {κ : SortKind} {p : Array (Nat × Nat × Nat)} {st : SortSt} (h : SB a₀ κ p st) {i : Nat} (hi : i < a₀.size) : at' (arrOf st) i ∈ a₀.toList :=
  (Array.perm_iff_toList_perm.mp h.perm).mem_iff.mp (at_mem (by rw [h.size]; exact hi))
def SG (lt : Keyed → Keyed → Bool) (xs : Array Keyed) (lo hi : Nat) : Prop := ∀ i j, lo ≤ i → i ≤ j → j < hi → le lt (at' xs i) (at' xs j)
def SD (lt : Keyed → Keyed → Bool) (xs : Array Keyed) (lo hi : Nat) : Prop := ∀ i j, lo ≤ i → i ≤ j → j < hi → le lt (at' xs j) (at' xs i)
/-- nothing ahead of lo is moved -/
def Pre (xs ys : Array Keyed) (lo : Nat) : Prop := ∀ i, i < lo → ys[i]? = xs[i]?
theorem Pre.trans {xs ys zs : Array Keyed} {lo : Nat} (h1 : Pre xs ys lo) (h2 : Pre ys zs lo) : Pre xs zs lo := fun i hi => (h2 i hi).trans (h1 i hi)
theorem pre_mirror {xs : Array Keyed} {lo i j : Nat} (hj : j ≤ xs.size) (hi : lo ≤ i) : Pre xs (mirror xs i j ((j - i) / 2)) lo := fun k hk => by
  rw [getElem?_mirror_all hj, if_neg (by omega)]
/-- the questions are answered by one order -/
def Asks (prog : Program) (w : World) (A : Around) (E : Value → Shared → Prop) (s : Shared) (κ : SortKind) (a₀ : Array Keyed) (lt : Keyed → Keyed → Bool) : Prop :=
  ∀ (x y : Keyed) (st : SortSt) (Q : Option Bool → SortSt → Prop), x ∈ a₀.toList → y ∈ a₀.toList → kindOf st = κ → Q (some (lt x y)) st → wpS (model prog w) A E s (lt' x y) Q st
abbrev LSt := Option (Option Nat) × Nat
abbrev LSt2 := Option (Option Nat) × Nat × Nat
def ascL (lo a m : Nat) : StateT SortSt Sem LSt :=
  forIn [a:m] ((none, a) : LSt) fun _ c => do
    let x ← ltAt' (lo + c.snd) (lo + c.snd - 1)
    match x with
    | some b => if b = true then pure (ForInStep.done (none, c.snd)) else pure (ForInStep.yield (none, c.snd + 1))
    | _ => pure (ForInStep.done (some none, c.snd))
def lastL (lo n m : Nat) : StateT SortSt Sem (Option Nat) := do
  reverseSlice' lo (lo + n)
  let c ← ascL lo n m
  match c.fst with
  | some r => pure r
  | none => pure (some c.snd)
def fallL (lo n m : Nat) : StateT SortSt Sem LSt2 :=
  forIn [n:m] ((none, n, 0) : LSt2) fun _ c => do
    let x ← ltAt' (lo + c.snd.fst) (lo + c.snd.fst - 1)
    match x with
    | some b =>
      if b = true then
        if c.snd.snd > 0 then do
          reverseSlice' (lo + c.snd.fst - (c.snd.snd + 1)) (lo + c.snd.fst)
          pure (ForInStep.yield (none, c.snd.fst + 1, 0))
        else pure (ForInStep.yield (none, c.snd.fst + 1, 0))
      else do
        let y ← ltAt' (lo + c.snd.fst - 1) (lo + c.snd.fst)
        match y with
        | some d =>
          if d = true then pure (ForInStep.done (none, c.snd.fst, c.snd.snd))
          else pure (ForInStep.yield (none, c.snd.fst + 1, c.snd.snd + 1))
        | _ => pure (ForInStep.done (some none, c.snd.fst, c.snd.snd))
    | _ => pure (ForInStep.done (some none, c.snd.fst, c.snd.snd))
def restL (lo n m : Nat) : StateT SortSt Sem (Option Nat) := do
  liftM (rule "list.sort.descending-run")
  let c ← fallL lo (n + 1) m
  match c.fst with
  | some r => pure r
  | none =>
    if c.snd.snd > 0 then do
      reverseSlice' (lo + c.snd.fst - (c.snd.snd + 1)) (lo + c.snd.fst)
      lastL lo c.snd.fst m
    else lastL lo c.snd.fst m
theorem count_eq (lo m : Nat) : countRun' lo m = (do
    let c ← ascL lo 1 m
    match c.fst with
    | some r => pure r
    | none =>
      if (c.snd == m) = true then pure (some c.snd)
      else if c.snd > 1 then do
        let x ← ltAt' lo (lo + c.snd - 1)
        match x with
        | some b => if b = true then pure (some c.snd) else do
            reverseSlice' lo (lo + c.snd)
            restL lo c.snd m
        | _ => pure none
      else restL lo c.snd m) := by
  rw [countRun'_eq]
  unfold restL lastL fallL ascL
  refine congr (congrArg Bind.bind rfl) (funext fun c => ?_)
  obtain ⟨r, n⟩ := c
  cases r with
  | some r => rfl
  | none =>
    dsimp only
    split
    · rfl
    · split
      · congr 1
        funext x
        cases x with
        | none => rfl
        | some b =>
          dsimp only
          split
          · rfl
          · congr 1
            funext _r
            congr 1
            funext _u
            congr 1
            congr 1
            funext s2
            obtain ⟨r2, n2, q2⟩ := s2
            cases r2 with
            | some r2 => rfl
            | none =>
              dsimp only
              split
              · congr 1
                funext _v
                (congr 1; funext _w; congr 1; funext s3; obtain ⟨r3, n3⟩ := s3; cases r3 <;> rfl)
              · (congr 1; funext _w; congr 1; funext s3; obtain ⟨r3, n3⟩ := s3; cases r3 <;> rfl)
      · skip
        congr 1
        funext _u
        congr 1
        congr 1
        funext s2
        obtain ⟨r2, n2, q2⟩ := s2
        cases r2 with
        | some r2 => rfl
        | none =>
          dsimp only
          split
          · congr 1
            funext _v
            (congr 1; funext _w; congr 1; funext s3; obtain ⟨r3, n3⟩ := s3; cases r3 <;> rfl)
          · (congr 1; funext _w; congr 1; funext s3; obtain ⟨r3, n3⟩ := s3; cases r3 <;> rfl)
section
variable {prog : Program} {w : World} {A : Around} {E : Value → Shared → Prop} {s : Shared} {a₀ : Array Keyed} {κ : SortKind} {lt : Keyed → Keyed → Bool} {p : Array (Nat × Nat × Nat)}
theorem ask_at (hA : Asks prog w A E s κ a₀ lt) {st : SortSt} {i j : Nat} {Q : Option Bool → SortSt → Prop} (hB : SB a₀ κ p st) (hi : i < a₀.size) (hj : j < a₀.size) (h : Q (some (lt (at' (arrOf st) i) (at' (arrOf st) j))) st) :
    wpS (model prog w) A E s (ltAt' i j) Q st := by
  rw [ltAt'_eq]
  refine wpS_bind (wpS_get ?_)
  show wpS _ _ _ _ (do let x ← elem' (arrOf st) i; let y ← elem' (arrOf st) j; lt' x y) Q st
  rw [elem'_eq, elem'_eq, at_some (by rw [hB.size]; exact hi), at_some (by rw [hB.size]; exact hj)]
  exact wpS_bind (wpS_pure (wpS_bind (wpS_pure (hA _ _ _ _ (hB.mem hi) (hB.mem hj) hB.kind h))))
variable (O : Ord lt) (hA : Asks prog w A E s κ a₀ lt)
include O hA
theorem asc_wp {st : SortSt} {lo a m : Nat} {Q : LSt → SortSt → Prop} (hn : lo + m ≤ a₀.size) (ha : 1 ≤ a) (ham : a ≤ m) (hB : SB a₀ κ p st) (hs : SG lt (arrOf st) lo (lo + a))
    (h : ∀ n, a ≤ n → n ≤ m → SG lt (arrOf st) lo (lo + n) → (n < m → lt (at' (arrOf st) (lo + n)) (at' (arrOf st) (lo + n - 1)) = true) → Q (none, n) st) :
    wpS (model prog w) A E s (ascL lo a m) Q st := by
  unfold ascL
  refine wpS_forRange (I := fun x c st' => st' = st ∧ c = (none, x) ∧ SG lt (arrOf st) lo (lo + x)) ?step ?fin ⟨rfl, rfl, hs⟩
  case fin =>
    rintro c st' ⟨rfl, rfl, hs'⟩
    rw [show max a m = m by omega] at hs' ⊢
    exact h m ham (Nat.le_refl _) hs' fun z => absurd z (Nat.lt_irrefl _)
  case step =>
    rintro x c st' hax hxn ⟨rfl, rfl, hs'⟩
    dsimp only
    refine wpS_bind (ask_at hA hB (by omega) (by omega) ?_)
    cases hq : lt (at' (arrOf st') (lo + x)) (at' (arrOf st') (lo + x - 1)) with
    | true => exact wpS_pure (h x hax (by omega) hs' fun _ => hq)
    | false =>
      refine wpS_pure ⟨rfl, rfl, fun i j h1 hij hj => ?_⟩
      by_cases e : j = lo + x
      · by_cases e2 : i = j
        · rw [e2]; exact le_refl O _
        · have := hs' i (lo + x - 1) h1 (by omega) (by omega)
          rw [e]
          exact le_trans O this hq
      · exact hs' i j h1 hij (by omega)
theorem last_wp {st : SortSt} {lo n m : Nat} {Q : Option Nat → SortSt → Prop} (hn : lo + m ≤ a₀.size) (h1 : 1 ≤ n) (hnm : n ≤ m) (hB : SB a₀ κ p st) (hd : SD lt (arrOf st) lo (lo + n))
    (h : ∀ k st', SB a₀ κ p st' → Pre (arrOf st) (arrOf st') lo → 1 ≤ k → k ≤ m → SG lt (arrOf st') lo (lo + k) → Q (some k) st') : wpS (model prog w) A E s (lastL lo n m) Q st := by
  unfold lastL
  have hsz : lo + n ≤ (arrOf st).size := by rw [hB.size]; omega
  refine wpS_bind (wpS_reverse ?_)
  have hB' := hB.set (mirror_perm (arrOf st) lo (lo + n) ((lo + n - lo) / 2))
  refine wpS_bind (asc_wp O hA hn h1 hnm hB' (fun i j a b c => ?_) fun k k1 k2 k3 _ => wpS_pure (h k _ hB' (pre_mirror hsz (Nat.le_refl _)) (by omega) k2 k3))
  show le lt (at' (mirror (arrOf st) lo (lo + n) _) i) (at' (mirror (arrOf st) lo (lo + n) _) j)
  rw [at_mirror hsz, at_mirror hsz, if_pos (by omega), if_pos (by omega)]
  exact hd _ _ (by omega) (by omega) (by omega)
omit hA in
/-- a stretch of like ones turned about is as it was -/
theorem like_mirror {xs : Array Keyed} {a n : Nat} (hn : n ≤ xs.size) (he : ∀ k, a ≤ k → k < n → le lt (at' xs k) (at' xs (n - 1)) ∧ le lt (at' xs (n - 1)) (at' xs k)) (i : Nat) :
    le lt (at' (mirror xs a n ((n - a) / 2)) i) (at' xs i) ∧ le lt (at' xs i) (at' (mirror xs a n ((n - a) / 2)) i) := by
  rw [at_mirror hn]
  split
  · rename_i q
    have x := he (a + n - 1 - i) (by omega) (by omega)
    have y := he i q.1 q.2
    exact ⟨le_trans O x.1 y.2, le_trans O y.1 x.2⟩
  · exact ⟨le_refl O _, le_refl O _⟩
omit hA in
theorem sd_mirror {xs : Array Keyed} {lo a n : Nat} (hn : n ≤ xs.size) (hd : SD lt xs lo n) (he : ∀ k, a ≤ k → k < n → le lt (at' xs k) (at' xs (n - 1)) ∧ le lt (at' xs (n - 1)) (at' xs k)) : SD lt (mirror xs a n ((n - a) / 2)) lo n := fun i j h1 hij hj =>
  le_trans O (like_mirror O hn he j).1 (le_trans O (hd i j h1 hij hj) (like_mirror O hn he i).2)
theorem fall_wp {st0 : SortSt} {lo n m : Nat} {Q : LSt2 → SortSt → Prop} (hn : lo + m ≤ a₀.size) (h1 : 1 ≤ n) (hnm : n ≤ m) (hB : SB a₀ κ p st0) (hd : SD lt (arrOf st0) lo (lo + n))
    (h : ∀ k q st', SB a₀ κ p st' → Pre (arrOf st0) (arrOf st') lo → n ≤ k → k ≤ m → SD lt (arrOf st') lo (lo + k) → q + 1 ≤ k →
      (∀ i, lo + k - (q + 1) ≤ i → i < lo + k → le lt (at' (arrOf st') i) (at' (arrOf st') (lo + k - 1)) ∧ le lt (at' (arrOf st') (lo + k - 1)) (at' (arrOf st') i)) → Q (none, k, q) st') : wpS (model prog w) A E s (fallL lo n m) Q st0 := by
  unfold fallL
  have one : ∀ (xs : Array Keyed) (b : Nat), 1 ≤ b → ∀ i, lo + b - (0 + 1) ≤ i → i < lo + b → le lt (at' xs i) (at' xs (lo + b - 1)) ∧ le lt (at' xs (lo + b - 1)) (at' xs i) := fun xs b hb i i1 i2 => by
    have : i = lo + b - 1 := by omega
    rw [this]; exact ⟨le_refl O _, le_refl O _⟩
  refine wpS_forRange (I := fun x c st' => ∃ q, c = (none, x, q) ∧ SB a₀ κ p st' ∧ Pre (arrOf st0) (arrOf st') lo ∧ SD lt (arrOf st') lo (lo + x) ∧ q + 1 ≤ x ∧
      (∀ i, lo + x - (q + 1) ≤ i → i < lo + x → le lt (at' (arrOf st') i) (at' (arrOf st') (lo + x - 1)) ∧ le lt (at' (arrOf st') (lo + x - 1)) (at' (arrOf st') i))) ?step ?fin ⟨0, rfl, hB, fun _ _ => rfl, hd, by omega, one _ _ h1⟩
  case fin =>
    rintro c st' ⟨q, rfl, hB', hp, hs', hq, he⟩
    rw [show max n m = m by omega] at hs' hq he ⊢
    exact h m q st' hB' hp hnm (Nat.le_refl _) hs' hq he
  case step =>
    rintro x c st' hax hxn ⟨q, rfl, hB', hp, hs', hq, he⟩
    dsimp only
    have hsz : lo + x ≤ (arrOf st').size := by rw [hB'.size]; omega
    refine wpS_bind (ask_at hA hB' (by omega) (by omega) ?_)
    cases hl : lt (at' (arrOf st') (lo + x)) (at' (arrOf st') (lo + x - 1)) with
    | true =>
      have step1 : ∀ xs : Array Keyed, SD lt xs lo (lo + x) → at' xs (lo + x) = at' (arrOf st') (lo + x) → le lt (at' (arrOf st') (lo + x - 1)) (at' xs (lo + x - 1)) → SD lt xs lo (lo + (x + 1)) := by
        intro xs d1 e1 e2 i j h1 hij hj
        by_cases e : j = lo + x
        · by_cases e3 : i = j
          · rw [e3]; exact le_refl O _
          · rw [e, e1]
            exact le_trans O (lt_le O hl) (le_trans O e2 (d1 i (lo + x - 1) h1 (by omega) (by omega)))
        · exact d1 i j h1 hij (by omega)
      dsimp only
      rw [if_pos rfl]
      by_cases hq0 : q > 0
      · rw [if_pos hq0]
        refine wpS_bind (wpS_reverse (wpS_pure ⟨0, rfl, hB'.set (mirror_perm _ _ _ _), hp.trans (pre_mirror hsz (by omega)), step1 _ (sd_mirror O hsz hs' he) ?_ (like_mirror O hsz he _).2, by omega, one _ _ (by omega)⟩))
        show at' (mirror (arrOf st') _ _ _) _ = _
        rw [at_mirror hsz, if_neg (by omega)]
      · rw [if_neg hq0]
        exact wpS_pure ⟨0, rfl, hB', hp, step1 _ hs' rfl (le_refl O _), by omega, one _ _ (by omega)⟩
    | false =>
      dsimp only
      rw [if_neg Bool.false_ne_true]
      refine wpS_bind (ask_at hA hB' (by omega) (by omega) ?_)
      cases hg : lt (at' (arrOf st') (lo + x - 1)) (at' (arrOf st') (lo + x)) with
      | true => exact wpS_pure (h x q st' hB' hp hax (by omega) hs' hq he)
      | false =>
        refine wpS_pure ⟨q + 1, rfl, hB', hp, fun i j h1 hij hj => ?_, by omega, fun i i1 i2 => ?_⟩
        · by_cases e : j = lo + x
          · by_cases e3 : i = j
            · rw [e3]; exact le_refl O _
            · rw [e]
              exact le_trans O hg (hs' i (lo + x - 1) h1 (by omega) (by omega))
          · exact hs' i j h1 hij (by omega)
        · rw [show lo + (x + 1) - 1 = lo + x by omega]
          by_cases e : i = lo + x
          · rw [e]; exact ⟨le_refl O _, le_refl O _⟩
          · have := he i (by omega) (by omega)
            exact ⟨le_trans O this.1 hl, le_trans O hg this.2⟩
theorem rest_wp {st : SortSt} {lo n m : Nat} {Q : Option Nat → SortSt → Prop} (hn : lo + m ≤ a₀.size) (hnm : n + 1 ≤ m) (hB : SB a₀ κ p st) (hd : SD lt (arrOf st) lo (lo + (n + 1)))
    (h : ∀ k st', SB a₀ κ p st' → Pre (arrOf st) (arrOf st') lo → 1 ≤ k → k ≤ m → SG lt (arrOf st') lo (lo + k) → Q (some k) st') : wpS (model prog w) A E s (restL lo n m) Q st := by
  unfold restL
  refine wpS_bind (wpS_lift (wpAny_rule ⟨rfl, ?_⟩))
  refine wpS_bind (fall_wp O hA hn (by omega) hnm hB hd fun k q st' hB' hp k1 k2 hs' hq he => ?_)
  dsimp only
  have hsz : lo + k ≤ (arrOf st').size := by rw [hB'.size]; omega
  by_cases hq0 : q > 0
  · rw [if_pos hq0]
    exact wpS_bind (wpS_reverse (last_wp O hA hn (by omega) k2 (hB'.set (mirror_perm _ _ _ _)) (sd_mirror O hsz hs' he) fun k3 st3 a b c d e => h k3 st3 a ((hp.trans (pre_mirror hsz (by omega))).trans b) c d e))
  · rw [if_neg hq0]
    exact last_wp O hA hn (by omega) k2 hB' hs' fun k3 st3 a b c d e => h k3 st3 a (hp.trans b) c d e
theorem count_wp {st : SortSt} {lo m : Nat} {Q : Option Nat → SortSt → Prop} (hn : lo + m ≤ a₀.size) (h1 : 1 ≤ m) (hB : SB a₀ κ p st)
    (h : ∀ k st', SB a₀ κ p st' → Pre (arrOf st) (arrOf st') lo → 1 ≤ k → k ≤ m → SG lt (arrOf st') lo (lo + k) → Q (some k) st') : wpS (model prog w) A E s (countRun' lo m) Q st := by
  rw [count_eq]
  refine wpS_bind (asc_wp O hA hn (Nat.le_refl 1) h1 hB (fun i j a b c => by rw [show i = j by omega]; exact le_refl O _) fun n n1 n2 hs hl => ?_)
  dsimp only
  by_cases hnn : n = m
  · rw [if_pos (by simpa using hnn)]
    exact wpS_pure (h n st hB (fun _ _ => rfl) n1 n2 hs)
  · rw [if_neg (by simpa using hnn)]
    have hlt := hl (by omega)
    by_cases hg : n > 1
    · rw [if_pos hg]
      refine wpS_bind (ask_at hA hB (by omega) (by omega) ?_)
      cases hr : lt (at' (arrOf st) lo) (at' (arrOf st) (lo + n - 1)) with
      | true => exact wpS_pure (h n st hB (fun _ _ => rfl) n1 n2 hs)
      | false =>
        dsimp only
        rw [if_neg Bool.false_ne_true]
        have hsz : lo + n ≤ (arrOf st).size := by rw [hB.size]; omega
        have like : ∀ k, lo ≤ k → k < lo + n → le lt (at' (arrOf st) k) (at' (arrOf st) (lo + n - 1)) ∧ le lt (at' (arrOf st) (lo + n - 1)) (at' (arrOf st) k) := fun k k1 k2 =>
          ⟨hs k (lo + n - 1) k1 (by omega) (by omega), le_trans O hr (hs lo k (Nat.le_refl _) k1 k2)⟩
        refine wpS_bind (wpS_reverse (rest_wp O hA hn (by omega) (hB.set (mirror_perm _ _ _ _)) (fun i j a b c => ?_) fun k3 st3 x1 x2 x3 x4 x5 => h k3 st3 x1 ((pre_mirror hsz (Nat.le_refl _)).trans x2) x3 x4 x5))
        show le lt (at' (mirror (arrOf st) _ _ _) j) (at' (mirror (arrOf st) _ _ _) i)
        refine le_trans O (like_mirror O hsz like j).1 (le_trans O ?_ (like_mirror O hsz like i).2)
        by_cases e : j = lo + n
        · by_cases e2 : i = j
          · rw [e2]; exact le_refl O _
          · rw [e]; exact le_trans O (lt_le O hlt) (like i a (by omega)).2
        · exact le_trans O (like j (by omega) (by omega)).1 (like i a (by omega)).2
    · rw [if_neg hg]
      have e1 : n = 1 := by omega
      subst e1
      refine rest_wp O hA hn (by omega) hB (fun i j a b c => ?_) h
      by_cases e : i = j
      · rw [e]; exact le_refl O _
      · have e1 : i = lo := by omega
        have e2 : j = lo + 1 := by omega
        rw [e1, e2]; exact lt_le O hlt
theorem bin_wp {st : SortSt} {lo n ok : Nat} {Q : Bool → SortSt → Prop} (hn : lo + n ≤ a₀.size) (hok : ok ≤ n) (hB : SB a₀ κ p st) (hs : SG lt (arrOf st) lo (lo + ok))
    (h : ∀ st', SB a₀ κ p st' → Pre (arrOf st) (arrOf st') lo → SG lt (arrOf st') lo (lo + n) → Q true st') : wpS (model prog w) A E s (binarySort' lo n ok) Q st := by
  rw [binarySort'_eq]
  refine wpS_bind (wpS_mono (wpS_forRange (I := fun k c st' => c = (none, ()) ∧ SB a₀ κ p st' ∧ Pre (arrOf st) (arrOf st') lo ∧ SG lt (arrOf st') lo (lo + min k n))
    (Q := fun c st' => c = (none, ()) ∧ SB a₀ κ p st' ∧ Pre (arrOf st) (arrOf st') lo ∧ SG lt (arrOf st') lo (lo + n)) ?step ?fin ?init) ?post)
  case post =>
    rintro c st' ⟨rfl, hB', hp, hs'⟩
    exact wpS_pure (h st' hB' hp hs')
  case init =>
    refine ⟨rfl, hB, fun _ _ => rfl, fun i j a b c => ?_⟩
    by_cases h1 : ok = 0
    · rw [show i = j by omega]; exact le_refl O _
    · exact hs i j a b (by omega)
  case fin =>
    rintro c st' ⟨hc, hB', hp, hs'⟩
    refine ⟨hc, hB', hp, ?_⟩
    rwa [show min (max (max ok 1) n) n = n by omega] at hs'
  case step =>
    rintro k c st' hak hkn ⟨rfl, hB', hp, hs'⟩
    rw [show min k n = k by omega] at hs'
    refine wpS_bind (wpS_mono (wpS_forRange (I := fun x c st'' => st'' = st' ∧ ∃ l r, c = (none, l, r) ∧ l ≤ r ∧ r ≤ k ∧ r - l ≤ k - x ∧
        (∀ i, i < l → le lt (at' (arrOf st') (lo + i)) (at' (arrOf st') (lo + k))) ∧ (∀ i, r ≤ i → i < k → lt (at' (arrOf st') (lo + k)) (at' (arrOf st') (lo + i)) = true))
      (Q := fun c st'' => st'' = st' ∧ ∃ l r, c = (none, l, r) ∧ l ≤ k ∧
        (∀ i, i < l → le lt (at' (arrOf st') (lo + i)) (at' (arrOf st') (lo + k))) ∧ (∀ i, l ≤ i → i < k → lt (at' (arrOf st') (lo + k)) (at' (arrOf st') (lo + i)) = true)) ?istep ?ifin ?iinit) ?ipost)
    case iinit => exact ⟨rfl, 0, k, rfl, by omega, by omega, by omega, fun i hi => absurd hi (Nat.not_lt_zero _), fun i a b => absurd b (Nat.not_lt_of_le a)⟩
    case ifin =>
      rintro c st'' ⟨rfl, l, r, rfl, hlr, hrk, hm, hlo, hhi⟩
      have : l = r := by omega
      subst this
      exact ⟨rfl, l, l, rfl, hrk, hlo, hhi⟩
    case istep =>
      rintro x c st'' _ hxk ⟨rfl, l, r, rfl, hlr, hrk, hm, hlo, hhi⟩
      dsimp only
      by_cases hge : l ≥ r
      · rw [if_pos hge]
        have : l = r := by omega
        subst this
        exact wpS_pure ⟨rfl, l, l, rfl, hrk, hlo, hhi⟩
      · rw [if_neg hge]
        refine wpS_bind (ask_at hA hB' (by omega) (by omega) ?_)
        cases hl : lt (at' (arrOf st'') (lo + k)) (at' (arrOf st'') (lo + (l + r) / 2)) with
        | true =>
          dsimp only
          rw [if_pos rfl]
          exact wpS_pure ⟨rfl, l, (l + r) / 2, rfl, by omega, by omega, by omega, hlo, fun i a b => lt_of_le O hl (hs' _ _ (by omega) (by omega) (by omega))⟩
        | false =>
          dsimp only
          rw [if_neg Bool.false_ne_true]
          exact wpS_pure ⟨rfl, (l + r) / 2 + 1, r, rfl, by omega, by omega, by omega, fun i a => le_trans O (hs' (lo + i) (lo + (l + r) / 2) (by omega) (by omega) (by omega)) hl, hhi⟩
    case ipost =>
      rintro c st'' ⟨rfl, l, r, rfl, hlk, hlo, hhi⟩
      show wpS _ _ _ _ (do moveDown' (lo + k) (lo + l); pure (ForInStep.yield (none, ()))) _ _
      rw [moveDown'_eq]
      have hks : lo + k < (arrOf st'').size := by rw [hB'.size]; omega
      refine wpS_bind (wpS_modify (wpS_pure ⟨rfl, hB'.set (bubble_perm _ _ _), hp.trans fun i hi => ?_, ?_⟩))
      · show (bubble (arrOf st'') (lo + k) (lo + k - (lo + l)))[i]? = _
        rw [getElem?_bubble hks _ (by omega), if_neg (by omega), if_neg (by omega)]
      rw [show min (k + 1) n = k + 1 by omega]
      intro i j h1 hij hj
      show le lt (at' (bubble (arrOf st'') (lo + k) (lo + k - (lo + l))) i) (at' (bubble (arrOf st'') (lo + k) (lo + k - (lo + l))) j)
      have lo' : ∀ i, lo ≤ i → i < lo + l → le lt (at' (arrOf st'') i) (at' (arrOf st'') (lo + k)) := fun i a b => by
        have := hlo (i - lo) (by omega)
        rwa [show lo + (i - lo) = i by omega] at this
      have hi' : ∀ i, lo + l ≤ i → i < lo + k → le lt (at' (arrOf st'') (lo + k)) (at' (arrOf st'') i) := fun i a b => by
        have := hhi (i - lo) (by omega) (by omega)
        rw [show lo + (i - lo) = i by omega] at this
        exact lt_le O this
      rw [at_bubble hks (by omega), at_bubble hks (by omega), show lo + k - (lo + k - (lo + l)) = lo + l by omega]
      repeat' split
      all_goals first
        | (exfalso; omega)
        | exact le_refl O _
        | exact lo' _ (by omega) (by omega)
        | exact hi' _ (by omega) (by omega)
        | exact hs' _ _ (by omega) (by omega) (by omega)
end
end TS

set_option linter.all false
set_option maxRecDepth 100000
/-! ### gallop: how many lie ahead of a key -/
namespace TS
open PySem PyProof.Rows
def gallop' : Bool → Keyed → Array Keyed → Nat → Nat → Nat → StateT SortSt Sem (Option Nat) := sortPriv% PySem.Builtin.gallop
section
variable {prog : Program} {w : World} {A : Around} {E : Value → Shared → Prop} {s : Shared} {a₀ : Array Keyed} {κ : SortKind} {lt : Keyed → Keyed → Bool}
theorem elem_wp {arr : Array Keyed} {i : Nat} {st : SortSt} {Q : Keyed → SortSt → Prop} (hi : i < arr.size) (h : Q (at' arr i) st) : wpS (model prog w) A E s (elem' arr i) Q st := by
  rw [elem'_eq, at_some hi]; exact wpS_pure h
def far (lt : Keyed → Keyed → Bool) (left : Bool) (key x : Keyed) : Bool := if left then lt x key else !lt key x
theorem gallop_wp (hA : Asks prog w A E s κ a₀ lt) {left : Bool} {key : Keyed} {arr : Array Keyed} {base n hint : Nat} {st : SortSt} {Q : Option Nat → SortSt → Prop} (hk : kindOf st = κ) (hkey : key ∈ a₀.toList) (harr : ∀ x ∈ arr.toList, x ∈ a₀.toList)
    (hn : base + n ≤ arr.size) (hh : hint < n) (mono : ∀ i j, i ≤ j → j < n → far lt left key (at' arr (base + j)) = true → far lt left key (at' arr (base + i)) = true)
    (h : ∀ k, k ≤ n → (∀ i, i < k → far lt left key (at' arr (base + i)) = true) → (∀ i, k ≤ i → i < n → far lt left key (at' arr (base + i)) = false) → Q (some k) st) :
    wpS (model prog w) A E s (gallop' left key arr base n hint) Q st := by
  have bey : ∀ (i : Nat) (Q' : Option Bool → SortSt → Prop), i < n → Q' (some (far lt left key (at' arr (base + i)))) st →
      wpS (model prog w) A E s (do
        let x ← elem' arr (base + i)
        if left = true then lt' x key
          else do
            let r ← lt' key x
            pure (Option.map (fun x => !x) r)) Q' st := by
    intro i Q' hi hq
    have hm : at' arr (base + i) ∈ a₀.toList := harr _ (at_mem (by omega))
    refine wpS_bind (elem_wp (by omega) ?_)
    unfold far at hq
    cases left with
    | true => exact hA _ _ _ _ hm hkey hk hq
    | false => exact wpS_bind (hA _ _ _ _ hkey hm hk (wpS_pure hq))
  have mf : ∀ i j, i ≤ j → j < n → far lt left key (at' arr (base + i)) = false → far lt left key (at' arr (base + j)) = false := fun i j hij hj q => by
    cases z : far lt left key (at' arr (base + j)) with
    | false => rfl
    | true => rw [mono i j hij hj z] at q; cases q
  -- the last loop
  have tail : ∀ (lo hi : Nat), lo ≤ hi → hi ≤ n → (∀ i, i < lo → far lt left key (at' arr (base + i)) = true) → (∀ i, hi ≤ i → i < n → far lt left key (at' arr (base + i)) = false) →
      ∀ {Q' : Option (Option Nat) × Nat × Nat → SortSt → Prop}, (∀ k, k ≤ n → (∀ i, i < k → far lt left key (at' arr (base + i)) = true) → (∀ i, k ≤ i → i < n → far lt left key (at' arr (base + i)) = false) → Q' (none, k, k) st) →
      wpS (model prog w) A E s (forIn [0:n] ((none, lo, hi) : Option (Option Nat) × Nat × Nat) fun _ c => if c.2.1 ≥ c.2.2 then pure (ForInStep.done (none, c.2.1, c.2.2)) else do
          let x ← (do
            let x ← elem' arr (base + (c.2.1 + (c.2.2 - c.2.1) / 2))
            if left = true then lt' x key
              else do
                let r ← lt' key x
                pure (Option.map (fun x => !x) r))
          match x with
          | some more => if more = true then pure (ForInStep.yield (none, c.2.1 + (c.2.2 - c.2.1) / 2 + 1, c.2.2)) else pure (ForInStep.yield (none, c.2.1, c.2.1 + (c.2.2 - c.2.1) / 2))
          | _ => pure (ForInStep.done (some none, c.2.1, c.2.2))) Q' st := by
    intro lo hi hlh hhn h1 h2 Q' hQ
    refine wpS_forRange (I := fun x c st' => st' = st ∧ ∃ l r, c = (none, l, r) ∧ l ≤ r ∧ r ≤ n ∧ r - l ≤ n - x ∧ (∀ i, i < l → far lt left key (at' arr (base + i)) = true) ∧ (∀ i, r ≤ i → i < n → far lt left key (at' arr (base + i)) = false)) ?_ ?_ ⟨rfl, lo, hi, rfl, hlh, hhn, by omega, h1, h2⟩
    · rintro x c st' _ hx ⟨rfl, l, r, rfl, hlr, hrn, hm, a1, a2⟩
      dsimp only
      by_cases hge : l ≥ r
      · rw [if_pos hge]
        have : l = r := by omega
        subst this
        exact wpS_pure (hQ l hrn a1 a2)
      · rw [if_neg hge]
        refine wpS_bind (bey _ _ (by omega) ?_)
        cases z : far lt left key (at' arr (base + (l + (r - l) / 2))) with
        | true => exact wpS_pure ⟨rfl, _, r, rfl, by omega, hrn, by omega, fun i hi => mono i _ (by omega) (by omega) z, a2⟩
        | false => exact wpS_pure ⟨rfl, l, _, rfl, by omega, by omega, by omega, a1, fun i hi hj => mf _ i hi hj z⟩
    · rintro c st' ⟨rfl, l, r, rfl, hlr, hrn, hm, a1, a2⟩
      have : l = r := by omega
      subst this
      exact hQ l hrn a1 a2
  unfold wpS
  show wpAny (model prog w) A (gallop' left key arr base n hint st) _ E s
  wp_delta
  wp_delta
  refine (show wpS (model prog w) A E s _ Q st from ?_)
  dsimp only
  refine wpS_bind (bey hint _ hh ?_)
  cases zr : far lt left key (at' arr (base + hint)) with
  | true =>
    dsimp only
    rw [if_pos rfl]
    refine wpS_bind (wpS_mono (wpS_forRange (I := fun x c st' => st' = st ∧ ∃ l o, c = (none, l, o) ∧ l < o ∧ x < o ∧ hint + l < n ∧ far lt left key (at' arr (base + (hint + l))) = true)
      (Q := fun c st' => st' = st ∧ ∃ l o, c = (none, l, o) ∧ l < o ∧ hint + l < n ∧ far lt left key (at' arr (base + (hint + l))) = true ∧ (o < n - hint → far lt left key (at' arr (base + (hint + o))) = false)) ?_ ?_ ⟨rfl, 0, 1, rfl, by omega, by omega, by omega, zr⟩) ?_)
    · rintro x c st' _ hx ⟨rfl, l, o, rfl, hlo, hxo, hln, hf⟩
      dsimp only
      by_cases hge : o ≥ n - hint
      · rw [if_pos hge]
        exact wpS_pure ⟨rfl, l, o, rfl, hlo, hln, hf, fun z => absurd hge (by omega)⟩
      · rw [if_neg hge]
        refine wpS_bind (bey _ _ (by omega) ?_)
        cases z : far lt left key (at' arr (base + (hint + o))) with
        | true => exact wpS_pure ⟨rfl, o, 2 * o + 1, rfl, by omega, by omega, by omega, z⟩
        | false => exact wpS_pure ⟨rfl, l, o, rfl, hlo, hln, hf, fun _ => z⟩
    · rintro c st' ⟨rfl, l, o, rfl, hlo, hxo, hln, hf⟩
      exact ⟨rfl, l, o, rfl, hlo, hln, hf, fun z => absurd z (by omega)⟩
    · rintro c st' ⟨rfl, l, o, rfl, hlo, hln, hf, hg⟩
      dsimp only
      refine wpS_bind (tail (hint + l + 1) (hint + min o (n - hint)) (by omega) (by omega) (fun i hi => mono i _ (by omega) hln hf) (fun i h1 h2 => ?_) fun k k1 k2 k3 => wpS_pure (h k k1 k2 k3))
      by_cases ho : o < n - hint
      · exact mf (hint + o) i (by omega) h2 (hg ho)
      · omega
  | false =>
    dsimp only
    rw [if_neg Bool.false_ne_true]
    refine wpS_bind (wpS_mono (wpS_forRange (I := fun x c st' => st' = st ∧ ∃ l o, c = (none, l, o) ∧ l < o ∧ x < o ∧ l ≤ hint ∧ far lt left key (at' arr (base + (hint - l))) = false)
      (Q := fun c st' => st' = st ∧ ∃ l o, c = (none, l, o) ∧ l < o ∧ l ≤ hint ∧ far lt left key (at' arr (base + (hint - l))) = false ∧ (o < hint + 1 → far lt left key (at' arr (base + (hint - o))) = true)) ?_ ?_ ⟨rfl, 0, 1, rfl, by omega, by omega, by omega, zr⟩) ?_)
    · rintro x c st' _ hx ⟨rfl, l, o, rfl, hlo, hxo, hln, hf⟩
      dsimp only
      by_cases hge : o ≥ hint + 1
      · rw [if_pos hge]
        exact wpS_pure ⟨rfl, l, o, rfl, hlo, hln, hf, fun z => absurd hge (by omega)⟩
      · rw [if_neg hge]
        refine wpS_bind (bey _ _ (by omega) ?_)
        cases z : far lt left key (at' arr (base + (hint - o))) with
        | true => exact wpS_pure ⟨rfl, l, o, rfl, hlo, hln, hf, fun _ => z⟩
        | false => exact wpS_pure ⟨rfl, o, 2 * o + 1, rfl, by omega, by omega, by omega, z⟩
    · rintro c st' ⟨rfl, l, o, rfl, hlo, hxo, hln, hf⟩
      exact ⟨rfl, l, o, rfl, hlo, hln, hf, fun z => absurd z (by omega)⟩
    · rintro c st' ⟨rfl, l, o, rfl, hlo, hln, hf, hg⟩
      dsimp only
      refine wpS_bind (tail (hint + 1 - min o (hint + 1)) (hint - l) (by omega) (by omega) (fun i hi => ?_) (fun i h1 h2 => mf _ i h1 h2 hf) fun k k1 k2 k3 => wpS_pure (h k k1 k2 k3))
      by_cases ho : o < hint + 1
      · exact mono i (hint - o) (by omega) (by omega) (hg ho)
      · omega
end
end TS

set_option linter.all false
set_option maxRecDepth 100000
/-! ### two runs become one, from below -/
namespace TS
open PySem PyProof.Rows
def Eq4 (st st' : SortSt) : Prop := kindOf st' = kindOf st ∧ arrOf st' = arrOf st ∧ pendingOf st' = pendingOf st ∧ failedOf st' = failedOf st
theorem Eq4.refl (st : SortSt) : Eq4 st st := ⟨rfl, rfl, rfl, rfl⟩
theorem at_get {a : Array Keyed} {i : Nat} (h : i < a.size) : at' a i = a.toList[i]'(by simpa using h) := by
  unfold at'; rw [Array.getElem?_eq_getElem h]; simp
theorem mem_drop {a : Array Keyed} {i : Nat} {x : Keyed} (h : x ∈ a.toList.drop i) : ∃ j, i ≤ j ∧ j < a.size ∧ x = at' a j := by
  obtain ⟨k, hk, e⟩ := List.mem_iff_getElem.mp h
  rw [List.getElem_drop] at e
  have hl : i + k < a.size := by simp at hk; omega
  exact ⟨i + k, by omega, hl, by rw [at_get hl]; exact e.symm⟩
theorem mem_take {a : Array Keyed} {i : Nat} {x : Keyed} (h : x ∈ a.toList.take i) : ∃ j, j < i ∧ j < a.size ∧ x = at' a j := by
  obtain ⟨k, hk, e⟩ := List.mem_iff_getElem.mp h
  rw [List.getElem_take] at e
  have hl : k < a.size ∧ k < i := by simp at hk; omega
  exact ⟨k, hl.2, hl.1, by rw [at_get hl.1]; exact e.symm⟩
theorem mem_drop_take {a : Array Keyed} {i k : Nat} {x : Keyed} (h : x ∈ (a.toList.drop i).take k) : ∃ j, i ≤ j ∧ j < i + k ∧ j < a.size ∧ x = at' a j := by
  obtain ⟨m, hk, e⟩ := List.mem_iff_getElem.mp h
  rw [List.getElem_take, List.getElem_drop] at e
  have hl : i + m < a.size ∧ m < k := by simp at hk; omega
  exact ⟨i + m, by omega, by omega, hl.1, by rw [at_get hl.1]; exact e.symm⟩
theorem drop_take_one {a : Array Keyed} {i : Nat} (h : i < a.size) : (a.toList.drop i).take 1 = [at' a i] := by
  have hl : i < a.toList.length := by simpa using h
  rw [List.drop_eq_getElem_cons hl, at_get h]; rfl
abbrev Up (lt : Keyed → Keyed → Bool) (l : List Keyed) : Prop := l.Pairwise (le lt)
theorem up_at {lt : Keyed → Keyed → Bool} (O : Ord lt) {a : Array Keyed} (h : Up lt a.toList) {i j : Nat} (hij : i ≤ j) (hj : j < a.size) : le lt (at' a i) (at' a j) := by
  by_cases e : i = j
  · rw [e]; exact le_refl O _
  · rw [at_get (by omega), at_get hj]
    exact List.pairwise_iff_getElem.mp h i j (by simp; omega) (by simpa using hj) (by omega)
structure J (lt : Keyed → Keyed → Bool) (a b out : Array Keyed) (ia ib : Nat) : Prop where
  perm : (out.toList ++ (a.toList.drop ia ++ b.toList.drop ib)).Perm (a.toList ++ b.toList)
  srt : Up lt out.toList
  oa : ∀ x ∈ out.toList, ∀ y ∈ a.toList.drop ia, le lt x y
  ob : ∀ x ∈ out.toList, ∀ y ∈ b.toList.drop ib, le lt x y
section
variable {lt : Keyed → Keyed → Bool} {a b out out' : Array Keyed} {ia ib k : Nat}
theorem J.moveA (j : J lt a b out ia ib) (sa : Up lt a.toList) (h : ∀ x ∈ (a.toList.drop ia).take k, ∀ y ∈ b.toList.drop ib, le lt x y) (e : out'.toList = out.toList ++ (a.toList.drop ia).take k) : J lt a b out' (ia + k) ib := by
  have e2 : (a.toList.drop ia).take k ++ a.toList.drop (ia + k) = a.toList.drop ia := by
    rw [← List.drop_drop]; exact List.take_append_drop _ _
  have p : Up lt ((a.toList.drop ia).take k ++ a.toList.drop (ia + k)) := by rw [e2]; exact sa.sublist (List.drop_sublist _ _)
  obtain ⟨p1, p2, p3⟩ := List.pairwise_append.mp p
  refine ⟨?_, ?_, ?_, ?_⟩
  · rw [e, List.append_assoc, ← List.append_assoc _ (a.toList.drop (ia + k)), e2]; exact j.perm
  · rw [e]
    exact List.pairwise_append.mpr ⟨j.srt, p1, fun x hx y hy => j.oa x hx y (List.mem_of_mem_take hy)⟩
  · rw [e]
    intro x hx y hy
    rcases List.mem_append.mp hx with z | z
    · exact j.oa x z y (by rw [← e2]; exact List.mem_append_right _ hy)
    · exact p3 x z y hy
  · rw [e]
    intro x hx y hy
    rcases List.mem_append.mp hx with z | z
    · exact j.ob x z y hy
    · exact h x z y hy
theorem J.moveB (j : J lt a b out ia ib) (sb : Up lt b.toList) (h : ∀ x ∈ (b.toList.drop ib).take k, ∀ y ∈ a.toList.drop ia, le lt x y) (e : out'.toList = out.toList ++ (b.toList.drop ib).take k) : J lt a b out' ia (ib + k) := by
  have e2 : (b.toList.drop ib).take k ++ b.toList.drop (ib + k) = b.toList.drop ib := by
    rw [← List.drop_drop]; exact List.take_append_drop _ _
  have p : Up lt ((b.toList.drop ib).take k ++ b.toList.drop (ib + k)) := by rw [e2]; exact sb.sublist (List.drop_sublist _ _)
  obtain ⟨p1, p2, p3⟩ := List.pairwise_append.mp p
  refine ⟨?_, ?_, ?_, ?_⟩
  · rw [e, List.append_assoc]
    refine List.Perm.trans ?_ j.perm
    refine List.Perm.append_left _ ?_
    have := List.perm_append_comm_assoc ((b.toList.drop ib).take k) (a.toList.drop ia) (b.toList.drop (ib + k))
    rw [e2] at this
    exact this
  · rw [e]
    exact List.pairwise_append.mpr ⟨j.srt, p1, fun x hx y hy => j.ob x hx y (List.mem_of_mem_take hy)⟩
  · rw [e]
    intro x hx y hy
    rcases List.mem_append.mp hx with z | z
    · exact j.oa x z y hy
    · exact h x z y hy
  · rw [e]
    intro x hx y hy
    rcases List.mem_append.mp hx with z | z
    · exact j.ob x z y (by rw [← e2]; exact List.mem_append_right _ hy)
    · exact p3 x z y hy
def Res (lt : Keyed → Keyed → Bool) (a b r : Array Keyed) : Prop := r.toList.Perm (a.toList ++ b.toList) ∧ Up lt r.toList
theorem ext_toList (i k : Nat) : (a.extract i k).toList = (a.toList.drop i).take (k - i) := by
  rw [Array.toList_extract]
theorem ext_all (i : Nat) : (a.extract i a.size).toList = a.toList.drop i := by
  rw [ext_toList]; exact List.take_of_length_le (by simp)
theorem J.done (j : J lt a b out ia ib) (sa : Up lt a.toList) (h : ib = b.size) : Res lt a b (out ++ a.extract ia a.size ++ b.extract ib b.size) := by
  have e : (out ++ a.extract ia a.size ++ b.extract ib b.size).toList = out.toList ++ (a.toList.drop ia ++ b.toList.drop ib) := by
    rw [Array.toList_append, Array.toList_append, ext_all, ext_all, List.append_assoc]
  refine ⟨by rw [e]; exact j.perm, ?_⟩
  have e2 : b.toList.drop ib = [] := List.drop_eq_nil_of_le (by simp; omega)
  rw [e, e2, List.append_nil]
  exact List.pairwise_append.mpr ⟨j.srt, sa.sublist (List.drop_sublist _ _), j.oa⟩
theorem J.last (j : J lt a b out ia ib) (sb : Up lt b.toList) (hl : ∀ x ∈ b.toList, lt x (at' a (a.size - 1)) = true) (O : Ord lt) (h : ia + 1 = a.size) : Res lt a b (out ++ b.extract ib b.size ++ a.extract ia a.size) := by
  have e : (out ++ b.extract ib b.size ++ a.extract ia a.size).toList = out.toList ++ (b.toList.drop ib ++ a.toList.drop ia) := by
    rw [Array.toList_append, Array.toList_append, ext_all, ext_all, List.append_assoc]
  refine ⟨by rw [e]; exact (List.Perm.append_left _ List.perm_append_comm).trans j.perm, ?_⟩
  have e2 : a.toList.drop ia = [at' a ia] := by
    rw [← drop_take_one (a := a) (i := ia) (by omega)]
    exact (List.take_of_length_le (by simp; omega)).symm
  rw [e]
  refine List.pairwise_append.mpr ⟨j.srt, List.pairwise_append.mpr ⟨sb.sublist (List.drop_sublist _ _), by rw [e2]; exact List.pairwise_singleton _ _, fun x hx y hy => ?_⟩, fun x hx y hy => ?_⟩
  · rw [e2, List.mem_singleton] at hy
    rw [hy, show ia = a.size - 1 by omega]
    exact lt_le O (hl x (List.mem_of_mem_drop hx))
  · rcases List.mem_append.mp hy with z | z
    · exact j.ob x hx y z
    · exact j.oa x hx y z
theorem far_mono (O : Ord lt) {left : Bool} {key : Keyed} {base n : Nat} (sa : SG lt a base (base + n)) : ∀ i j, i ≤ j → j < n → far lt left key (at' a (base + j)) = true → far lt left key (at' a (base + i)) = true := by
  intro i j hij hj
  have s := sa (base + i) (base + j) (by omega) (by omega) (by omega)
  unfold far
  cases left with
  | true => exact fun z => lt_of_le' O s z
  | false =>
    intro z
    cases q : lt key (at' a (base + i)) with
    | false => rfl
    | true =>
      have := lt_of_le O q s
      simp [this] at z
theorem up_sg (O : Ord lt) (sa : Up lt a.toList) {i n : Nat} (h : i + n ≤ a.size) : SG lt a i (i + n) := fun x y _ hxy hy => up_at O sa hxy (by omega)
end
section
variable {M : Model} {A : Around} {E : Value → Shared → Prop} {s : Shared} {σ α : Type}
theorem wpS_ite {c : Prop} [Decidable c] {x y : StateT σ Sem α} {Q : α → σ → Prop} {st : σ} (h1 : c → wpS M A E s x Q st) (h2 : ¬c → wpS M A E s y Q st) : wpS M A E s (if c then x else y) Q st := by
  by_cases h : c
  · rw [if_pos h]; exact h1 h
  · rw [if_neg h]; exact h2 h
end
def mergeLo' : Array Keyed → Array Keyed → StateT SortSt Sem (Array Keyed) := sortPriv% PySem.Builtin.mergeLo
section
variable {prog : Program} {w : World} {A : Around} {E : Value → Shared → Prop} {s : Shared} {a₀ : Array Keyed} {κ : SortKind} {lt : Keyed → Keyed → Bool}
theorem mergeLo_wp (O : Ord lt) (hA : Asks prog w A E s κ a₀ lt) {a b : Array Keyed} {st : SortSt} {Q : Array Keyed → SortSt → Prop} (hk : kindOf st = κ) (ha : ∀ x ∈ a.toList, x ∈ a₀.toList) (hb : ∀ x ∈ b.toList, x ∈ a₀.toList) (sa : Up lt a.toList) (sb : Up lt b.toList)
    (na : 0 < a.size) (nb : 0 < b.size) (hf : ∀ x ∈ a.toList, lt (at' b 0) x = true) (hl : ∀ x ∈ b.toList, lt x (at' a (a.size - 1)) = true)
    (h : ∀ r st', Res lt a b r → Eq4 st st' → Q r st') : wpS (model prog w) A E s (mergeLo' a b) Q st := by
  have pushA : ∀ {out : Array Keyed} {ia ib : Nat}, J lt a b out ia ib → ia < a.size → (∀ y ∈ b.toList.drop ib, le lt (at' a ia) y) → J lt a b (out.push (at' a ia)) (ia + 1) ib := fun {out ia ib} j q z =>
    j.moveA sa (k := 1) (fun x hx y hy => by rw [drop_take_one q, List.mem_singleton] at hx; rw [hx]; exact z y hy) (by rw [drop_take_one q, Array.toList_push])
  have pushB : ∀ {out : Array Keyed} {ia ib : Nat}, J lt a b out ia ib → ib < b.size → (∀ y ∈ a.toList.drop ia, le lt (at' b ib) y) → J lt a b (out.push (at' b ib)) ia (ib + 1) := fun {out ia ib} j q z =>
    j.moveB sb (k := 1) (fun x hx y hy => by rw [drop_take_one q, List.mem_singleton] at hx; rw [hx]; exact z y hy) (by rw [drop_take_one q, Array.toList_push])
  unfold wpS
  show wpAny (model prog w) A (mergeLo' a b st) _ E s
  wp_delta
  wp_delta
  refine (show wpS (model prog w) A E s _ Q st from ?_)
  dsimp only
  refine wpS_bind (wpS_lift (wpAny_rule ⟨rfl, ?_⟩))
  refine wpS_bind (elem_wp nb ?_)
  have j0 : J lt a b #[at' b 0] 0 1 := by
    have := pushB (out := #[]) (ia := 0) (ib := 0) ⟨by simp, by simp, by simp, by simp⟩ nb (fun y hy => lt_le O (hf y (by simpa using hy)))
    simpa using this
  by_cases e1 : 1 = b.size
  · rw [if_pos (by simpa using e1)]
    exact wpS_pure (h _ _ (j0.done sa e1) (Eq4.refl _))
  rw [if_neg (by simpa using e1)]
  by_cases e2 : 1 = a.size
  · rw [if_pos (by simpa using e2)]
    exact wpS_pure (h _ _ (j0.last sb hl O e2) (Eq4.refl _))
  rw [if_neg (by simpa using e2)]
  refine wpS_bind (wpS_get ?_)
  refine wpS_bind (wpS_mono (wpS_forRange (I := fun x c st' => Eq4 st st' ∧ ∃ out ia ib g, c = (none, out, ia, ib, g) ∧ J lt a b out ia ib ∧ ia + 1 < a.size ∧ ib < b.size ∧ x ≤ ia + ib)
    (Q := fun c st' => Eq4 st st' ∧ ∃ r t, c = (some r, t) ∧ Res lt a b r) ?step ?fin ⟨Eq4.refl _, _, 0, 1, _, rfl, j0, by omega, by omega, by omega⟩) ?post)
  case fin =>
    rintro c st' ⟨_, out, ia, ib, g, rfl, j, h1, h2, h3⟩
    omega
  case post =>
    rintro c st' ⟨q4, r, t, rfl, hr⟩
    exact wpS_pure (h r st' hr q4)
  case step =>
    rintro x c st1 _ hx ⟨q4, out, ia, ib, g, rfl, j, h1, h2, h3⟩
    dsimp only
    refine wpS_bind (wpS_mono (wpS_forRange (I := fun y c st' => st' = st1 ∧ ∃ out ia ib ac bc, c = (none, out, ia, ib, ac, bc) ∧ J lt a b out ia ib ∧ ia + 1 < a.size ∧ ib < b.size ∧ x + y ≤ ia + ib)
      (Q := fun c st' => st' = st1 ∧ ((∃ r t, c = (some r, t) ∧ Res lt a b r) ∨ ∃ out ia ib ac bc, c = (none, out, ia, ib, ac, bc) ∧ J lt a b out ia ib ∧ ia + 1 < a.size ∧ ib < b.size ∧ x + 1 ≤ ia + ib)) ?s1 ?f1 ⟨rfl, out, ia, ib, 0, 0, rfl, j, h1, h2, by omega⟩) ?p1)
    case f1 =>
      rintro c st' ⟨rfl, out, ia, ib, ac, bc, rfl, j, h1, h2, h3⟩
      exact ⟨rfl, .inr ⟨out, ia, ib, ac, bc, rfl, j, h1, h2, by omega⟩⟩
    case s1 =>
      clear j h1 h2 h3
      rintro y c st' _ hy ⟨rfl, out, ia, ib, ac, bc, rfl, j, h1, h2, h3⟩
      dsimp only
      refine wpS_bind (elem_wp h2 ?_)
      refine wpS_bind (elem_wp (by omega) ?_)
      refine wpS_bind (hA _ _ _ _ (hb _ (at_mem h2)) (ha _ (at_mem (by omega))) (q4.1.trans hk) ?_)
      cases z : lt (at' b ib) (at' a ia) with
      | true =>
        dsimp only
        rw [if_pos rfl]
        refine wpS_bind (elem_wp h2 ?_)
        have j1 := pushB j h2 fun y hy => by
          obtain ⟨m, m1, m2, rfl⟩ := mem_drop hy
          exact le_trans O (lt_le O z) (up_at O sa m1 m2)
        by_cases e : ib + 1 = b.size
        · rw [if_pos (by simpa using e)]
          exact wpS_pure ⟨rfl, .inl ⟨_, _, rfl, j1.done sa e⟩⟩
        · rw [if_neg (by simpa using e)]
          split
          · exact wpS_pure ⟨rfl, .inr ⟨_, _, _, _, _, rfl, j1, h1, by omega, by omega⟩⟩
          · exact wpS_pure ⟨rfl, _, _, _, _, _, rfl, j1, h1, by omega, by omega⟩
      | false =>
        dsimp only
        rw [if_neg Bool.false_ne_true]
        refine wpS_bind (elem_wp (by omega) ?_)
        have j1 := pushA j (by omega) fun y hy => by
          obtain ⟨m, m1, m2, rfl⟩ := mem_drop hy
          exact le_trans O z (up_at O sb m1 m2)
        by_cases e : ia + 1 + 1 = a.size
        · rw [if_pos (by simpa using e)]
          exact wpS_pure ⟨rfl, .inl ⟨_, _, rfl, j1.last sb hl O e⟩⟩
        · rw [if_neg (by simpa using e)]
          split
          · exact wpS_pure ⟨rfl, .inr ⟨_, _, _, _, _, rfl, j1, by omega, by omega, by omega⟩⟩
          · exact wpS_pure ⟨rfl, _, _, _, _, _, rfl, j1, by omega, by omega, by omega⟩
    case p1 =>
      clear j h1 h2 h3
      rintro c st' ⟨rfl, (⟨r, t, rfl, hr⟩ | ⟨out, ia, ib, ac, bc, rfl, j, h1, h2, h3⟩)⟩
      · exact wpS_pure ⟨q4, r, _, rfl, hr⟩
      dsimp only
      refine wpS_bind (wpS_lift (wpAny_rule ⟨rfl, ?_⟩))
      refine wpS_bind (wpS_mono (wpS_forRange (I := fun y c st' => Eq4 st st' ∧ ∃ out ia ib g ac bc, c = (none, out, ia, ib, g, ac, bc) ∧ J lt a b out ia ib ∧ ia + 1 < a.size ∧ ib < b.size ∧ x + 1 ≤ ia + ib)
        (Q := fun c st' => Eq4 st st' ∧ ((∃ r t, c = (some r, t) ∧ Res lt a b r) ∨ ∃ out ia ib g ac bc, c = (none, out, ia, ib, g, ac, bc) ∧ J lt a b out ia ib ∧ ia + 1 < a.size ∧ ib < b.size ∧ x + 1 ≤ ia + ib)) ?s2 ?f2 ⟨q4, out, ia, ib, _, ac, bc, rfl, j, h1, h2, h3⟩) ?p2)
      case f2 =>
        rintro c st' ⟨q4, z⟩
        exact ⟨q4, .inr z⟩
      case p2 =>
        rintro c st' ⟨q4, (⟨r, t, rfl, hr⟩ | ⟨out, ia, ib, g, ac, bc, rfl, j, h1, h2, h3⟩)⟩
        · exact wpS_pure ⟨q4, r, _, rfl, hr⟩
        · exact wpS_bind (wpS_modify (wpS_pure ⟨q4, out, ia, ib, _, rfl, j, h1, h2, h3⟩))
      case s2 =>
        clear j h1 h2 h3 q4
        rintro y c st2 _ hy ⟨q4, out, ia, ib, g, ac, bc, rfl, j, h1, h2, h3⟩
        dsimp only
        refine wpS_ite (fun hg => ?_) (fun hg => ?_)
        all_goals
          refine wpS_bind (wpS_modify ?_)
          refine wpS_bind (elem_wp h2 ?_)
          refine wpS_bind (gallop_wp hA (q4.1.trans hk) (hb _ (at_mem h2)) ha (by omega) (by omega) (far_mono O (up_sg O sa (by omega))) fun k k1 k2 k3 => ?_)
          have k4 : k < a.size - ia := by
            rcases Nat.lt_or_ge k (a.size - ia) with z | z
            · exact z
            · have := k2 (a.size - 1 - ia) (by omega)
              rw [show ia + (a.size - 1 - ia) = a.size - 1 by omega] at this
              unfold far at this
              rw [hl _ (at_mem h2)] at this; cases this
          have J1 : J lt a b (out ++ a.extract ia (ia + k)) (ia + k) ib := by
            refine j.moveA sa (fun x hx y hy => ?_) (by rw [Array.toList_append, ext_toList, Nat.add_sub_cancel_left])
            obtain ⟨m, m1, m2, m3, rfl⟩ := mem_drop_take hx
            obtain ⟨n, n1, n2, rfl⟩ := mem_drop hy
            have := k2 (m - ia) (by omega)
            rw [show ia + (m - ia) = m by omega] at this
            unfold far at this
            exact le_trans O (show le lt (at' a m) (at' b ib) by unfold le; simpa using this) (up_at O sb n1 n2)
          have F1 : ∀ y ∈ a.toList.drop (ia + k), lt (at' b ib) y = true := fun y hy => by
            obtain ⟨m, m1, m2, rfl⟩ := mem_drop hy
            have := k3 (m - ia) (by omega) (by omega)
            rw [show ia + (m - ia) = m by omega] at this
            unfold far at this
            simpa using this
          dsimp only
          have G2 : x + 1 ≤ ia + k + ib := by omega
          by_cases hk0 : k > 0
          case' neg =>
            rw [if_neg hk0]
            have k0 : k = 0 := by omega
            subst k0
            have G1 : ia + 0 + 1 < a.size := by omega
            have J1 : J lt a b out (ia + 0) ib := j
            clear k2 k3 j
            rw [Nat.add_zero] at J1 F1 G1 G2
            generalize out = out1 at J1 ⊢
            generalize ia = ia1 at J1 F1 G1 G2 ⊢
          case' pos =>
            rw [if_pos hk0]
            by_cases e3 : ia + k + 1 = a.size
            · rw [if_pos (by simpa using e3)]
              exact wpS_pure ⟨q4, .inl ⟨_, _, rfl, J1.last sb hl O e3⟩⟩
            rw [if_neg (by simpa using e3), if_neg (by simp; omega)]
            have G1 : ia + k + 1 < a.size := by omega
            clear k2 k3 j e3
            generalize out ++ a.extract ia (ia + k) = out1 at J1 ⊢
            generalize ia + k = ia1 at J1 F1 G1 G2 ⊢
          all_goals
            refine wpS_bind (elem_wp h2 ?_)
            have J2 := pushB J1 h2 fun y hy => lt_le O (F1 y hy)
            by_cases e4 : ib + 1 = b.size
            · rw [if_pos (by simpa using e4)]
              exact wpS_pure ⟨q4, .inl ⟨_, _, rfl, J2.done sa e4⟩⟩
            rw [if_neg (by simpa using e4)]
            refine wpS_bind (elem_wp (by omega) ?_)
            refine wpS_bind (gallop_wp hA (q4.1.trans hk) (ha _ (at_mem (by omega))) hb (by omega) (by omega) (far_mono O (up_sg O sb (by omega))) fun m r1 r2 r3 => ?_)
            have J3 : J lt a b (out1.push (at' b ib) ++ b.extract (ib + 1) (ib + 1 + m)) ia1 (ib + 1 + m) := by
              refine J2.moveB sb (fun x hx y hy => ?_) (by rw [Array.toList_append, ext_toList, Nat.add_sub_cancel_left])
              obtain ⟨n, n1, n2, n3, rfl⟩ := mem_drop_take hx
              obtain ⟨v, v1, v2, rfl⟩ := mem_drop hy
              have := r2 (n - (ib + 1)) (by omega)
              rw [show ib + 1 + (n - (ib + 1)) = n by omega] at this
              exact le_trans O (lt_le O this) (up_at O sa v1 v2)
            have F3 : ∀ y ∈ b.toList.drop (ib + 1 + m), le lt (at' a ia1) y := fun y hy => by
              obtain ⟨n, n1, n2, rfl⟩ := mem_drop hy
              have := r3 (n - (ib + 1)) (by omega) (by omega)
              rw [show ib + 1 + (n - (ib + 1)) = n by omega] at this
              exact this
            dsimp only
            have W2 : x + 1 ≤ ia1 + (ib + 1 + m) := by omega
            by_cases hm0 : m > 0
            case' neg =>
              rw [if_neg hm0]
              have m0 : m = 0 := by omega
              subst m0
              have W1 : ib + 1 + 0 < b.size := by omega
              have J3 : J lt a b (out1.push (at' b ib)) ia1 (ib + 1 + 0) := J2
              clear r2 r3 J2
              rw [Nat.add_zero] at J3 F3 W1 W2
              generalize out1.push (at' b ib) = out2 at J3 ⊢
              generalize ib + 1 = ib2 at J3 F3 W1 W2 ⊢
            case' pos =>
              rw [if_pos hm0]
              by_cases e5 : ib + 1 + m = b.size
              · rw [if_pos (by simpa using e5)]
                exact wpS_pure ⟨q4, .inl ⟨_, _, rfl, J3.done sa e5⟩⟩
              rw [if_neg (by simpa using e5)]
              have W1 : ib + 1 + m < b.size := by omega
              clear r2 r3 J2 e5
              generalize out1.push (at' b ib) ++ b.extract (ib + 1) (ib + 1 + m) = out2 at J3 ⊢
              generalize ib + 1 + m = ib2 at J3 F3 W1 W2 ⊢
            all_goals
              refine wpS_bind (elem_wp (by omega) ?_)
              have J4 := pushA J3 (by omega) F3
              by_cases e6 : ia1 + 1 + 1 = a.size
              · rw [if_pos (by simpa using e6)]
                exact wpS_pure ⟨q4, .inl ⟨_, _, rfl, J4.last sb hl O e6⟩⟩
              rw [if_neg (by simpa using e6)]
              refine wpS_ite (fun hg => ?_) (fun hg => ?_)
              · exact wpS_pure ⟨q4, .inr ⟨_, _, _, _, _, _, rfl, J4, by omega, by omega, by omega⟩⟩
              · exact wpS_pure ⟨q4, _, _, _, _, _, _, rfl, J4, by omega, by omega, by omega⟩
end
end TS

set_option linter.all false
set_option maxRecDepth 100000
/-! ### two runs become one, from above -/
namespace TS
open PySem PyProof.Rows
structure H (lt : Keyed → Keyed → Bool) (a b out : Array Keyed) (na nb : Nat) : Prop where
  perm : ((a.toList.take na ++ b.toList.take nb) ++ out.toList.reverse).Perm (a.toList ++ b.toList)
  srt : Up lt out.toList.reverse
  ao : ∀ x ∈ a.toList.take na, ∀ y ∈ out.toList, le lt x y
  bo : ∀ x ∈ b.toList.take nb, ∀ y ∈ out.toList, le lt x y
section
variable {lt : Keyed → Keyed → Bool} {a b out out' : Array Keyed} {na nb n : Nat}
theorem cut_take {l : List Keyed} {n m : Nat} (h : n ≤ m) : l.take n ++ (l.drop n).take (m - n) = l.take m := by
  have := List.take_append_drop n (l.take m)
  rw [List.take_take, Nat.min_eq_left h, List.drop_take] at this
  exact this
theorem H.moveA (j : H lt a b out na nb) (sa : Up lt a.toList) (hn : n ≤ na) (h : ∀ x ∈ b.toList.take nb, ∀ y ∈ (a.toList.drop n).take (na - n), le lt x y) (e : out'.toList = out.toList ++ ((a.toList.drop n).take (na - n)).reverse) : H lt a b out' n nb := by
  have e2 := cut_take (l := a.toList) hn
  have p : Up lt (a.toList.take n ++ (a.toList.drop n).take (na - n)) := by rw [e2]; exact sa.sublist (List.take_sublist _ _)
  obtain ⟨p1, p2, p3⟩ := List.pairwise_append.mp p
  have er : out'.toList.reverse = (a.toList.drop n).take (na - n) ++ out.toList.reverse := by rw [e, List.reverse_append, List.reverse_reverse]
  have em : ∀ y, y ∈ out'.toList → y ∈ out.toList ∨ y ∈ (a.toList.drop n).take (na - n) := fun y hy => by rw [e, List.mem_append, List.mem_reverse] at hy; exact hy
  refine ⟨?_, ?_, ?_, ?_⟩
  · refine List.Perm.trans ?_ j.perm
    rw [er, ← e2, List.append_assoc, List.append_assoc, List.append_assoc]
    exact List.Perm.append_left _ (List.perm_append_comm_assoc _ _ _)
  · rw [er]
    exact List.pairwise_append.mpr ⟨p2, j.srt, fun x hx y hy => j.ao x (by rw [← e2]; exact List.mem_append_right _ hx) y (List.mem_reverse.mp hy)⟩
  · intro x hx y hy
    rcases em y hy with z | z
    · exact j.ao x (by rw [← e2]; exact List.mem_append_left _ hx) y z
    · exact p3 x hx y z
  · intro x hx y hy
    rcases em y hy with z | z
    · exact j.bo x hx y z
    · exact h x hx y z
theorem H.moveB (j : H lt a b out na nb) (sb : Up lt b.toList) (hn : n ≤ nb) (h : ∀ x ∈ a.toList.take na, ∀ y ∈ (b.toList.drop n).take (nb - n), le lt x y) (e : out'.toList = out.toList ++ ((b.toList.drop n).take (nb - n)).reverse) : H lt a b out' na n := by
  have e2 := cut_take (l := b.toList) hn
  have p : Up lt (b.toList.take n ++ (b.toList.drop n).take (nb - n)) := by rw [e2]; exact sb.sublist (List.take_sublist _ _)
  obtain ⟨p1, p2, p3⟩ := List.pairwise_append.mp p
  have er : out'.toList.reverse = (b.toList.drop n).take (nb - n) ++ out.toList.reverse := by rw [e, List.reverse_append, List.reverse_reverse]
  have em : ∀ y, y ∈ out'.toList → y ∈ out.toList ∨ y ∈ (b.toList.drop n).take (nb - n) := fun y hy => by rw [e, List.mem_append, List.mem_reverse] at hy; exact hy
  refine ⟨?_, ?_, ?_, ?_⟩
  · refine List.Perm.trans ?_ j.perm
    rw [er, ← e2, List.append_assoc, List.append_assoc, List.append_assoc]
  · rw [er]
    exact List.pairwise_append.mpr ⟨p2, j.srt, fun x hx y hy => j.bo x (by rw [← e2]; exact List.mem_append_right _ hx) y (List.mem_reverse.mp hy)⟩
  · intro x hx y hy
    rcases em y hy with z | z
    · exact j.ao x hx y z
    · exact h x hx y z
  · intro x hx y hy
    rcases em y hy with z | z
    · exact j.bo x (by rw [← e2]; exact List.mem_append_left _ hx) y z
    · exact p3 x hx y z
theorem ext_take (n : Nat) : (a.extract 0 n).toList = a.toList.take n := by rw [ext_toList]; rfl
theorem H.done (j : H lt a b out na nb) (sb : Up lt b.toList) (h : na = 0) : Res lt a b (a.extract 0 na ++ b.extract 0 nb ++ out.reverse) := by
  have e : (a.extract 0 na ++ b.extract 0 nb ++ out.reverse).toList = (a.toList.take na ++ b.toList.take nb) ++ out.toList.reverse := by
    rw [Array.toList_append, Array.toList_append, ext_take, ext_take, Array.toList_reverse]
  refine ⟨by rw [e]; exact j.perm, ?_⟩
  rw [e, h, List.take_zero, List.nil_append]
  exact List.pairwise_append.mpr ⟨sb.sublist (List.take_sublist _ _), j.srt, fun x hx y hy => j.bo x hx y (List.mem_reverse.mp hy)⟩
theorem H.first (j : H lt a b out na nb) (sa : Up lt a.toList) (hf : ∀ x ∈ a.toList, lt (at' b 0) x = true) (O : Ord lt) (hb : 0 < b.size) (h : nb = 1) : Res lt a b (b.extract 0 nb ++ a.extract 0 na ++ out.reverse) := by
  have e : (b.extract 0 nb ++ a.extract 0 na ++ out.reverse).toList = (b.toList.take nb ++ a.toList.take na) ++ out.toList.reverse := by
    rw [Array.toList_append, Array.toList_append, ext_take, ext_take, Array.toList_reverse]
  refine ⟨by rw [e]; exact (List.Perm.append_right _ List.perm_append_comm).trans j.perm, ?_⟩
  have e2 : b.toList.take nb = [at' b 0] := by rw [h, ← drop_take_one hb]; rfl
  rw [e, List.append_assoc]
  refine List.pairwise_append.mpr ⟨by rw [e2]; exact List.pairwise_singleton _ _, List.pairwise_append.mpr ⟨sa.sublist (List.take_sublist _ _), j.srt, fun x hx y hy => j.ao x hx y (List.mem_reverse.mp hy)⟩, fun x hx y hy => ?_⟩
  rcases List.mem_append.mp hy with z | z
  · rw [e2, List.mem_singleton] at hx
    rw [hx]; exact lt_le O (hf y (List.mem_of_mem_take z))
  · exact j.bo x hx y (List.mem_reverse.mp z)
end
def mergeHi' : Array Keyed → Array Keyed → StateT SortSt Sem (Array Keyed) := sortPriv% PySem.Builtin.mergeHi
section
variable {prog : Program} {w : World} {A : Around} {E : Value → Shared → Prop} {s : Shared} {a₀ : Array Keyed} {κ : SortKind} {lt : Keyed → Keyed → Bool}
theorem mergeHi_wp (O : Ord lt) (hA : Asks prog w A E s κ a₀ lt) {a b : Array Keyed} {st : SortSt} {Q : Array Keyed → SortSt → Prop} (hk : kindOf st = κ) (ha : ∀ x ∈ a.toList, x ∈ a₀.toList) (hb : ∀ x ∈ b.toList, x ∈ a₀.toList) (sa : Up lt a.toList) (sb : Up lt b.toList)
    (pa : 0 < a.size) (pb : 0 < b.size) (hf : ∀ x ∈ a.toList, lt (at' b 0) x = true) (hl : ∀ x ∈ b.toList, lt x (at' a (a.size - 1)) = true)
    (h : ∀ r st', Res lt a b r → Eq4 st st' → Q r st') : wpS (model prog w) A E s (mergeHi' a b) Q st := by
  have pushA : ∀ {out : Array Keyed} {na nb : Nat}, H lt a b out na nb → 0 < na → na ≤ a.size → (∀ x ∈ b.toList.take nb, le lt x (at' a (na - 1))) → H lt a b (out.push (at' a (na - 1))) (na - 1) nb := fun {out na nb} j q q2 z => by
    have e : (a.toList.drop (na - 1)).take (na - (na - 1)) = [at' a (na - 1)] := by rw [show na - (na - 1) = 1 by omega]; exact drop_take_one (by omega)
    exact j.moveA sa (by omega) (fun x hx y hy => by rw [e, List.mem_singleton] at hy; rw [hy]; exact z x hx) (by rw [e, Array.toList_push]; rfl)
  have pushB : ∀ {out : Array Keyed} {na nb : Nat}, H lt a b out na nb → 0 < nb → nb ≤ b.size → (∀ x ∈ a.toList.take na, le lt x (at' b (nb - 1))) → H lt a b (out.push (at' b (nb - 1))) na (nb - 1) := fun {out na nb} j q q2 z => by
    have e : (b.toList.drop (nb - 1)).take (nb - (nb - 1)) = [at' b (nb - 1)] := by rw [show nb - (nb - 1) = 1 by omega]; exact drop_take_one (by omega)
    exact j.moveB sb (by omega) (fun x hx y hy => by rw [e, List.mem_singleton] at hy; rw [hy]; exact z x hx) (by rw [e, Array.toList_push]; rfl)
  unfold wpS
  show wpAny (model prog w) A (mergeHi' a b st) _ E s
  wp_delta
  wp_delta
  refine (show wpS (model prog w) A E s _ Q st from ?_)
  dsimp only
  refine wpS_bind (wpS_lift (wpAny_rule ⟨rfl, ?_⟩))
  refine wpS_bind (elem_wp (by omega) ?_)
  have j0 : H lt a b #[at' a (a.size - 1)] (a.size - 1) b.size := by
    have := pushA (out := #[]) (na := a.size) (nb := b.size) ⟨by simp [List.take_of_length_le], by simp, by simp, by simp⟩ pa (Nat.le_refl _) (fun x hx => lt_le O (hl x (List.mem_of_mem_take hx)))
    simpa using this
  by_cases e1 : a.size - 1 = 0
  · rw [if_pos (by simpa using e1)]
    exact wpS_pure (h _ _ (j0.done sb e1) (Eq4.refl _))
  rw [if_neg (by simpa using e1)]
  by_cases e2 : b.size = 1
  · rw [if_pos (by simpa using e2)]
    exact wpS_pure (h _ _ (j0.first sa hf O pb e2) (Eq4.refl _))
  rw [if_neg (by simpa using e2)]
  refine wpS_bind (wpS_get ?_)
  refine wpS_bind (wpS_mono (wpS_forRange (I := fun x c st' => Eq4 st st' ∧ ∃ na nb out g, c = (none, na, nb, out, g) ∧ H lt a b out na nb ∧ (0 < na ∧ na < a.size) ∧ (1 < nb ∧ nb ≤ b.size) ∧ x + (na + nb) ≤ a.size + b.size)
    (Q := fun c st' => Eq4 st st' ∧ ∃ r t, c = (some r, t) ∧ Res lt a b r) ?step ?fin ⟨Eq4.refl _, _, _, _, _, rfl, j0, by omega, by omega, by omega⟩) ?post)
  case fin =>
    rintro c st' ⟨_, na, nb, out, g, rfl, j, h1, h2, h3⟩
    omega
  case post =>
    rintro c st' ⟨q4, r, t, rfl, hr⟩
    exact wpS_pure (h r st' hr q4)
  case step =>
    rintro x c st1 _ hx ⟨q4, na, nb, out, g, rfl, j, h1, h2, h3⟩
    dsimp only
    refine wpS_bind (wpS_mono (wpS_forRange (I := fun y c st' => st' = st1 ∧ ∃ na nb out ac bc, c = (none, na, nb, out, ac, bc) ∧ H lt a b out na nb ∧ (0 < na ∧ na < a.size) ∧ (1 < nb ∧ nb ≤ b.size) ∧ x + y + (na + nb) ≤ a.size + b.size)
      (Q := fun c st' => st' = st1 ∧ ((∃ r t, c = (some r, t) ∧ Res lt a b r) ∨ ∃ na nb out ac bc, c = (none, na, nb, out, ac, bc) ∧ H lt a b out na nb ∧ (0 < na ∧ na < a.size) ∧ (1 < nb ∧ nb ≤ b.size) ∧ x + 1 + (na + nb) ≤ a.size + b.size)) ?s1 ?f1 ⟨rfl, na, nb, out, 0, 0, rfl, j, h1, h2, by omega⟩) ?p1)
    case f1 =>
      rintro c st' ⟨rfl, na, nb, out, ac, bc, rfl, j, h1, h2, h3⟩
      exact ⟨rfl, .inr ⟨na, nb, out, ac, bc, rfl, j, h1, h2, by omega⟩⟩
    case s1 =>
      clear j h1 h2 h3
      rintro y c st' _ hy ⟨rfl, na, nb, out, ac, bc, rfl, j, h1, h2, h3⟩
      dsimp only
      refine wpS_bind (elem_wp (by omega) ?_)
      refine wpS_bind (elem_wp (by omega) ?_)
      refine wpS_bind (hA _ _ _ _ (hb _ (at_mem (by omega))) (ha _ (at_mem (by omega))) (q4.1.trans hk) ?_)
      cases z : lt (at' b (nb - 1)) (at' a (na - 1)) with
      | true =>
        dsimp only
        rw [if_pos rfl]
        refine wpS_bind (elem_wp (by omega) ?_)
        have j1 := pushA j (by omega) (by omega) fun y hy => by
          obtain ⟨m, m1, m2, rfl⟩ := mem_take hy
          exact le_trans O (up_at O sb (show m ≤ nb - 1 by omega) (by omega)) (lt_le O z)
        by_cases e : na - 1 = 0
        · rw [if_pos (by simpa using e)]
          exact wpS_pure ⟨rfl, .inl ⟨_, _, rfl, j1.done sb e⟩⟩
        · rw [if_neg (by simpa using e)]
          refine wpS_ite (fun hg => ?_) (fun hg => ?_)
          · exact wpS_pure ⟨rfl, .inr ⟨_, _, _, _, _, rfl, j1, by omega, by omega, by omega⟩⟩
          · exact wpS_pure ⟨rfl, _, _, _, _, _, rfl, j1, by omega, by omega, by omega⟩
      | false =>
        dsimp only
        rw [if_neg Bool.false_ne_true]
        refine wpS_bind (elem_wp (by omega) ?_)
        have j1 := pushB j (by omega) (by omega) fun y hy => by
          obtain ⟨m, m1, m2, rfl⟩ := mem_take hy
          exact le_trans O (up_at O sa (show m ≤ na - 1 by omega) (by omega)) z
        by_cases e : nb - 1 = 1
        · rw [if_pos (by simpa using e)]
          exact wpS_pure ⟨rfl, .inl ⟨_, _, rfl, j1.first sa hf O pb e⟩⟩
        · rw [if_neg (by simpa using e)]
          refine wpS_ite (fun hg => ?_) (fun hg => ?_)
          · exact wpS_pure ⟨rfl, .inr ⟨_, _, _, _, _, rfl, j1, by omega, by omega, by omega⟩⟩
          · exact wpS_pure ⟨rfl, _, _, _, _, _, rfl, j1, by omega, by omega, by omega⟩
    case p1 =>
      clear j h1 h2 h3
      rintro c st' ⟨rfl, (⟨r, t, rfl, hr⟩ | ⟨na, nb, out, ac, bc, rfl, j, h1, h2, h3⟩)⟩
      · exact wpS_pure ⟨q4, r, _, rfl, hr⟩
      dsimp only
      refine wpS_bind (wpS_lift (wpAny_rule ⟨rfl, ?_⟩))
      refine wpS_bind (wpS_mono (wpS_forRange (I := fun y c st' => Eq4 st st' ∧ ∃ na nb out g ac bc, c = (none, na, nb, out, g, ac, bc) ∧ H lt a b out na nb ∧ (0 < na ∧ na < a.size) ∧ (1 < nb ∧ nb ≤ b.size) ∧ x + 1 + (na + nb) ≤ a.size + b.size)
        (Q := fun c st' => Eq4 st st' ∧ ((∃ r t, c = (some r, t) ∧ Res lt a b r) ∨ ∃ na nb out g ac bc, c = (none, na, nb, out, g, ac, bc) ∧ H lt a b out na nb ∧ (0 < na ∧ na < a.size) ∧ (1 < nb ∧ nb ≤ b.size) ∧ x + 1 + (na + nb) ≤ a.size + b.size)) ?s2 ?f2 ⟨q4, na, nb, out, _, ac, bc, rfl, j, h1, h2, h3⟩) ?p2)
      case f2 =>
        rintro c st' ⟨q4, z⟩
        exact ⟨q4, .inr z⟩
      case p2 =>
        rintro c st' ⟨q4, (⟨r, t, rfl, hr⟩ | ⟨na, nb, out, g, ac, bc, rfl, j, h1, h2, h3⟩)⟩
        · exact wpS_pure ⟨q4, r, _, rfl, hr⟩
        · exact wpS_bind (wpS_modify (wpS_pure ⟨q4, na, nb, out, _, rfl, j, h1, h2, h3⟩))
      case s2 =>
        clear j h1 h2 h3 q4
        rintro y c st2 _ hy ⟨q4, na, nb, out, g, ac, bc, rfl, j, h1, h2, h3⟩
        dsimp only
        refine wpS_ite (fun hg => ?_) (fun hg => ?_)
        all_goals
          refine wpS_bind (wpS_modify ?_)
          refine wpS_bind (elem_wp (by omega) ?_)
          refine wpS_bind (gallop_wp hA (q4.1.trans hk) (hb _ (at_mem (by omega))) ha (by omega) (by omega) (far_mono O (up_sg O sa (by omega))) fun k k1 k2 k3 => ?_)
          have J1 : H lt a b (out ++ (a.extract k na).reverse) k nb := by
            refine j.moveA sa k1 (fun x hx y hy => ?_) (by rw [Array.toList_append, Array.toList_reverse, ext_toList])
            obtain ⟨m, m1, m2, m3, rfl⟩ := mem_drop_take hy
            obtain ⟨n, n1, n2, rfl⟩ := mem_take hx
            have := k3 m (by omega) (by omega)
            rw [Nat.zero_add] at this
            unfold far at this
            exact le_trans O (up_at O sb (show n ≤ nb - 1 by omega) (by omega)) (lt_le O (show lt (at' b (nb - 1)) (at' a m) = true by simpa using this))
          have F1 : ∀ y ∈ a.toList.take k, le lt y (at' b (nb - 1)) := fun y hy => by
            obtain ⟨m, m1, m2, rfl⟩ := mem_take hy
            have := k2 m m1
            rw [Nat.zero_add] at this
            unfold far at this
            unfold le
            simpa using this
          dsimp only
          have G2 : x + 1 + (k + nb) ≤ a.size + b.size := by omega
          have G3 : k < a.size := by omega
          by_cases hk0 : na - k > 0
          case' neg =>
            rw [if_neg hk0]
            have k0 : k = na := by omega
            subst k0
            have G1 : 0 < k := by omega
            have J1 : H lt a b out k nb := j
            clear k2 k3 j
            generalize out = out1 at J1 ⊢
          case' pos =>
            rw [if_pos hk0]
            by_cases e3 : k = 0
            · rw [if_pos (by simpa using e3)]
              exact wpS_pure ⟨q4, .inl ⟨_, _, rfl, J1.done sb e3⟩⟩
            rw [if_neg (by simpa using e3)]
            have G1 : 0 < k := by omega
            clear k2 k3 j e3
            generalize out ++ (a.extract k na).reverse = out1 at J1 ⊢
          all_goals
            refine wpS_bind (elem_wp (by omega) ?_)
            have J2 := pushB J1 (by omega) (by omega) F1
            by_cases e4 : nb - 1 = 1
            · rw [if_pos (by simpa using e4)]
              exact wpS_pure ⟨q4, .inl ⟨_, _, rfl, J2.first sa hf O pb e4⟩⟩
            rw [if_neg (by simpa using e4)]
            refine wpS_bind (elem_wp (by omega) ?_)
            refine wpS_bind (gallop_wp hA (q4.1.trans hk) (ha _ (at_mem (by omega))) hb (by omega) (by omega) (far_mono O (up_sg O sb (by omega))) fun m r1 r2 r3 => ?_)
            have hm1 : 0 < m := by
              rcases Nat.lt_or_ge 0 m with z | z
              · exact z
              · have := r3 0 z (by omega)
                rw [Nat.zero_add] at this
                unfold far at this
                rw [if_pos rfl, hf _ (at_mem (by omega))] at this; cases this
            have J3 : H lt a b (out1.push (at' b (nb - 1)) ++ (b.extract m (nb - 1)).reverse) k m := by
              refine J2.moveB sb r1 (fun x hx y hy => ?_) (by rw [Array.toList_append, Array.toList_reverse, ext_toList])
              obtain ⟨n, n1, n2, n3, rfl⟩ := mem_drop_take hy
              obtain ⟨v, v1, v2, rfl⟩ := mem_take hx
              have := r3 n (by omega) (by omega)
              rw [Nat.zero_add] at this
              unfold far at this
              exact le_trans O (up_at O sa (show v ≤ k - 1 by omega) (by omega)) this
            have F3 : ∀ y ∈ b.toList.take m, le lt y (at' a (k - 1)) := fun y hy => by
              obtain ⟨n, n1, n2, rfl⟩ := mem_take hy
              have := r2 n n1
              rw [Nat.zero_add] at this
              exact lt_le O this
            dsimp only
            have W2 : x + 1 + (k + m) ≤ a.size + b.size := by omega
            have W3 : m ≤ b.size := by omega
            by_cases hm0 : nb - 1 - m > 0
            case' neg =>
              rw [if_neg hm0]
              have m0 : nb - 1 = m := by omega
              rw [m0]
              have W1 : 1 < m := by omega
              have J3 : H lt a b (out1.push (at' b (nb - 1))) k m := by rw [m0] at J2; rw [m0]; exact J2
              rw [m0] at J3
              clear r2 r3 J2
              generalize out1.push (at' b m) = out2 at J3 ⊢
            case' pos =>
              rw [if_pos hm0]
              by_cases e5 : m = 1
              · rw [if_pos (by simpa using e5)]
                exact wpS_pure ⟨q4, .inl ⟨_, _, rfl, J3.first sa hf O pb e5⟩⟩
              rw [if_neg (by simpa using e5), if_neg (by simp; omega)]
              have W1 : 1 < m := by omega
              clear r2 r3 J2 e5
              generalize out1.push (at' b (nb - 1)) ++ (b.extract m (nb - 1)).reverse = out2 at J3 ⊢
            all_goals
              refine wpS_bind (elem_wp (by omega) ?_)
              have J4 := pushA J3 (by omega) (by omega) F3
              by_cases e6 : k - 1 = 0
              · rw [if_pos (by simpa using e6)]
                exact wpS_pure ⟨q4, .inl ⟨_, _, rfl, J4.done sb e6⟩⟩
              rw [if_neg (by simpa using e6)]
              refine wpS_ite (fun hg => ?_) (fun hg => ?_)
              · exact wpS_pure ⟨q4, .inr ⟨_, _, _, _, _, _, rfl, J4, by omega, by omega, by omega⟩⟩
              · exact wpS_pure ⟨q4, _, _, _, _, _, _, rfl, J4, by omega, by omega, by omega⟩
end
end TS

set_option linter.all false
set_option maxRecDepth 100000
/-! ### the runs that wait, and the whole sort -/
namespace TS
open PySem PyProof.Rows
abbrev Run := Nat × Nat × Nat
/-! #### a stretch is written back -/
def wr (sa : Nat) (a : Array Keyed) (l : List (Keyed × Nat)) : Array Keyed := l.foldl (fun a x => match x with | (p, j) => a.setIfInBounds (sa + j) p) a
theorem wr_list (sa : Nat) : ∀ (l : List Keyed) (n : Nat) (a : Array Keyed), sa + n + l.length ≤ a.size → (wr sa a (l.zipIdx n)).toList = a.toList.take (sa + n) ++ (l ++ a.toList.drop (sa + n + l.length))
  | [], n, a, h => by
    show a.toList = _
    rw [List.nil_append, List.length_nil, Nat.add_zero, List.take_append_drop]
  | x :: l, n, a, h => by
    have hl : (x :: l).length = l.length + 1 := rfl
    rw [hl] at h ⊢
    have hs : sa + n < a.toList.length := by simp; omega
    rw [List.zipIdx_cons]
    show (wr sa (a.setIfInBounds (sa + n) x) (l.zipIdx (n + 1))).toList = _
    rw [wr_list sa l (n + 1) _ (by rw [Array.size_setIfInBounds]; omega), Array.toList_setIfInBounds, List.drop_set_of_lt (by omega),
      show sa + (n + 1) = sa + n + 1 by omega, List.take_succ, List.take_set_of_le (Nat.le_refl _), List.getElem?_set_self hs, show sa + n + 1 + l.length = sa + n + (l.length + 1) by omega, List.append_assoc]
    rfl
theorem cut_cut {l : List Keyed} {i j k : Nat} (h1 : i ≤ j) (h2 : j ≤ k) : (l.drop i).take (j - i) ++ (l.drop j).take (k - j) = (l.drop i).take (k - i) := by
  have := List.take_append_drop (j - i) ((l.drop i).take (k - i))
  rw [List.take_take, Nat.min_eq_left (by omega), List.drop_take, List.drop_drop, show i + (j - i) = j by omega, show k - i - (j - i) = k - j by omega] at this
  exact this
theorem cut_all {l : List Keyed} {i k : Nat} (h : i ≤ k) : l.take i ++ ((l.drop i).take (k - i) ++ l.drop k) = l := by
  have := List.take_append_drop (k - i) (l.drop i)
  rw [List.drop_drop, show i + (k - i) = k by omega] at this
  rw [this, List.take_append_drop]
theorem sg_up {lt : Keyed → Keyed → Bool} {a : Array Keyed} {i k : Nat} (h : SG lt a i k) : Up lt ((a.toList.drop i).take (k - i)) := by
  unfold Up
  rw [List.pairwise_iff_getElem]
  intro x y hx hy hxy
  have h1 : y < k - i ∧ i + y < a.size := by simp at hy; omega
  rw [List.getElem_take, List.getElem_take, List.getElem_drop, List.getElem_drop, ← at_get (by omega), ← at_get (by omega)]
  exact h _ _ (by omega) (by omega) (by omega)
def Chain : List Run → Nat → Nat → Prop
  | [], lo, hi => lo = hi
  | r :: l, lo, hi => r.1 = lo ∧ 0 < r.2.1 ∧ Chain l (lo + r.2.1) hi
theorem chain_app : ∀ {l1 l2 : List Run} {lo hi : Nat}, Chain (l1 ++ l2) lo hi ↔ ∃ m, Chain l1 lo m ∧ Chain l2 m hi
  | [], l2, lo, hi => ⟨fun h => ⟨lo, rfl, h⟩, fun ⟨m, h1, h2⟩ => by cases h1; exact h2⟩
  | r :: l1, l2, lo, hi => by
    constructor
    · rintro ⟨a, b, c⟩
      obtain ⟨m, x, y⟩ := chain_app.mp c
      exact ⟨m, ⟨a, b, x⟩, y⟩
    · rintro ⟨m, ⟨a, b, x⟩, y⟩
      exact ⟨a, b, chain_app.mpr ⟨m, x, y⟩⟩
theorem chain_len : ∀ {l : List Run} {lo hi : Nat}, Chain l lo hi → lo + l.length ≤ hi
  | [], lo, hi, h => by cases h; exact Nat.le_refl _
  | r :: l, lo, hi, ⟨a, b, c⟩ => by have := chain_len c; simp only [List.length_cons]; omega
theorem chain_mem : ∀ {l : List Run} {lo hi : Nat}, Chain l lo hi → ∀ r ∈ l, lo ≤ r.1 ∧ r.1 + r.2.1 ≤ hi
  | [], lo, hi, _, r, hr => absurd hr List.not_mem_nil
  | q :: l, lo, hi, ⟨a, b, c⟩, r, hr => by
    rcases List.mem_cons.mp hr with rfl | z
    · have := chain_len c; omega
    · have := chain_mem c r z; omega
def keepF (f : Run → Run) : Prop := ∀ r, (f r).1 = r.1 ∧ (f r).2.1 = r.2.1
theorem chain_mod {f : Run → Run} (hf : keepF f) : ∀ {l : List Run} {i lo hi : Nat}, Chain l lo hi → Chain (l.modify i f) lo hi
  | [], i, lo, hi, h => by cases i <;> exact h
  | r :: l, 0, lo, hi, ⟨a, b, c⟩ => by
    rw [List.modify_zero_cons]
    exact ⟨by rw [(hf r).1]; exact a, by rw [(hf r).2]; exact b, by rw [(hf r).2]; exact c⟩
  | r :: l, i + 1, lo, hi, ⟨a, b, c⟩ => by
    rw [List.modify_succ_cons]
    exact ⟨a, b, chain_mod hf c⟩
theorem mem_mod {f : Run → Run} (hf : keepF f) : ∀ {l : List Run} {i : Nat} {r : Run}, r ∈ l.modify i f → ∃ q ∈ l, r.1 = q.1 ∧ r.2.1 = q.2.1
  | [], i, r, h => by cases i <;> exact absurd h List.not_mem_nil
  | q :: l, 0, r, h => by
    rw [List.modify_zero_cons] at h
    rcases List.mem_cons.mp h with rfl | z
    · exact ⟨q, List.mem_cons_self, (hf q).1, (hf q).2⟩
    · exact ⟨r, List.mem_cons_of_mem _ z, rfl, rfl⟩
  | q :: l, i + 1, r, h => by
    rw [List.modify_succ_cons] at h
    rcases List.mem_cons.mp h with rfl | z
    · exact ⟨r, List.mem_cons_self, rfl, rfl⟩
    · obtain ⟨q', a, b⟩ := mem_mod hf z
      exact ⟨q', List.mem_cons_of_mem _ a, b⟩
theorem split2 {l : List Run} {i : Nat} (h : i + 1 < l.length) : ∃ l1 x y l2, l = l1 ++ x :: y :: l2 ∧ l1.length = i := by
  refine ⟨l.take i, l[i], l[i + 1], l.drop (i + 2), ?_, by simp; omega⟩
  have := List.take_append_drop i l
  rw [List.drop_eq_getElem_cons (by omega), List.drop_eq_getElem_cons h] at this
  exact this.symm
structure PI (lt : Keyed → Keyed → Bool) (a₀ : Array Keyed) (κ : SortKind) (st : SortSt) (l : List Run) (lo : Nat) : Prop where
  sb : SB a₀ κ l.toArray st
  ch : Chain l 0 lo
  sg : ∀ r ∈ l, SG lt (arrOf st) r.1 (r.1 + r.2.1)
theorem SG.same {lt : Keyed → Keyed → Bool} {a a' : Array Keyed} {lo hi : Nat} (h : SG lt a lo hi) (e : ∀ i, lo ≤ i → i < hi → a'[i]? = a[i]?) : SG lt a' lo hi := fun i j h1 h2 h3 => by
  rw [at_congr (e i h1 (by omega)), at_congr (e j (by omega) h3)]; exact h i j h1 h2 h3
section
variable {prog : Program} {w : World} {A : Around} {E : Value → Shared → Prop} {s : Shared} {a₀ : Array Keyed} {κ : SortKind} {lt : Keyed → Keyed → Bool}
theorem wpS_set {σ : Type} {M : Model} {Q : PUnit → σ → Prop} {st st' : σ} (h : Q ⟨⟩ st') : wpS M A E s (set st' : StateT σ Sem PUnit) Q st := by
  unfold wpS; rw [StateT.run_set]; exact wpAny_pure ⟨rfl, h⟩
theorem mergeAt_wp (O : Ord lt) (hA : Asks prog w A E s κ a₀ lt) {st : SortSt} {l : List Run} {lo i : Nat} {Q : Bool → SortSt → Prop} (I : PI lt a₀ κ st l lo) (hlo : lo ≤ a₀.size) (hi : i + 1 < l.length)
    (h : ∀ st' l', PI lt a₀ κ st' l' lo → l'.length + 1 = l.length → (∀ i, lo ≤ i → (arrOf st')[i]? = (arrOf st)[i]?) → Q true st') : wpS (model prog w) A E s (mergeAt' i) Q st := by
  obtain ⟨l1, ⟨sa, na, pw⟩, ⟨sb, nb, pw2⟩, l2, rfl, hl1⟩ := split2 hi
  obtain ⟨⟨perm, kind, failed, pend⟩, ch, sg⟩ := I
  obtain ⟨m, c1, ⟨rfl, p1, ⟨rfl, p2, c2⟩⟩⟩ := chain_app.mp ch
  dsimp only at p1 p2 c1 c2
  have hend := chain_len c2
  have size : (arrOf st).size = a₀.size := perm.size_eq
  have g1 : SG lt (arrOf st) sa (sa + na) := sg (sa, na, pw) (by simp)
  have g2 : SG lt (arrOf st) (sa + na) (sa + na + nb) := sg (sa + na, nb, pw2) (by simp)
  have hmem : ∀ x ∈ (arrOf st).toList, x ∈ a₀.toList := fun x hx => (Array.perm_iff_toList_perm.mp perm).mem_iff.mp hx
  -- the end, for any array that is sorted there
  have fin : ∀ st' : SortSt, (arrOf st').Perm (arrOf st) → kindOf st' = kindOf st → failedOf st' = failedOf st → pendingOf st' = (l1 ++ (sa, na + nb, pw) :: l2).toArray →
      (∀ i, i < sa ∨ sa + na + nb ≤ i → (arrOf st')[i]? = (arrOf st)[i]?) → SG lt (arrOf st') sa (sa + na + nb) → Q true st' := by
    intro st' e1 e2 e3 e4 e5 e6
    refine h st' (l1 ++ (sa, na + nb, pw) :: l2) ⟨⟨e1.trans perm, e2.trans kind, e3.trans failed, e4⟩, chain_app.mpr ⟨sa, c1, rfl, (by show 0 < na + nb; omega), by show Chain l2 (sa + (na + nb)) lo; rw [← Nat.add_assoc]; exact c2⟩, fun r hr => ?_⟩ (by simp; omega) (fun i hi => e5 i (by omega))
    rcases List.mem_append.mp hr with z | z
    · have := chain_mem c1 r z
      exact (sg r (List.mem_append_left _ z)).same fun i x y => e5 i (by omega)
    · rcases List.mem_cons.mp z with rfl | z
      · show SG lt (arrOf st') sa (sa + (na + nb))
        rw [← Nat.add_assoc]; exact e6
      · have := chain_mem c2 r z
        exact (sg r (List.mem_append_right _ (List.mem_cons_of_mem _ (List.mem_cons_of_mem _ z)))).same fun i x y => e5 i (by omega)
  unfold wpS
  show wpAny (model prog w) A (mergeAt' i st) _ E s
  wp_delta
  wp_delta
  refine (show wpS (model prog w) A E s _ Q st from ?_)
  dsimp only
  refine wpS_bind (wpS_get ?_)
  have x1 : (pendingOf st)[i]? = some (sa, na, pw) := by rw [pend]; simp [← hl1]
  have x2 : (pendingOf st)[i + 1]? = some (sa + na, nb, pw2) := by rw [pend]; simp [← hl1]
  have x3 : ((pendingOf st).setIfInBounds i (sa, na + nb, pw)).eraseIdxIfInBounds (i + 1) = (l1 ++ (sa, na + nb, pw) :: l2).toArray := by
    rw [pend, List.setIfInBounds_toArray, List.eraseIdxIfInBounds_toArray, ← hl1, List.set_append_right _ _ (Nat.le_refl _), Nat.sub_self, List.set_cons_zero, List.eraseIdx_append_of_length_le (by omega), show l1.length + 1 - l1.length = 1 by omega]
    rfl
  rw [x1, x2]
  dsimp only
  rw [x3]
  refine wpS_bind (wpS_set ?_)
  refine wpS_bind (elem_wp (by rw [size]; omega) ?_)
  refine wpS_bind (gallop_wp hA kind (hmem _ (at_mem (by rw [size]; omega))) hmem (by rw [size]; omega) (by omega) (far_mono O g1) fun k k1 k2 k3 => ?_)
  dsimp only
  -- what lies ahead of the cut, and behind it
  have below : ∀ i, sa ≤ i → i < sa + k → le lt (at' (arrOf st) i) (at' (arrOf st) (sa + na)) := fun i a b => by
    have := k2 (i - sa) (by omega)
    rw [show sa + (i - sa) = i by omega] at this
    unfold far at this
    unfold le
    simpa using this
  have above : ∀ i, sa + k ≤ i → i < sa + na → lt (at' (arrOf st) (sa + na)) (at' (arrOf st) i) = true := fun i a b => by
    have := k3 (i - sa) (by omega) (by omega)
    rw [show sa + (i - sa) = i by omega] at this
    unfold far at this
    simpa using this
  by_cases e0 : na - k = 0
  · rw [if_pos (by simpa using e0)]
    refine wpS_pure (fin _ (Array.Perm.refl _) rfl rfl rfl (fun _ _ => rfl) fun i j a b c => ?_)
    show le lt (at' (arrOf st) i) (at' (arrOf st) j)
    by_cases q1 : j < sa + na
    · exact g1 i j a b q1
    · by_cases q2 : i < sa + na
      · exact le_trans O (below i a (by omega)) (g2 (sa + na) j (Nat.le_refl _) (by omega) c)
      · exact g2 i j (by omega) b c
  rw [if_neg (by simpa using e0)]
  have ee : sa + k + (na - k) - 1 = sa + na - 1 := by omega
  rw [ee]
  refine wpS_bind (elem_wp (by rw [size]; omega) ?_)
  refine wpS_bind (gallop_wp hA kind (hmem _ (at_mem (by rw [size]; omega))) hmem (by rw [size]; omega) (by omega) (far_mono O g2) fun n n1 n2 n3 => ?_)
  dsimp only
  have under : ∀ i, sa + na ≤ i → i < sa + na + n → lt (at' (arrOf st) i) (at' (arrOf st) (sa + na - 1)) = true := fun i a b => by
    have := n2 (i - (sa + na)) (by omega)
    rw [show sa + na + (i - (sa + na)) = i by omega] at this
    exact this
  have over : ∀ i, sa + na + n ≤ i → i < sa + na + nb → le lt (at' (arrOf st) (sa + na - 1)) (at' (arrOf st) i) := fun i a b => by
    have := n3 (i - (sa + na)) (by omega) (by omega)
    rw [show sa + na + (i - (sa + na)) = i by omega] at this
    exact this
  by_cases e1 : n = 0
  · rw [if_pos (by simpa using e1)]
    refine wpS_pure (fin _ (Array.Perm.refl _) rfl rfl rfl (fun _ _ => rfl) fun i j a b c => ?_)
    show le lt (at' (arrOf st) i) (at' (arrOf st) j)
    by_cases q1 : j < sa + na
    · exact g1 i j a b q1
    · by_cases q2 : i < sa + na
      · exact le_trans O (g1 i (sa + na - 1) a (by omega) (by omega)) (over j (by omega) c)
      · exact g2 i j (by omega) b c
  rw [if_neg (by simpa using e1)]
  -- the two pieces
  have tx : ((arrOf st).extract (sa + k) (sa + na)).toList = ((arrOf st).toList.drop (sa + k)).take (sa + na - (sa + k)) := ext_toList _ _
  have ty : ((arrOf st).extract (sa + na) (sa + na + n)).toList = ((arrOf st).toList.drop (sa + na)).take (sa + na + n - (sa + na)) := ext_toList _ _
  have zx : ((arrOf st).extract (sa + k) (sa + na)).size = na - k := by rw [Array.size_extract, size]; omega
  have zy : ((arrOf st).extract (sa + na) (sa + na + n)).size = n := by rw [Array.size_extract, size]; omega
  have mx : ∀ v ∈ ((arrOf st).extract (sa + k) (sa + na)).toList, ∃ i, sa + k ≤ i ∧ i < sa + na ∧ v = at' (arrOf st) i := fun v hv => by
    rw [tx] at hv
    obtain ⟨j, j1, j2, j3, e⟩ := mem_drop_take hv
    exact ⟨j, j1, by omega, e⟩
  have my : ∀ v ∈ ((arrOf st).extract (sa + na) (sa + na + n)).toList, ∃ i, sa + na ≤ i ∧ i < sa + na + n ∧ v = at' (arrOf st) i := fun v hv => by
    rw [ty] at hv
    obtain ⟨j, j1, j2, j3, e⟩ := mem_drop_take hv
    exact ⟨j, j1, by omega, e⟩
  have ux : Up lt ((arrOf st).extract (sa + k) (sa + na)).toList := by rw [tx]; exact sg_up fun i j a b c => g1 i j (by omega) b c
  have uy : Up lt ((arrOf st).extract (sa + na) (sa + na + n)).toList := by rw [ty]; exact sg_up fun i j a b c => g2 i j a b (by omega)
  have ax : at' ((arrOf st).extract (sa + k) (sa + na)) (((arrOf st).extract (sa + k) (sa + na)).size - 1) = at' (arrOf st) (sa + na - 1) := by
    refine at_congr ?_
    rw [zx, Array.getElem?_extract, if_pos (by rw [size]; omega)]
    congr 1; omega
  have ay : at' ((arrOf st).extract (sa + na) (sa + na + n)) 0 = at' (arrOf st) (sa + na) := by
    refine at_congr ?_
    rw [Array.getElem?_extract, if_pos (by rw [size]; omega)]
    rfl
  have hf : ∀ v ∈ ((arrOf st).extract (sa + k) (sa + na)).toList, lt (at' ((arrOf st).extract (sa + na) (sa + na + n)) 0) v = true := fun v hv => by
    obtain ⟨i, i1, i2, rfl⟩ := mx v hv
    rw [ay]; exact above i i1 i2
  have hl : ∀ v ∈ ((arrOf st).extract (sa + na) (sa + na + n)).toList, lt v (at' ((arrOf st).extract (sa + k) (sa + na)) (((arrOf st).extract (sa + k) (sa + na)).size - 1)) = true := fun v hv => by
    obtain ⟨i, i1, i2, rfl⟩ := my v hv
    rw [ax]; exact under i i1 i2
  have in1 : ∀ v ∈ ((arrOf st).extract (sa + k) (sa + na)).toList, v ∈ a₀.toList := fun v hv => by
    rw [tx] at hv; exact hmem v (List.mem_of_mem_drop (List.mem_of_mem_take hv))
  have in2 : ∀ v ∈ ((arrOf st).extract (sa + na) (sa + na + n)).toList, v ∈ a₀.toList := fun v hv => by
    rw [ty] at hv; exact hmem v (List.mem_of_mem_drop (List.mem_of_mem_take hv))
  -- behind the merge
  have back : ∀ (r : Array Keyed) (st1 : SortSt), Res lt ((arrOf st).extract (sa + k) (sa + na)) ((arrOf st).extract (sa + na) (sa + na + n)) r →
      kindOf st1 = kindOf st ∧ arrOf st1 = arrOf st ∧ pendingOf st1 = (l1 ++ (sa, na + nb, pw) :: l2).toArray ∧ failedOf st1 = failedOf st →
      Q true (SortSt.mk' (kindOf st1) (wr (sa + k) (arrOf st1) r.toList.zipIdx) (pendingOf st1) (gallopOf st1) (failedOf st1)) := by
    rintro r st1 ⟨r1, r2⟩ ⟨q1, q2, q3, q4⟩
    have rl : r.toList.length = na - k + n := by rw [r1.length_eq, List.length_append, Array.length_toList, Array.length_toList, zx, zy]
    have e := wr_list (sa + k) r.toList 0 (arrOf st) (by rw [size, rl]; omega)
    rw [Nat.add_zero, rl, show sa + k + (na - k + n) = sa + na + n by omega] at e
    have hxy : ((arrOf st).extract (sa + k) (sa + na)).toList ++ ((arrOf st).extract (sa + na) (sa + na + n)).toList = ((arrOf st).toList.drop (sa + k)).take (sa + na + n - (sa + k)) := by
      rw [tx, ty]; exact cut_cut (by omega) (by omega)
    have pm : (wr (sa + k) (arrOf st) r.toList.zipIdx).Perm (arrOf st) := by
      refine Array.perm_iff_toList_perm.mpr ?_
      rw [e]
      have := cut_all (l := (arrOf st).toList) (i := sa + k) (k := sa + na + n) (by omega)
      rw [← hxy] at this
      refine List.Perm.trans (List.Perm.append_left _ (List.Perm.append_right _ r1)) ?_
      rw [this]
    have lt1 : ((arrOf st).toList.take (sa + k)).length = sa + k := by simp; omega
    have get : ∀ i, (wr (sa + k) (arrOf st) r.toList.zipIdx)[i]? = if i < sa + k then (arrOf st)[i]? else if i < sa + na + n then r[i - (sa + k)]? else (arrOf st)[i]? := by
      intro i
      rw [← Array.getElem?_toList, e]
      by_cases z1 : i < sa + k
      · rw [if_pos z1, List.getElem?_append_left (by omega), List.getElem?_take_of_lt z1, Array.getElem?_toList]
      · rw [if_neg z1, List.getElem?_append_right (by omega), lt1]
        by_cases z2 : i < sa + na + n
        · rw [if_pos z2, List.getElem?_append_left (by omega), Array.getElem?_toList]
        · rw [if_neg z2, List.getElem?_append_right (by omega), rl, List.getElem?_drop, Array.getElem?_toList]
          congr 1; omega
    rw [q2]
    refine fin _ pm q1 q4 q3 (fun i hi => ?_) ?_
    · show (wr (sa + k) (arrOf st) r.toList.zipIdx)[i]? = _
      rw [get]
      rcases hi with z | z
      · rw [if_pos (by omega)]
      · rw [if_neg (by omega), if_neg (by omega)]
    · show SG lt (wr (sa + k) (arrOf st) r.toList.zipIdx) sa (sa + na + nb)
      have A1 : ∀ i, i < sa + k → at' (wr (sa + k) (arrOf st) r.toList.zipIdx) i = at' (arrOf st) i := fun i hi => at_congr (by rw [get, if_pos hi])
      have A2 : ∀ i, sa + k ≤ i → i < sa + na + n → at' (wr (sa + k) (arrOf st) r.toList.zipIdx) i = at' r (i - (sa + k)) := fun i h1 h2 => at_congr (by rw [get, if_neg (by omega), if_pos h2])
      have A3 : ∀ i, sa + na + n ≤ i → at' (wr (sa + k) (arrOf st) r.toList.zipIdx) i = at' (arrOf st) i := fun i hi => at_congr (by rw [get, if_neg (by omega), if_neg (by omega)])
      have rs : r.size = na - k + n := by rw [← Array.length_toList]; exact rl
      have RM : ∀ i, sa + k ≤ i → i < sa + na + n → ∃ m, sa + k ≤ m ∧ m < sa + na + n ∧ at' r (i - (sa + k)) = at' (arrOf st) m := fun i h1 h2 => by
        have := r1.mem_iff.mp (at_mem (xs := r) (i := i - (sa + k)) (by rw [rs]; omega))
        rcases List.mem_append.mp this with z | z
        · obtain ⟨m, m1, m2, e⟩ := mx _ z; exact ⟨m, m1, by omega, e⟩
        · obtain ⟨m, m1, m2, e⟩ := my _ z; exact ⟨m, by omega, m2, e⟩
      intro i j h1 hij hj
      by_cases i1 : i < sa + k
      · rw [A1 i i1]
        by_cases j1 : j < sa + k
        · rw [A1 j j1]; exact g1 i j h1 hij (by omega)
        · by_cases j2 : j < sa + na + n
          · rw [A2 j (by omega) j2]
            obtain ⟨m, m1, m2, em⟩ := RM j (by omega) j2
            rw [em]
            by_cases m3 : m < sa + na
            · exact g1 i m h1 (by omega) m3
            · exact le_trans O (below i h1 i1) (g2 (sa + na) m (Nat.le_refl _) (by omega) (by omega))
          · rw [A3 j (by omega)]
            exact le_trans O (below i h1 i1) (g2 (sa + na) j (Nat.le_refl _) (by omega) hj)
      · by_cases i2 : i < sa + na + n
        · rw [A2 i (by omega) i2]
          by_cases j2 : j < sa + na + n
          · rw [A2 j (by omega) j2]
            exact up_at O r2 (by omega) (by rw [rs]; omega)
          · rw [A3 j (by omega)]
            obtain ⟨m, m1, m2, em⟩ := RM i (by omega) i2
            rw [em]
            by_cases m3 : m < sa + na
            · exact le_trans O (g1 m (sa + na - 1) (by omega) (by omega) (by omega)) (over j (by omega) hj)
            · exact g2 m j (by omega) (by omega) hj
        · rw [A3 i (by omega), A3 j (by omega)]
          exact g2 i j (by omega) hij hj
  have ret : ∀ st2 : SortSt, failedOf st2 = none → Q true st2 → Q (failedOf st2).isNone st2 := fun st2 e q => by rw [e]; exact q
  refine wpS_ite (fun hc => ?_) (fun hc => ?_)
  · refine wpS_bind (mergeLo_wp O hA (by exact kind) in1 in2 ux uy (by rw [zx]; omega) (by rw [zy]; omega) hf hl fun r st1 hr q4 => ?_)
    refine wpS_bind (wpS_modify ?_)
    refine wpS_bind (wpS_get (wpS_pure ?_))
    exact ret _ (q4.2.2.2.trans failed) (back r st1 hr q4)
  · refine wpS_bind (mergeHi_wp O hA (by exact kind) in1 in2 ux uy (by rw [zx]; omega) (by rw [zy]; omega) hf hl fun r st1 hr q4 => ?_)
    refine wpS_bind (wpS_modify ?_)
    refine wpS_bind (wpS_get (wpS_pure ?_))
    exact ret _ (q4.2.2.2.trans failed) (back r st1 hr q4)
end
end TS

set_option linter.all false
set_option maxRecDepth 100000
namespace TS
open PySem PyProof.Rows
section
variable {prog : Program} {w : World} {A : Around} {E : Value → Shared → Prop} {s : Shared} {a₀ : Array Keyed} {κ : SortKind} {lt : Keyed → Keyed → Bool}
theorem PI.pre {st st' : SortSt} {l : List Run} {lo : Nat} (I : PI lt a₀ κ st l lo) (hB : SB a₀ κ l.toArray st') (hp : Pre (arrOf st) (arrOf st') lo) : PI lt a₀ κ st' l lo :=
  ⟨hB, I.ch, fun r hr => (I.sg r hr).same fun i _ h2 => hp i (by have := chain_mem I.ch r hr; omega)⟩
theorem PI.push {st st' : SortSt} {l : List Run} {lo n : Nat} (I : PI lt a₀ κ st l lo) (hn : 0 < n) (g : SG lt (arrOf st) lo (lo + n)) (e1 : arrOf st' = arrOf st) (e2 : kindOf st' = kindOf st) (e3 : failedOf st' = failedOf st) (e4 : pendingOf st' = (pendingOf st).push (lo, n, 0)) : PI lt a₀ κ st' (l ++ [(lo, n, 0)]) (lo + n) := by
  refine ⟨⟨by rw [e1]; exact I.sb.perm, e2.trans I.sb.kind, e3.trans I.sb.failed, by rw [e4, I.sb.pend]; simp⟩, chain_app.mpr ⟨lo, I.ch, rfl, hn, rfl⟩, fun r hr => ?_⟩
  rw [e1]
  rcases List.mem_append.mp hr with z | z
  · exact I.sg r z
  · rw [List.mem_singleton.mp z]; exact g
def fpw (pw : Nat) (x : Run) : Run := (x.1, x.2.1, pw)
theorem PI.pw {st : SortSt} {l : List Run} {lo : Nat} (I : PI lt a₀ κ st l lo) (i pw : Nat) : PI lt a₀ κ (SortSt.mk' (kindOf st) (arrOf st) ((pendingOf st).modify i (fpw pw)) (gallopOf st) (failedOf st)) (l.modify i (fpw pw)) lo := by
  have kf : keepF (fpw pw) := fun r => ⟨rfl, rfl⟩
  refine ⟨⟨I.sb.perm, I.sb.kind, I.sb.failed, ?_⟩, chain_mod kf I.ch, fun r hr => ?_⟩
  · show (pendingOf st).modify i (fpw pw) = _
    rw [I.sb.pend, List.modify_toArray]
  · obtain ⟨q, q1, q2, q3⟩ := mem_mod kf hr
    show SG lt (arrOf st) r.1 (r.1 + r.2.1)
    rw [q2, q3]; exact I.sg q q1
theorem runs_wp (O : Ord lt) (hA : Asks prog w A E s κ a₀ lt) {st : SortSt} {Q : Unit → SortSt → Prop} (hB : SB a₀ κ #[] st) (h2 : 2 ≤ a₀.size)
    (h : ∀ st', (arrOf st').Perm a₀ → failedOf st' = none → SG lt (arrOf st') 0 a₀.size → Q () st') : wpS (model prog w) A E s sortRuns' Q st := by
  unfold wpS
  show wpAny (model prog w) A (sortRuns' st) _ E s
  wp_delta
  wp_delta
  refine (show wpS (model prog w) A E s _ Q st from ?_)
  refine wpS_bind (wpS_get ?_)
  dsimp only
  have hz : ((sortPriv% PySem.Builtin.SortState.a) st).size = a₀.size := hB.size
  rw [hz]
  refine wpS_bind (wpS_mono (wpS_forRange (I := fun x c st' => ∃ lo l, c = (none, lo) ∧ PI lt a₀ κ st' l lo ∧ lo ≤ a₀.size ∧ x ≤ lo)
    (Q := fun c st' => ∃ l, c = (none, a₀.size) ∧ PI lt a₀ κ st' l a₀.size) ?step ?fin ⟨0, [], rfl, ⟨hB, rfl, fun r hr => absurd hr List.not_mem_nil⟩, Nat.zero_le _, Nat.le_refl _⟩) ?post)
  case fin =>
    rintro c st' ⟨lo, l, rfl, I, h3, h4⟩
    have : lo = a₀.size := by omega
    subst this
    exact ⟨l, rfl, I⟩
  case step =>
    rintro x c st1 _ hx ⟨lo, l, rfl, I, h3, h4⟩
    dsimp only
    by_cases hge : lo ≥ a₀.size
    · rw [if_pos hge]
      have : lo = a₀.size := by omega
      subst this
      exact wpS_pure ⟨l, rfl, I⟩
    rw [if_neg hge]
    refine wpS_bind (count_wp O hA (by omega) (by omega) I.sb fun k st2 hB2 hp2 k1 k2 hs2 => ?_)
    have I2 := I.pre hB2 hp2
    dsimp only
    clear I hB2 hp2
    refine wpS_ite (fun hlt => ?a) (fun hlt => ?b)
    case' a =>
      refine wpS_bind (wpS_lift (wpAny_rule ⟨rfl, ?_⟩))
      refine wpS_bind (bin_wp O hA (by omega) (by omega) I2.sb hs2 fun st3 hB3 hp3 hs3 => ?_)
      have I3 := I2.pre hB3 hp3
      rw [if_neg (show ¬ ((!true) = true) by decide)]
      have n1 : 1 ≤ min (a₀.size - lo) ((sortPriv% PySem.Builtin.minRun) a₀.size a₀.size 0) := by omega
      have n2 : lo + min (a₀.size - lo) ((sortPriv% PySem.Builtin.minRun) a₀.size a₀.size 0) ≤ a₀.size := by omega
      clear I2 hs2 hB3 hp3 hlt
      generalize min (a₀.size - lo) ((sortPriv% PySem.Builtin.minRun) a₀.size a₀.size 0) = n at hs3 n1 n2 ⊢
    case' b =>
      have I3 := I2
      have hs3 := hs2
      have n1 : 1 ≤ k := k1
      have n2 : lo + k ≤ a₀.size := by omega
      clear I2 hs2 hlt
      generalize k = n at hs3 n1 n2 ⊢
      generalize st2 = st3 at I3 hs3 ⊢
    all_goals
      refine wpS_bind (wpS_get ?_)
      cases hb : ((sortPriv% PySem.Builtin.SortState.pending) st3).back? with
      | none => exact wpS_bind (wpS_modify (wpS_pure ⟨_, _, rfl, I3.push (by omega) hs3 rfl rfl rfl rfl, by omega, by omega⟩))
      | some r0 =>
        obtain ⟨s1, m1, p1⟩ := r0
        dsimp only
        refine wpS_bind (wpS_mono (wpS_forRange (I := fun y c st' => c = (none, ()) ∧ ∃ l, PI lt a₀ κ st' l lo ∧ SG lt (arrOf st') lo (lo + n))
          (Q := fun c st' => c = (none, ()) ∧ ∃ l, PI lt a₀ κ st' l lo ∧ SG lt (arrOf st') lo (lo + n)) ?s1 (fun c st' z => z) ⟨rfl, l, I3, hs3⟩) ?p1)
        case p1 =>
          rintro c st4 ⟨rfl, l4, I4, g4⟩
          dsimp only
          refine wpS_bind (wpS_modify ?_)
          exact wpS_bind (wpS_modify (wpS_pure ⟨_, _, rfl, (I4.pw ((pendingOf st4).size - 1) ((sortPriv% PySem.Builtin.power) a₀.size (2 * s1 + m1) (2 * s1 + m1 + m1 + n) a₀.size)).push (by omega) g4 rfl rfl rfl rfl, by omega, by omega⟩))
        case s1 =>
          rintro y c st4 _ hy ⟨rfl, l4, I4, g4⟩
          refine wpS_bind (wpS_get ?_)
          have zp : ((sortPriv% PySem.Builtin.SortState.pending) st4) = l4.toArray := I4.sb.pend
          rw [zp]
          by_cases hp : l4.toArray.size > 1
          · rw [if_pos hp]
            have hp' : l4.length > 1 := by simpa using hp
            have : l4.toArray[l4.toArray.size - 2]? = some (l4[l4.length - 2]'(by omega)) := by
              rw [List.getElem?_toArray, List.size_toArray]
              exact List.getElem?_eq_getElem (by omega)
            rw [this]
            generalize l4[l4.length - 2]'(by omega) = r0
            obtain ⟨_, _, old⟩ := r0
            dsimp only
            refine wpS_ite (fun ho => ?_) (fun ho => ?_)
            · exact wpS_pure ⟨rfl, l4, I4, g4⟩
            · refine wpS_bind (mergeAt_wp O hA I4 (by omega) (by rw [List.size_toArray]; omega) fun st5 l5 I5 _ e5 => ?_)
              rw [if_neg (show ¬ ((!true) = true) by decide)]
              exact wpS_pure ⟨rfl, l5, I5, g4.same fun i i1 _ => e5 i i1⟩
          · rw [if_neg hp]
            exact wpS_pure ⟨rfl, l4, I4, g4⟩
  case post =>
    rintro c st1 ⟨l, rfl, I⟩
    dsimp only
    refine wpS_bind (wpS_mono (wpS_forRange (I := fun x c st' => c = (none, ()) ∧ ∃ l, PI lt a₀ κ st' l a₀.size ∧ (l.length ≤ 1 ∨ l.length + x ≤ a₀.size))
      (Q := fun c st' => c = (none, ()) ∧ ∃ l, PI lt a₀ κ st' l a₀.size ∧ l.length ≤ 1) ?s2 ?f2 ⟨rfl, l, I, .inr (by have := chain_len I.ch; omega)⟩) ?p2)
    case f2 =>
      rintro c st' ⟨rfl, l, I, z⟩
      exact ⟨rfl, l, I, by omega⟩
    case p2 =>
      rintro c st' ⟨rfl, l, I, z⟩
      dsimp only
      refine wpS_pure (h st' I.sb.perm I.sb.failed ?_)
      match l, I, z with
      | [], I, _ => have q : 0 = a₀.size := I.ch; omega
      | [r], I, _ =>
        obtain ⟨a, b, c⟩ := I.ch
        have c : 0 + r.2.1 = a₀.size := c
        have := I.sg r List.mem_cons_self
        rw [a] at this
        rw [c] at this
        exact this
      | _ :: _ :: _, _, z => simp at z
    case s2 =>
      rintro x c st' _ hx ⟨rfl, l, I, z⟩
      refine wpS_bind (wpS_get ?_)
      have zp : ((sortPriv% PySem.Builtin.SortState.pending) st') = l.toArray := I.sb.pend
      rw [zp]
      by_cases hp : l.toArray.size ≤ 1
      · rw [if_pos hp]
        exact wpS_pure ⟨rfl, l, I, by simpa using hp⟩
      rw [if_neg hp]
      have hp' : ¬ l.length ≤ 1 := by simpa using hp
      refine wpS_bind (mergeAt_wp O hA I (Nat.le_refl _) ?_ fun st5 l5 I5 e5 _ => ?_)
      · have : ∀ (c : Prop) [Decidable c], (if c then l.toArray.size - 2 - 1 else l.toArray.size - 2) + 1 < l.length := fun c _ => by
          rw [List.size_toArray]
          split <;> omega
        exact this _
      · rw [if_neg (show ¬ ((!true) = true) by decide)]
        exact wpS_pure ⟨rfl, l5, I5, by omega⟩
end
end TS


set_option linter.all false
set_option maxRecDepth 100000
/-! ### webs in order -/
namespace TW
open PySem PySem.Spec PyProof.Rows DL DWK SE
def lexT : List (List Int) → List (List Int) → Bool
  | [], [] => false
  | [], _ :: _ => true
  | _ :: _, [] => false
  | x :: xs, y :: ys => if x = y then lexT xs ys else HT.lexLt x y
theorem lexT_cons (x y : List Int) (xs ys : List (List Int)) : lexT (x :: xs) (y :: ys) = if x = y then lexT xs ys else HT.lexLt x y := rfl
theorem lexT_irr : ∀ a, lexT a a = false
  | [] => rfl
  | x :: xs => by rw [lexT_cons, if_pos rfl]; exact lexT_irr xs
theorem lexT_tr : ∀ a b c, lexT a b = true → lexT b c = true → lexT a c = true
  | _, [], [], _, h => by simp [lexT] at h
  | [], _ :: _, _ :: _, _, _ => rfl
  | [], _ :: _, [], _, h => by simp [lexT] at h
  | _ :: _, [], _ :: _, h, _ => by simp [lexT] at h
  | [], [], _ :: _, h, _ => rfl
  | _ :: _, _ :: _, [], _, h => by simp [lexT] at h
  | x :: xs, y :: ys, z :: zs, h1, h2 => by
    rw [lexT_cons] at h1 h2 ⊢
    by_cases e1 : x = y
    · subst e1
      rw [if_pos rfl] at h1
      by_cases e2 : x = z
      · subst e2
        rw [if_pos rfl] at h2 ⊢
        exact lexT_tr xs ys zs h1 h2
      · rw [if_neg e2] at h2 ⊢; exact h2
    · rw [if_neg e1] at h1
      by_cases e2 : y = z
      · subst e2
        rw [if_neg e1]; exact h1
      · rw [if_neg e2] at h2
        have := SE.lex_tr _ _ _ h1 h2
        rw [if_neg (fun q => by rw [q, SE.lex_irr] at this; cases this)]
        exact this
theorem lexT_total : ∀ a b, lexT a b = false → lexT b a = false → a = b
  | [], [], _, _ => rfl
  | [], _ :: _, h, _ => by simp [lexT] at h
  | _ :: _, [], _, h => by simp [lexT] at h
  | x :: xs, y :: ys, h1, h2 => by
    rw [lexT_cons] at h1 h2
    by_cases e : x = y
    · subst e
      rw [if_pos rfl] at h1 h2
      rw [lexT_total xs ys h1 h2]
    · rw [if_neg e] at h1
      rw [if_neg (Ne.symm e)] at h2
      exact absurd (SE.lex_total _ _ h1 h2) e
def wlt (a b : WK) : Bool := if a.1 = b.1 then lexT a.2 b.2 else decide (a.1 < b.1)
theorem wlt_irr (a : WK) : wlt a a = false := by unfold wlt; rw [if_pos rfl]; exact lexT_irr _
theorem wlt_tr (a b c : WK) (h1 : wlt a b = true) (h2 : wlt b c = true) : wlt a c = true := by
  unfold wlt at *
  by_cases e1 : a.1 = b.1
  · rw [if_pos e1] at h1
    by_cases e2 : b.1 = c.1
    · rw [if_pos e2] at h2
      rw [if_pos (e1.trans e2)]
      exact lexT_tr _ _ _ h1 h2
    · rw [if_neg e2] at h2
      rw [if_neg (by rw [e1]; exact e2), e1]; exact h2
  · rw [if_neg e1] at h1
    by_cases e2 : b.1 = c.1
    · rw [if_neg (by rw [← e2]; exact e1), ← e2]; exact h1
    · rw [if_neg e2] at h2
      have l1 := of_decide_eq_true h1
      have l2 := of_decide_eq_true h2
      rw [if_neg (by omega)]
      exact decide_eq_true (by omega)
theorem wlt_total (a b : WK) (h1 : wlt a b = false) (h2 : wlt b a = false) : a = b := by
  unfold wlt at *
  by_cases e1 : a.1 = b.1
  · rw [if_pos e1] at h1
    rw [if_pos e1.symm] at h2
    exact Prod.ext e1 (lexT_total _ _ h1 h2)
  · rw [if_neg e1] at h1
    rw [if_neg (Ne.symm e1)] at h2
    have l1 := of_decide_eq_false h1
    have l2 := of_decide_eq_false h2
    omega
/-! #### the machine's side -/
theorem eqv_ints : ∀ a b : List Int, PyData.eqv (dT a) (dT b) = decide (a = b) := by
  intro a b
  have key : ∀ a b : List Int, PyData.eqvAll (a.map .int) (b.map .int) = decide (a = b) := by
    intro a
    induction a with
    | nil => intro b; cases b <;> simp [PyData.eqvAll]
    | cons x a ih =>
      intro b
      cases b with
      | nil => simp [PyData.eqvAll]
      | cons y b => simp [PyData.eqvAll, PyData.eqv, ih, Bool.decide_and]; rfl
  unfold dT
  rw [PyData.eqv, key]
theorem reads_ints {h : Heap} : ∀ {vs : List Value} {ns : List Int} {as : List Addr}, ReadsAll h vs (ns.map .int) as → IntsAre vs ns
  | _, [], _, x => by cases x; exact .nil
  | _, n :: ns, _, x => by
    cases x with
    | cons x1 x2 =>
      cases x1
      exact .cons _ _ (reads_ints x2)
theorem lenR {h : Heap} : ∀ {vs : List Value} {ds : List PyData} {as : List Addr}, ReadsAll h vs ds as → vs.length = ds.length
  | _, [], _, x => by cases x; rfl
  | _, d :: ds, _, x => by
    cases x with
    | cons x1 x2 => simp [lenR x2]
section
open PySem.SeqAt
open PySem.AutoSeq1 (wpAny_loadPart')
open PySem.MeetsSeq PySem.MeetsSeq2 PySem.MeetsSeq3
theorem rc_flat {prog : Program} {w : World} {A : Around} {E : Value → Shared → Prop} {s : Shared} {x y : Value} {a b : List Int} {as bs : List Addr} {Q : Value → Shared → Prop} (rx : Reads s.heap x (dT a) as) (ry : Reads s.heap y (dT b) bs) (hu : A.units < cLine) (h : Q (.bool (HT.lexLt a b)) s) : wpAny (model prog w) A (richCompare .Lt x y) Q E s := by
  unfold dT at rx ry
  cases rx with
  | tuple h1 h2 h3 h4 =>
    cases ry with
    | tuple g1 g2 g3 g4 =>
      exact HT.lt_tupInts ⟨_, h1, h2, _, h3⟩ ⟨_, g1, g2, _, g3⟩ (reads_ints h4) (reads_ints g4) hu h
theorem ties_lt (l b : Addr) (items items2 : Array Value) (n n2 : Nat) (dd dd2 : Option Addr) (sl sl2 : Array (Option Value)) (us vs : List (List Int)) (k1 k2 : List Addr) :
    Meets (Builtin.«tuple.__lt__» ⟨[.ref l, .ref b], []⟩)
      (fun A R s => A.units + 8 < cLine ∧ ReadsAll s.heap items.toList (us.map dT) k1 ∧ ReadsAll s.heap items2.toList (vs.map dT) k2 ∧ s.heap.get? l = some { cls := .type "tuple", dict := dd, data := .seq items n, slots := sl } ∧
        s.heap.get? b = some { cls := .type "tuple", dict := dd2, data := .seq items2 n2, slots := sl2 } ∧ R (.ok (.ret (.bool (lexT us vs)))) s) :=
  .of_wp fun prog w A R s h => by
    obtain ⟨hp, g, d, tk, os⟩ := s
    obtain ⟨hu, r1, r2, hl, hb, h⟩ := h
    have f2 := AutoSeq1.sub_tuple_tuple
    have z1 : items.size = us.length := by have := lenR r1; simpa using this
    have z2 : items2.size = vs.length := by have := lenR r2; simpa using this
    have hu1 : A.in1.units + 4 < cLine := by rw [Around.in1_units]; omega
    wp_walk using wpAny_loadPart' hl, wpAny_loadPart' hb, wpAny_forIn_list _ (fun rest b s' => b.1 = none ∧ s' = ⟨hp, g, d, tk, os⟩ ∧ ∃ (ps qs : List Value) (us' vs' : List (List Int)) (c1 c2 : List Addr), rest = ps.zip qs ∧
      ReadsAll hp ps (us'.map dT) c1 ∧ ReadsAll hp qs (vs'.map dT) c2 ∧ us'.length + items2.size = vs'.length + items.size ∧ R (.ok (.ret (.bool (lexT us' vs')))) ⟨hp, g, d, tk, os⟩) _
    case turn =>
      rintro ⟨y, x⟩ rest b s' ⟨hb', rfl, ps, qs, us', vs', c1, c2, hz, p1, p2, hlen, hR⟩
      match us', vs', p1, p2 with
      | [], _, p1, _ => cases p1; rw [List.zip_nil_left] at hz; cases hz
      | _ :: _, [], _, p2 => cases p2; rw [List.zip_nil_right] at hz; cases hz
      | u :: us1, v :: vs1, w1, w2 =>
        cases w1 with
        | cons e1 q1 =>
          cases w2 with
          | cons e2 q2 =>
            rw [List.zip_cons_cons] at hz
            injection hz with hyx hrest
            injection hyx with hy hx
            subst hy hx
            rw [lexT_cons] at hR
            simp only [List.length_cons] at hlen
            have dp : ∀ t : List Int, (dT t).depth ≤ 1 := depth_ints
            have d1 := dp u
            have d2 := dp v
            refine wpAny_bind (SeqAt.eqBoolOverData prog w A.in1 _ ⟨hp, g, d, tk, os⟩ _ _ _ _ _ _ _ e1 e2 (canK _ (isK_ints u)) (canK _ (isK_ints v)) (by omega) ?_)
            rw [eqv_ints]
            by_cases e : u = v
            · rw [if_pos e] at hR
              rw [decide_eq_true e]
              wp_walk
              exact ⟨rfl, rfl, _, _, _, _, _, _, hrest, q1, q2, by omega, hR⟩
            · rw [if_neg e] at hR
              rw [decide_eq_false e]
              have hri := fun (E : Value → Shared → Prop) (Q : Value → Shared → Prop) (h : Q (.bool (HT.lexLt u v)) ⟨hp, g, d, tk, os⟩) => rc_flat (prog := prog) (w := w) (A := A.in1) (E := E) (s := ⟨hp, g, d, tk, os⟩) (Q := Q) e1 e2 (by omega) h
              wp_walk using hri
              exact ⟨_, rfl, by simpa using hR⟩
    case fin =>
      rintro ⟨b1, b2⟩ s' ⟨hb', rfl, ps, qs, us', vs', c1, c2, hz, p1, p2, hlen, hR⟩
      simp only at hb'
      subst hb'
      have hv : lexT us' vs' = decide (items.size < items2.size) := by
        match us', vs', p1, p2 with
        | [], [], _, _ =>
          simp only [List.length_nil] at hlen
          exact (decide_eq_false (by omega)).symm
        | [], _ :: _, _, _ =>
          simp only [List.length_nil, List.length_cons] at hlen
          exact (decide_eq_true (by omega)).symm
        | _ :: _, [], _, _ =>
          simp only [List.length_nil, List.length_cons] at hlen
          exact (decide_eq_false (by omega)).symm
        | _ :: _, _ :: _, p1, p2 =>
          cases p1 with
          | cons p1 q1 =>
            cases p2 with
            | cons p2 q2 =>
              rw [List.zip_cons_cons] at hz
              cases hz
      rw [hv] at hR
      wp_walk
      exact ⟨_, rfl, by simpa [Builtin.Tuple.tupleCompareSizes] using hR⟩
    case h =>
      exact ⟨rfl, rfl, items.toList, items2.toList, us, vs, _, _, rfl, r1, r2, by omega, h⟩
end
section
variable {prog : Program} {w : World} {A : Around} {E : Value → Shared → Prop} {s : Shared}
theorem lt_ties {x y : Value} {us vs : List (List Int)} {as bs : List Addr} {Q : Value → Shared → Prop} (rx : Reads s.heap x (.tuple (us.map dT)) as) (ry : Reads s.heap y (.tuple (vs.map dT)) bs) (hu : A.units + 8 < cLine) (h : Q (.bool (lexT us vs)) s) : wpAny (model prog w) A (compareOp .Lt x y) Q E s := by
  cases rx with
  | @tuple l o items n _ _ h1 h2 h3 h4 =>
    cases ry with
    | @tuple b o2 items2 n2 _ _ g1 g2 g3 g4 =>
      obtain ⟨cls, dd, data, sl⟩ := o
      obtain ⟨cls2, dd2, data2, sl2⟩ := o2
      simp only at h2 h3 g2 g3
      subst h2 h3 g2 g3
      exact richCompare_meets_room (op := .Lt) ⟨_, h1, rfl⟩ ⟨_, g1, rfl⟩ PySem.F.slot_tuple_lt PySem.F.entry_tuple_lt (PySem.F.args_tuple_lt_2 _ _) (ties_lt l b items items2 n n2 dd dd2 sl sl2 us vs as bs)
        ⟨hu, h4, g4, h1, g1, show Value.bool (lexT us vs) ≠ Value.notImplemented ∧ Q (.bool (lexT us vs)) s from ⟨(fun x => nomatch x), h⟩⟩ (by omega)
theorem web_lt {x y : Value} {a b : WK} {as bs : List Addr} {Q : Bool → Shared → Prop} (rx : Reads s.heap x (wD a) as) (ry : Reads s.heap y (wD b) bs) (hu : A.units + 8 < cLine) (h : Q (wlt a b) s) : wpAny (model prog w) A (keyLt' (tuples' true) x y) Q E s := by
  unfold wD at rx ry
  cases rx with
  | @tuple l o items n _ _ h1 h2 h3 h4 =>
    cases ry with
    | @tuple l2 o2 items2 n2 _ _ g1 g2 g3 g4 =>
      have z1 : items.size = 2 := by have := lenR h4; simpa using this
      have z2 : items2.size = 2 := by have := lenR g4; simpa using this
      refine PySem.W.kat_lt h1 h3 g1 g3 ?_
      rw [z1, z2]
      generalize items.toList = its at h4 ⊢
      generalize items2.toList = its2 at g4 ⊢
      cases h4 with
      | cons p1 h4 =>
      cases h4 with
      | cons p2 h4 =>
      cases h4
      cases g4 with
      | cons q1 g4 =>
      cases g4 with
      | cons q2 g4 =>
      cases g4
      cases p1
      cases q1
      refine PySem.W.kat_cons (wpAny_eqBool_int ?_)
      unfold wlt at h
      by_cases e : a.1 = b.1
      · rw [if_pos e] at h
        rw [show (a.1 == b.1) = true by simpa using e]
        have dp : ∀ t : List (List Int), (PyData.tuple (t.map fun t => .tuple (t.map .int))).depth ≤ 2 := fun t => by
          have := depth_w (0, t)
          unfold wD at this
          simp only [PyData.depth, PyData.depthAll] at this ⊢
          omega
        have i1 : ∀ t : List (List Int), isK (PyData.tuple (t.map fun t => .tuple (t.map .int))) = true := fun t => by rw [isK]; exact isKs_map isK_ints t
        have d1 := dp a.2
        have d2 := dp b.2
        refine PySem.W.kat_yes (PySem.W.kat_cons (SeqAt.eqBoolOverData prog w A _ s _ _ _ _ _ _ _ p2 q2 (canK _ (i1 _)) (canK _ (i1 _)) (by omega) ?_))
        have ev : PyData.eqv (.tuple (a.2.map fun t => .tuple (t.map .int))) (.tuple (b.2.map fun t => .tuple (t.map .int))) = decide (a.2 = b.2) := by
          have := eqv_w (0, a.2) (0, b.2)
          unfold wD at this
          simp only [PyData.eqv, PyData.eqvAll] at this ⊢
          simpa using this
        rw [ev]
        by_cases e2 : a.2 = b.2
        · rw [decide_eq_true e2]
          refine PySem.W.kat_yes (PySem.W.kat_nil ?_)
          rw [e2, lexT_irr] at h
          exact h
        · rw [decide_eq_false e2]
          refine PySem.W.kat_no ?_
          exact PySem.W.kat_one _ _ (lt_ties p2 q2 hu h)
      · rw [if_neg e] at h
        rw [show (a.1 == b.1) = false by simpa using e]
        refine PySem.W.kat_no ?_
        exact oneLt_int h
end
end TW

set_option linter.all false
set_option maxRecDepth 100000
/-! ### walking a dict whose keys are webs -/
namespace TW
open PySem PySem.Spec PyProof.Rows DL DWK SE
section
variable {prog : Program} {w : World} {A : Around} {E : Value → Shared → Prop} {s : Shared} {d it : Addr} {es : Array DictEntry} {ep i : Nat}
end
end TW

set_option linter.all false
set_option maxRecDepth 100000
/-! ### webs sorted, as many as there are -/
namespace TW
open PySem PySem.Spec PyProof.Rows DL DWK SE
mutual
theorem reads_tups {h h' : Heap} (k : SE.TupsK h h') : ∀ (d : PyData) (v : Value) (as : List Addr), isK d = true → Reads h v d as → Reads h' v d as
  | .int i, v, as, _, x => by cases x; exact .int _ _
  | .tuple ds, v, as, hk, x => by
    cases x with
    | tuple hg hc hda hr => exact .tuple (k _ _ hg hc) hc hda (readsAll_tups k ds _ _ (by simpa [isK] using hk) hr)
  | .none, _, _, hk, _ | .bool _, _, _, hk, _ | .str _, _, _, hk, _ | .list _, _, _, hk, _ | .dict _, _, _, hk, _ => by simp [isK] at hk
theorem readsAll_tups {h h' : Heap} (k : SE.TupsK h h') : ∀ (ds : List PyData) (vs : List Value) (as : List Addr), isKs ds = true → ReadsAll h vs ds as → ReadsAll h' vs ds as
  | [], _, _, _, x => by cases x; exact .nil
  | d :: ds, _, _, hk, x => by
    have hk' : isK d = true ∧ isKs ds = true := by simpa [isKs] using hk
    cases x with
    | cons x1 x2 => exact .cons (reads_tups k d _ _ hk'.1 x1) (readsAll_tups k ds _ _ hk'.2 x2)
end
def WRd (h : Heap) (v : Value) (k : WK) : Prop := ∃ as, Reads h v (wD k) as
open Classical in
abbrev WRds (h : Heap) (vs : List Value) (ks : List WK) : Prop := Paired (WRd h) vs ks
section
variable {prog : Program} {w : World} {A : Around} {E : Value → Shared → Prop} {s : Shared}
theorem web_kind {vs : List Value} {ks : List WK} (hk : WRds s.heap vs ks) (hne : 0 < vs.length) {Q : SortKind → Shared → Prop} (h : Q (tuples' true) s) : wpAny (model prog w) A (keyKind' vs.toArray) Q E s := by
  have firsts : ∀ {vs : List Value} {ks : List WK}, WRds s.heap vs ks → ∃ fs : List Value, PySem.W.KatTups s.heap vs fs ∧ fs.length = vs.length ∧ ∀ v ∈ fs, ∃ n t, v = Value.int n t := by
    intro vs ks hk
    induction hk with
    | nil => exact ⟨[], PySem.W.KatTups.nil, rfl, fun v hv => nomatch hv⟩
    | cons a _ ih =>
      obtain ⟨fs, h1, h2, h3⟩ := ih
      obtain ⟨as, a⟩ := a
      unfold wD at a
      cases a with
      | @tuple ad o it n _ _ ho hc hd hi =>
        obtain ⟨items⟩ := it
        dsimp only at hi
        cases hi with
        | cons x1 x2 =>
          cases x1 with
          | int m t =>
            refine ⟨_ :: fs, PySem.W.KatTups.cons ho hc hd rfl h1, by simp [h2], fun v hv => ?_⟩
            rcases List.mem_cons.mp hv with rfl | hv
            · exact ⟨_, t, rfl⟩
            · exact h3 v hv
  obtain ⟨fs, h1, h2, h3⟩ := firsts hk
  refine PySem.W.kat_kind (T := .type "int") h1 (by omega) (fun v hv => ?_) (by decide) h
  obtain ⟨n, t, rfl⟩ := h3 v hv
  exact PySem.W.Looks.of_pure rfl
end
end TW

set_option linter.all false
set_option maxRecDepth 100000
/-! ### sorted(d), the keys of d being webs -/
namespace DL
open PySem PySem.Spec PyProof.Rows L2 DWK
theorem wkOf_self (k : WK) : wkOf (wD k) = some k := by
  unfold wD wkOf
  simp only [show (k.2.map fun t => PyData.tuple (t.map .int)) = k.2.map dT from rfl, tupsD_map]
  rfl
section
variable {X : Cx}
end
section
variable {X : Cx} {e : Expr} {fr : FA} {p pos : Pos}
end
end DL

set_option linter.all false
set_option maxRecDepth 100000
/-! ### all that are alike, sorted -/
namespace DL
open PySem PySem.Spec L2
end DL

set_option linter.all false
set_option maxRecDepth 100000
/-! ### least rows are least; no row need be long -/
namespace DL
open PySem PySem.Spec L2
section
variable {m : Nat} {t0 : TL}
end
end DL

set_option linter.all false
set_option maxRecDepth 100000
/-! ### ways between alike webs; the alike webs of a web under other names -/
namespace DL
open PySem PySem.Spec L2
section
variable {m : Nat} {t u : TL}
/-! #### other names -/
variable {o : List Int}
end
end DL

set_option linter.all false
set_option maxRecDepth 100000
/-! ### pairs of a whole number and a tuple of whole numbers, sorted -/
namespace TW
open PySem PySem.Spec PyProof.Rows DL DWK SE
section
variable {prog : Program} {w : World} {A : Around} {E : Value → Shared → Prop} {s : Shared}
end
open Classical in
section
variable {prog : Program} {w : World} {A : Around} {E : Value → Shared → Prop} {s : Shared}
end
end TW

set_option linter.all false
set_option maxRecDepth 100000
/-! ### max(t, default=d) -/
namespace MX
open PySem PySem.Spec PyProof.Rows
section
variable {prog : Program} {w : World} {A : Around} {E : Value → Shared → Prop} {R : Result → Shared → Prop} {I : Addr} {fp wr : List Addr} {n : Nat} {P : Nat → Value → Prop} {St : Nat → Heap → Prop}
end
section
variable {prog : Program} {w : World} {A : Around} {E : Value → Shared → Prop} {s : Shared} {l : Addr} {xs : Array (Int × Tok)}
end
end MX

set_option linter.all false
set_option maxRecDepth 100000
namespace DL
open PySem PySem.Spec PyProof.Rows L2
section
variable {X : Cx} {e v : Expr} {te tv : TE} {fe fv : FE} {p pos kp : Pos}
end
end DL

set_option linter.all false
set_option maxRecDepth 100000
/-! ### max(xs), abs(i), xs.count(i) -/
namespace L2
open PySem PySem.Spec PyProof.Rows
section
variable {X : Cx}
end
end L2
namespace DL
open PySem PySem.Spec PyProof.Rows L2
variable {K : PySem.W.Frag}
section
variable {X : Cx} {o e : Expr} {fo fe : FE} {fr : FA} {p pos apos cpos : Pos}
end
end DL

set_option linter.all false
set_option maxRecDepth 100000
/-! ### sorted([(n, t) ..]); >> -/
namespace DL
open PySem PySem.Spec PyProof.Rows L2 DWK
section
variable {X : Cx}
end
section
variable {X : Cx} {e a b : Expr} {fr : FA} {fa fb : FE} {p pos : Pos}
def gShr : Bxs → DV → DV → Option DV := gI (fun _ j => decide (0 ≤ j)) fun i j => .int (i / 2 ^ j.toNat)
theorem e_shr (ha : DE X a fa) (hb : DE X b fb) : DE X (.BinOp a .RShift b pos) (fOp2 gShr fa fb) := de_bin op_shr (op2_int (fun i j h => by
  simp only [decide_eq_true_eq] at h
  exact h) fun _ _ _ _ => .int _) ha hb
end
end DL

set_option linter.all false
set_option maxRecDepth 100000
/-! ### xs.extend(a list that is data) -/
namespace L2
open PySem PySem.Spec PyProof.Rows
section
variable {X : Cx}
end
end L2
namespace DL
open PySem PySem.Spec L2
section
variable {X : Cx} {o e : Expr} {fo : FE} {fr : FA} {apos cpos : Pos}
end
end DL

set_option linter.all false
set_option maxRecDepth 100000
/-! all sides, their ranks: the defs, as functions of data -/
namespace DL
open PySem PySem.Spec L2
end DL

set_option linter.all false
set_option maxRecDepth 100000
namespace DL
open PySem PySem.Spec L2
namespace RK
section
variable {m : Nat} {ties : List (List Int)} {sd : List Int}
end
end RK
end DL

set_option linter.all false
set_option maxRecDepth 100000
/-! ### all sides, level by level -/
namespace DL
open PySem PySem.Spec L2
end DL

set_option linter.all false
set_option maxRecDepth 100000
namespace DL
open PySem PySem.Spec L2
/-! ranks -/
section
variable {m : Nat} {t : TL}
end
end DL

set_option linter.all false
set_option maxRecDepth 100000
namespace DL
open PySem PySem.Spec L2
end DL

set_option linter.all false
set_option maxRecDepth 100000
/-! ### sum(a tuple of whole numbers) -/
namespace L2
open PySem PySem.Spec PyProof.Rows
section
variable {prog : Program} {w : World} {A : Around} {E : Value → Shared → Prop} {s : Shared} {l : Addr} {xs : Array (Int × Tok)}
end
section
variable {X : Cx}
end
end L2
namespace DL
open PySem PySem.Spec PyProof.Rows L2
variable {K : PySem.W.Frag}
section
variable {X : Cx} {e : Expr} {fr : FA} {p pos : Pos}
end
end DL

set_option linter.all false
set_option maxRecDepth 100000
/-! ### ranks by spans -/
namespace DL
open PySem PySem.Spec L2
section
variable {t : TL} {sd : List Int}
end
end DL

set_option linter.all false
set_option maxRecDepth 100000
/-! ### rows as bits; rows mapped -/
namespace DL
open PySem PySem.Spec L2
end DL

set_option linter.all false
set_option maxRecDepth 100000
/-! ### one place more -/
namespace DL
open PySem PySem.Spec L2
section
variable {m : Nat} {t : TL} {sd sd' : List Int}
end
end DL

set_option linter.all false
set_option maxRecDepth 100000
/-! ### the rank of the rest -/
namespace DL
open PySem PySem.Spec L2
section
variable {m : Nat} {t : TL} {sd re : List Int}
end
end DL

set_option linter.all false
set_option maxRecDepth 100000
/-! ### ranks stay under turns -/
namespace DL
open PySem PySem.Spec L2
section
variable {m : Nat} {t : TL} {sd : List Int}
end
end DL

set_option linter.all false
set_option maxRecDepth 100000
/-! ### the counts sum up -/
namespace DL
open PySem PySem.Spec L2
end DL

set_option linter.all false
set_option maxRecDepth 100000
namespace DL
open PySem PySem.Spec L2
namespace RC
section
variable {m : Nat} {t : TL}
end
end RC
end DL

set_option linter.all false
set_option maxRecDepth 100000
/-! ### rank 0: the side holds whole pieces -/
namespace DL
open PySem PySem.Spec L2
end DL

set_option linter.all false
set_option maxRecDepth 100000
/-! ### how many sides have rank 0 -/
namespace DL
open PySem PySem.Spec L2
section
variable {m : Nat} {t : TL} {sd : List Int}
end
end DL

set_option linter.all false
set_option maxRecDepth 100000
/-! ### the first side that tells two webs apart -/
namespace DL
open PySem PySem.Spec L2
section
variable {m : Nat} {t u : TL}
end
end DL

set_option linter.all false
set_option maxRecDepth 100000
/-! ### refusals: an error that is under way, and the frames that it leaves -/
namespace XR
open PySem PySem.Spec L2
/-- an error with its trace -/
def Fly (h : Heap) (e T : Addr) (cls : Value) : Prop :=
  ∃ oe vs oT ts, h.get? e = some oe ∧ oe.cls = cls ∧ oe.dict = none ∧ oe.data = .fields vs ∧ vs[1]? = some (.ref T) ∧ T ≠ e ∧ h.get? T = some oT ∧ oT.data = .fields ts ∧ ts[3]? = some .none
/-- an error just made, or one with its trace -/
def Err (h : Heap) (e : Addr) (cls : Value) : Prop := (∃ oe vs, h.get? e = some oe ∧ oe.cls = cls ∧ oe.dict = none ∧ oe.data = .fields vs ∧ vs[1]? = some .none) ∨ ∃ T, Fly h e T cls
/-- behind a frame that was left -/
structure Lv (l : List Env) (e : Addr) (cls : Value) (h h' : Heap) (T : Addr) : Prop where
  keep : ∀ b o, h.get? b = some o → b ∉ frs l → b ≠ e → h'.get? b = some o
  slot : ∀ b o, h.get? b = some o → b ∈ frs l → ∃ sl, h'.get? b = some { o with slots := sl }
  there : ∀ b o, h.get? b = some o → ∃ o', h'.get? b = some o'
  fly : Fly h' e T cls
  new : h.get? T = none
section
variable {M : Model} {A : Around} {E : Value → Shared → Prop} {s : Shared} {env : Env} {outer : List Env} {L e : Addr} {cls : Value} {B : Heap} {Q : Unit → Shared → Prop}
theorem mapF {o : Obj} {vs : Array Value} (h : o.data = .fields vs) (f : Array Value → Array Value) : o.mapFields f = { o with data := .fields (f vs) } := by
  obtain ⟨c, d, da, sl⟩ := o
  dsimp only at h
  subst h
  rfl
theorem entry {oe : Obj} {vs : Array Value} {hd : Value} {b : Bool} (hfr : A.frames = some (env :: outer)) (hl : s.heap.FunFrames B (env :: outer)) (hf : env.frame = some L) (he : s.heap.get? e = some oe) (hc : oe.cls = cls) (hdn : oe.dict = none) (hv : oe.data = .fields vs) (h1 : 1 < vs.size)
    (k : ∀ h' T, Lv (env :: outer) e cls s.heap h' T → Q () { s with heap := h' }) :
    wpAny M A (do
      let a ← PySem.frameOf env
      let pl ← entryPlaceOf L b
      let t ← EntryCells.newEntry hd a Value.none (rawInt L) Value.none pl
      setField (.ref e) 1 t) (fun _ s' => wpAny M A (setFlight (.ref e) none) Q E s') E s := by
  have nfe : e ∉ frs (env :: outer) := fun z => by
    obtain ⟨_, o, ho, hn⟩ := hl.mem z
    rw [he] at ho; cases ho
    exact hn _ hv
  refine wpAny_bind (wpAny_frameOf_fun hfr hl hf fun h1' so => ?_)
  refine wpAny_bind (wpAny_entryPlaceOf fun pl hp => ?_)
  refine wpAny_bind ?_
  have hs : ¬ ([hd, .ref L, Value.none, rawInt L, Value.none] ++ if pl.isEmpty = true then List.replicate 6 Value.none else pl).toArray.size > sizeLine + 2 := by
    have h6 : (9 : Nat) ≤ sizeLine := by decide
    rcases hp with rfl | ⟨a, b, c, d, c9, b10, _, rfl⟩
    · simp; exact h6
    · simp; exact h6
  show wpAny M A (if ([hd, .ref L, Value.none, rawInt L, Value.none] ++ if pl.isEmpty = true then List.replicate 6 Value.none else pl).toArray.size > sizeLine + 2 then _ else newObjAsIs _ _) _ _ _
  rw [if_neg hs]
  unfold newObjAsIs
  refine wpAny_bind (wpAny_alloc ?_)
  refine wpAny_pure ?_
  obtain ⟨sz, so1, so2⟩ := so
  have he1 : h1'.get? e = some oe := (so1 e nfe).trans he
  have hlt := Heap.lt_size he1
  generalize hT : ({ cls := .type "traceback", data := .fields ([hd, .ref L, Value.none, rawInt L, Value.none] ++ if pl.isEmpty = true then List.replicate 6 Value.none else pl).toArray } : Obj) = oT
  have hTd : oT.data = .fields ([hd, .ref L, Value.none, rawInt L, Value.none] ++ if pl.isEmpty = true then List.replicate 6 Value.none else pl).toArray := by rw [← hT]
  have hTf : oT.isFreed = false := by rw [← hT]; rfl
  have he2 : (h1'.push oT).get? e = some oe := Heap.get?_push_of_some _ he1
  refine wpAny_setField he2 hv h1 ?_
  have ne : e ≠ h1'.objs.size := Nat.ne_of_lt hlt
  have e3 : ((h1'.push oT).update e (Obj.mapFields fun x => x.setIfInBounds 1 (.ref h1'.objs.size))).get? e = some (oe.mapFields fun x => x.setIfInBounds 1 (.ref h1'.objs.size)) := Heap.get?_update_self _ he2 (by rw [mapF hv]; rfl)
  have t3 : ((h1'.push oT).update e (Obj.mapFields fun x => x.setIfInBounds 1 (.ref h1'.objs.size))).get? h1'.objs.size = some oT := by
    rw [Heap.get?_update_other _ _ ne]; exact Heap.get?_push_size _ hTf
  rw [mapF hv] at e3
  have v1 : (vs.setIfInBounds 1 (.ref h1'.objs.size))[1]? = some (.ref h1'.objs.size) := by simp [h1]
  refine wpAny_setFlight_none e3 rfl v1 t3 hTd (by simp) ?_
  have hTm := mapF hTd (fun x => x.setIfInBounds 3 .none)
  refine k _ h1'.objs.size ⟨fun c o ho hc' hne => ?_, fun c o ho hc' => ?_, fun c o ho => ?_, ?_, ?_⟩
  · have hlt' : c < h1'.objs.size := by rw [sz]; exact Heap.lt_size ho
    rw [Heap.get?_update_other _ _ (Nat.ne_of_gt hlt'), Heap.get?_update_other _ _ (Ne.symm hne)]
    exact Heap.get?_push_of_some _ ((so1 c hc').trans ho)
  · obtain ⟨sl, q⟩ := so2 c o ho
    have hlt' : c < h1'.objs.size := by rw [sz]; exact Heap.lt_size ho
    have hne : e ≠ c := fun z => nfe (z ▸ hc')
    refine ⟨sl, ?_⟩
    rw [Heap.get?_update_other _ _ (Nat.ne_of_gt hlt'), Heap.get?_update_other _ _ hne]
    exact Heap.get?_push_of_some _ q
  · obtain ⟨sl, q⟩ := so2 c o ho
    have hlt' : c < h1'.objs.size := by rw [sz]; exact Heap.lt_size ho
    by_cases hne : e = c
    · subst hne
      exact ⟨_, by rw [Heap.get?_update_other _ _ (Nat.ne_of_gt hlt')]; exact e3⟩
    · exact ⟨_, by rw [Heap.get?_update_other _ _ (Nat.ne_of_gt hlt'), Heap.get?_update_other _ _ hne]; exact Heap.get?_push_of_some _ q⟩
  · refine ⟨{ oe with data := .fields (vs.setIfInBounds 1 (.ref h1'.objs.size)) }, _, { oT with data := .fields ((([hd, .ref L, Value.none, rawInt L, Value.none] ++ if pl.isEmpty = true then List.replicate 6 Value.none else pl).toArray).setIfInBounds 3 .none) }, _, ?_, hc, hdn, rfl, v1, Ne.symm ne, ?_, rfl, ?_⟩
    · rw [Heap.get?_update_other _ _ (Ne.symm ne)]; exact e3
    · rw [← hTm]; exact Heap.get?_update_self _ t3 (by rw [hTm]; rfl)
    · simp
  · cases q : s.heap.get? h1'.objs.size with
    | none => rfl
    | some o =>
      have := Heap.lt_size q
      rw [sz] at this
      exact absurd this (Nat.lt_irrefl _)
theorem note (hfr : A.frames = some (env :: outer)) (hl : s.heap.FunFrames B (env :: outer)) (hf : env.frame = some L) (he : Err s.heap e cls)
    (k : ∀ h' T, Lv (env :: outer) e cls s.heap h' T → Q () { s with heap := h' }) : wpAny M A (noteFrame (.ref e) env) (fun _ s' => wpAny M A (setFlight (.ref e) none) Q E s') E s := by
  unfold noteFrame
  rw [hf]
  rcases he with ⟨oe, vs, h1, h2, h3, h4, h5⟩ | ⟨T, oe, vs, oT, ts, h1, h2, h3, h4, h5, h6, h7, h8, h9⟩
  · have sz : 1 < vs.size := by
      by_cases z : 1 < vs.size
      · exact z
      · rw [Array.getElem?_eq_none (by omega)] at h5; cases h5
    refine wpAny_bind (wpAny_field h1 h4 h5 ?_)
    exact entry hfr hl hf h1 h2 h3 h4 sz k
  · have sz : 1 < vs.size := by
      by_cases z : 1 < vs.size
      · exact z
      · rw [Array.getElem?_eq_none (by omega)] at h5; cases h5
    have s3 : 3 < ts.size := by
      by_cases z : 3 < ts.size
      · exact z
      · rw [Array.getElem?_eq_none (by omega)] at h9; cases h9
    refine wpAny_bind (wpAny_field h1 h4 h5 ?_)
    refine wpAny_bind (wpAny_field h7 h8 h9 ?_)
    refine wpAny_bind (wpAny_setField h7 h8 s3 ?_)
    rw [Heap.update_setField_same _ _ _ _ _ _ h7 h8 h9]
    exact entry hfr hl hf h1 h2 h3 h4 sz k
theorem leave (hfr : A.frames = some (env :: outer)) (hl : s.heap.FunFrames B (env :: outer)) (hf : env.frame = some L) (he : Err s.heap e cls)
    (k : ∀ h' T, Lv (env :: outer) e cls s.heap h' T → Q () { s with heap := h' }) : wpAny M A (leaving env (.ref e)) Q E s := by
  unfold leaving
  exact wpAny_bind (note hfr hl hf he k)
end
end XR

set_option linter.all false
set_option maxRecDepth 100000
namespace XR
open PySem PySem.Spec L2
/-- an error leaves a def: the callers' frames, the heap ahead of the call, the state ahead of it -/
def CXR (P : Program) (w : World) : CXT := fun outer H s E ev s' => ∃ e T cls H', ev = .ref e ∧ s'.os = s.os ∧ PyProof.Rows.AllBare s'.gens ∧ Un (frs outer) [] H H' s.heap s'.heap ∧ HOk P w H' s'.heap ∧
  (s.heap.get? e = none ∧ H' e = none) ∧ (s.heap.get? T = none ∧ H' T = none) ∧ Fly s'.heap e T cls ∧ E cls none H'
/-- a def's body in which errors are told so -/
structure XC (X : Cx) (E : XK) : Prop where
  xe : X.xe = fun e s' => wpAny (model X.prog X.w) X.A (leaving X.env e) (fun _ s'' => CXR X.prog X.w X.outer X.H_0 X.s_0 E e s'') (fun e' s'' => CXR X.prog X.w X.outer X.H_0 X.s_0 E e' s'') s'
  st : X.stack = X.env :: X.outer
  fr : X.env.frame = some X.env.locals
  ex : X.ex = []
theorem xc_of {P : Program} {w : World} {K : PySem.W.Frag} {mg : Str → Option Value} {base : Heap} {N : List Str} {qual : Str} {scope : Scope} {f : Addr} {cd : Value} {A : Around} {outer : List Env} {s : Shared} {H : Hp} {E : XK} :
    XC (cxOf (CXR P w) P w K mg base N qual scope f cd A outer s H E) E := ⟨rfl, rfl, rfl, rfl⟩
theorem objOk_there {P : Program} {w : World} {H : Hp} {h : Heap} {a : Addr} {o : HO} (x : ObjOk P w H h a o) : ∃ ob, h.get? a = some ob := by
  cases o with
  | lst xs => obtain ⟨_, _, _, _, e⟩ := x; exact ⟨_, e⟩
  | tup xs => obtain ⟨_, _, _, ob, e, _⟩ := x; exact ⟨_, e⟩
  | dK kvs => obtain ⟨_, _, _, _, o, _, _, e, _⟩ := x; exact ⟨_, e⟩
  | dT kvs => obtain ⟨_, _, _, _, o, _, _, e, _⟩ := x; exact ⟨_, e⟩
  | set S n => obtain ⟨o, _, _, _, e, _⟩ := x; exact ⟨_, e⟩
  | ins C dx fs => obtain ⟨_, _, _, e, _⟩ := x; exact ⟨_, e⟩
  | own y => obtain ⟨_, e⟩ := x; exact ⟨_, e⟩
  | xd fs => obtain ⟨_, ⟨_, _, _, e, _⟩, _⟩ := x; exact ⟨_, e⟩
  | rng lo hi => obtain ⟨_, _, _, e⟩ := x; exact ⟨_, e⟩
  | frz ob u => obtain ⟨e, _⟩ := x; exact ⟨_, e⟩
  | tbl ps => exact ⟨_, show h.get? a = some _ from x⟩
  | met f y => exact ⟨_, show h.get? a = some _ from x⟩
  | ext φ => obtain ⟨_, ⟨_, e⟩, _⟩ := x; exact ⟨_, e⟩
theorem free_none {P : Program} {w : World} {H : Hp} {h : Heap} (ok : HOk P w H h) {a : Addr} (e : h.get? a = none) : H a = none := by
  cases q : H a with
  | none => rfl
  | some o =>
    obtain ⟨ob, e2⟩ := objOk_there (ok a o q)
    rw [e] at e2; cases e2
section
variable {X : Cx} {E : XK} {pins : List (Addr × Obj)} {σ : St} {H : Hp} {s : Shared}
/-- behind the frame: the callers' world -/
theorem lv_un (I : Inv X pins σ H s) (C : XC X E) {h h' : Heap} {e T : Addr} {cls : Value} (hh : ∀ b o, s.heap.get? b = some o → h.get? b = some o) (hx : X.s_0.heap.get? e = none ∧ H e = none) (lv : Lv X.stack e cls h h' T) :
    Un X.fs [] X.H_0 H X.s_0.heap h' ∧ HOk X.prog X.w H h' := by
  have fsn : X.stack = X.env :: X.outer := C.st
  have hfr : frs X.stack = X.env.locals :: X.fs := by rw [fsn]; unfold Cx.fs frs; rw [List.filterMap_cons, C.fr]
  have nx : ∀ b o, X.s_0.heap.get? b = some o → b ≠ e := fun b o q z => by rw [z, hx.1] at q; cases q
  have nex : ∀ b, b ∉ X.ex := fun b z => by rw [C.ex] at z; exact absurd z List.not_mem_nil
  have nl : ∀ b o, X.s_0.heap.get? b = some o → b ≠ X.env.locals := fun b o q z => by
    have h1 := Heap.lt_size q
    have h2 := I.ok.above
    rw [z] at h1
    exact absurd (Nat.lt_of_lt_of_le h1 h2) (Nat.lt_irrefl _)
  refine ⟨⟨fun b o q n hb _ => ?_, fun b o q n hb _ => ?_, fun b o q n _ => I.base.free b o q n (nex b), fun b o q _ => ?_, I.base.tups, I.base.frzs, I.base.tbls⟩, fun a o q => ?_⟩
  · refine lv.keep b o (hh b o (I.base.keep b o q n hb (nex b))) ?_ (nx b o q)
    rw [hfr]
    exact fun z => (List.mem_cons.mp z).elim (nl b o q) hb
  · obtain ⟨sl, e1⟩ := I.base.slot b o q n hb (nex b)
    obtain ⟨sl2, e2⟩ := lv.slot b _ (hh b _ e1) (by rw [hfr]; exact List.mem_cons_of_mem _ hb)
    exact ⟨sl2, e2⟩
  · obtain ⟨o1, e1⟩ := I.base.there b o q (nex b)
    exact lv.there b o1 (hh b o1 e1)
  · have tr : ∀ b u, H b = some u → b ∉ frs X.stack ∧ b ≠ e := fun b u q => ⟨(fun z => by rw [I.stkFree b z] at q; cases q), (fun z => by rw [z, hx.2] at q; cases q)⟩
    refine (I.hok a o q).stay (fun b v hb r => ?_) (fun _ r => r) fun _ _ r => r
    rcases hb with rfl | hb
    · exact lv.keep b v (hh b v r) (tr b _ q).1 (tr b _ q).2
    · exact lv.keep b v (hh b v r) (tr b _ hb).1 (tr b _ hb).2
theorem old_none (I : Inv X pins σ H s) (C : XC X E) {a : Addr} (e : s.heap.get? a = none) : X.s_0.heap.get? a = none := by
  cases q : X.s_0.heap.get? a with
  | none => rfl
  | some o =>
    obtain ⟨o', e'⟩ := I.base.there a o q (by rw [C.ex]; exact List.not_mem_nil)
    rw [e] at e'; cases e'
/-- an error just made -/
theorem xr_raise (I : Inv X pins σ H s) (C : XC X E) {h' : Heap} {e : Addr} {cls : Value} {args : List Value} (mk : Heap.MadeExcOf s.heap h' e cls args) (hE : E cls none H) : X.xe (.ref e) { s with heap := h' } := by
  rw [C.xe]
  obtain ⟨t, he, _, _⟩ := mk.there
  have hst : X.A.frames = some (X.env :: X.outer) := by rw [← C.st]; exact I.ok.frames
  have hl : h'.FunFrames X.base (X.env :: X.outer) := by
    rw [← C.st]
    exact I.stack.of_keeps fun b o e _ => ⟨o, mk.keeps b o e, rfl⟩
  have e1 := old_none I C mk.new
  have e2 := free_none I.hok mk.new
  refine leave (s := { s with heap := h' }) hst hl C.fr (.inl ⟨_, _, he, rfl, rfl, rfl, rfl⟩) fun h'' T lv => ?_
  rw [← C.st] at lv
  obtain ⟨un, ok⟩ := lv_un I C mk.keeps ⟨e1, e2⟩ lv
  have z2 : s.heap.get? T = none := by
    cases q : s.heap.get? T with
    | none => rfl
    | some o =>
      have := mk.keeps T o q
      have z' : h'.get? T = none := lv.new
      rw [z'] at this; cases this
  exact ⟨e, T, cls, H, rfl, I.os, I.bare, un, ok, ⟨e1, e2⟩, ⟨old_none I C z2, free_none I.hok z2⟩, lv.fly, hE⟩
/-- an error of a callee goes on -/
theorem xr_pass (C : XC X E) : Passes (CXR X.prog X.w) X E := fun pins σ H s ev s' I h => by
  obtain ⟨e, T, cls, H', rfl, os, bare, un, ok, ⟨a1, a2⟩, ⟨b1, b2⟩, fl, hE⟩ := h
  have I' : Inv X pins σ H' s' := I.call' (ch := []) os un ok bare fun b z => absurd z List.not_mem_nil
  rw [C.xe]
  have hst : X.A.frames = some (X.env :: X.outer) := by rw [← C.st]; exact I.ok.frames
  have hl : s'.heap.FunFrames X.base (X.env :: X.outer) := by rw [← C.st]; exact I'.stack
  refine leave hst hl C.fr (.inr ⟨T, fl⟩) fun h'' T' lv => ?_
  rw [← C.st] at lv
  obtain ⟨un', ok'⟩ := lv_un I' C (fun b o e => e) ⟨old_none I C a1, a2⟩ lv
  exact ⟨e, T', cls, H', rfl, I'.os, I'.bare, un', ok', ⟨old_none I C a1, a2⟩, ⟨old_none I' C lv.new, free_none I'.hok lv.new⟩, lv.fly, hE⟩
end
/-! ### raise C("..") -/
def bmVE : List Value := [.type "ValueError", .type "Exception", .type "BaseException", .type "object"]
theorem exc_obj {K : PySem.W.Frag} {h : Heap} {C : Addr} {bmB : List Value} {newId : String} (X : K.In h) (q : PySem.W.excIn K C bmB newId = true) :
    ∃ bm N nm qn bs hdct sn sub ab col dd k0 k1 k2 k3 k5 mN, h.get? C = some (excClassObj nm qn C N bs bm hdct sn sub ab col dd k0 k1 k2 k3 k5 newId) ∧ h.Ns N mN ∧ mN "__init__" = none ∧ OwnTail h bmB bm := by
  unfold PySem.W.excIn at q
  split at q
  · rename_i dd cd sl ho
    split at q
    · rename_i C' bm k0 k1 k2 k3 n k5 hm hs
      simp only [Bool.and_eq_true, beq_iff_eq, Bool.not_eq_true'] at q
      obtain ⟨⟨⟨⟨⟨rfl, rfl⟩, hdel⟩, ht⟩, hok⟩, hni⟩ := q
      obtain ⟨nm, bs, mro, ns, qn, hd, sn, sub, ab, col, del⟩ := cd
      dsimp only at hm hdel hok hni
      subst hm hdel
      have hsl : sl = #[k0, k1, k2, k3, some (.builtin n), k5] := by
        obtain ⟨l⟩ := sl
        simp only at hs
        rw [hs]
      subst hsl
      exact ⟨bm, ns, nm, qn, bs, hd, sn, sub, ab, col, dd, k0, k1, k2, k3, k5, _, X _ _ ho, .of_isNs (PySem.W.isNs_of_in X hok), PySem.W.nsMap_none_of_in X hok hni, PySem.W.tail_of_in X ht⟩
    · cases q
  · cases q
section
variable {X : Cx} {E : XK} {C : Addr} {x : Str} {e : Expr} {t : TA} {np cpos pos : Pos}
/-- raise C(e): the error is told as its class -/
def tRaise (C : Addr) (E : XK) (t : TA) : TS := fun _ σ H => t σ H fun vs H' => vs.length ≤ 100 ∧ E (.ref C) none H'
theorem ps_raise (XX : XC X E) (hc : X.calm = true) (hg : Gl X x) (hm : X.mg x = some (.ref C)) (hq : PySem.W.excIn X.K C bmVE "ValueError.__new__" = true) (ha : PA X [e] t) (hdb : (x == ("__debug__" : Str)) = false := by decide)
    (he : starEach [e] X.env = (false, eval e X.env) :: starEach [] X.env := by rfl) (hpl : (backTo cpos (starEach [] X.env)).any (·.1) = false := by rfl) :
    PS X (.Raise (some (.Call (.Name x np) [e] [] cpos)) none pos) (tRaise C E t) := by
  intro pins s σ H D I h
  obtain ⟨bm, N, nm, qn, bs, hdct, sn, sub, ab, col, dd, k0, k1, k2, k3, k5, mN, hC, hN, hni, T⟩ := exc_obj I.ok.mod.kin hq
  have F := PySem.F.excBase_ValueError
  refine wpAny_Raise_call_subU (C := C) (nm := nm) (q := qn) (N := N) (bs := bs) (bm := bm) (hdct := hdct) (sn := sn) (sub := sub) (ab := ab) (col := col) (dd := dd) (k0 := k0) (k1 := k1) (k2 := k2) (k3 := k3) (k5 := k5)
    F (bmB := bmVE) (by decide) F (mN := mN) (T.hasType F.hasBase) (I.ok.hd hc) (by rw [he]; show (false || (backTo cpos (starEach [] X.env)).any (·.1)) = false; rw [hpl]; rfl) hni (ld_glob I hg hm ⟨rfl, ?_⟩ hdb)
  have hA := ha cpos pins s σ H _ I h
  rw [he] at hA ⊢
  refine Calls.evalArgs_plain (thn hA fun us s1 ⟨vs, H1, I1, r, q1, q2⟩ => ⟨rfl, ?_, I1.bk _ _ hC, hN.keeps I1.bk, T.keeps I1.bk, fun h' e' mk => xr_raise I1 XX mk q2⟩)
  rw [← r.length, sizeLine_eq]
  omega
end
end XR

set_option linter.all false
set_option maxRecDepth 100000
/-! ### lambda: the function object, and its code in the table of the def around it -/
namespace XR
open PySem PySem.Spec L2 DL
theorem trip_app : ∀ {l : List Value} {a b : Int} {t u : Tok} {c : Value}, TriplesOk l → TriplesOk (l ++ [.int a t, .int b u, c])
  | [], _, _, _, _, _, _ => trivial
  | .int _ _ :: .int _ _ :: _ :: rest, a, b, t, u, c, h => trip_app (l := rest) h
theorem among_app {pos : Pos} {a b : Int} {t u : Tok} {c cv : Value} : ∀ {l : List Value}, TriplesOk l → codeAmong pos (l ++ [.int a t, .int b u, c]) = some cv → codeAmong pos l = some cv ∨ cv = c
  | [], _, h => by
    simp only [List.nil_append, codeAmong] at h
    split at h
    · cases h; exact .inr rfl
    · cases h
  | .int x y :: .int z v :: d :: rest, ht, h => by
    simp only [List.cons_append, codeAmong] at h ⊢
    split at h
    · rename_i hc; rw [if_pos hc]; exact .inl h
    · rename_i hc; rw [if_neg hc]; exact among_app (l := rest) ht h
structure LamX (X : Cx) (c P : Addr) (q : Str) : Prop where
  code : X.env.code = .ref c
  hd : PySem.W.CodeHd X.base c P
  qual : X.env.qual ++ ("<lambda>" : Str) = q
  bm : ∃ bm o, X.mg "__builtins__" = some (.ref bm) ∧ bm ≠ builtinsNs ∧ X.base.get? bm = some o ∧ o.cls = .type "module" ∧ o.dict = some builtinsNs ∧ o.data = .plain
section
variable {X : Cx} {pins : List (Addr × Obj)} {σ : St} {H : Hp} {s : Shared} {c P : Addr} {q : Str}
theorem notP (I : Inv X pins σ H s) (T : TabR P q H) {b : Addr} {o : Obj} (e : X.base.get? b = some o) : b ≠ P := fun z => by
  obtain ⟨ps, h, _⟩ := T
  have := (I.bs b o e).2
  rw [z, h] at this; cases this
theorem lam_make {args : Arguments} {body : Expr} {scope : Scope} {pos : Pos} {clos : List (Str × Addr)} {Q : Value → Shared → Prop} {E : Value → Shared → Prop} (I : Inv X pins σ H s) (LX : LamX X c P q) (T : TabR P q H) (hcl : closureFor scope X.env = pure clos)
    (hdf : defaultsOf args X.env = ([], []) := by rfl)
    (k : ∀ (a c' : Addr) (ob : Obj) (u : HO) (ctv : Value) (H' : Hp) (s' : Shared), Inv X pins σ H' s' → s.heap.get? a = none → TabR P q H' → H' c' = some (.frz ob u) → CodeF ob q → (∀ b o, H b = some o → b ≠ P → H' b = some o) → (∀ b o, s.heap.get? b = some o → b ≠ P → s'.heap.get? b = some o) →
      s'.heap.get? a = some { cls := .type "function", data := .func (PySem.W.kla_fn "<lambda>" q args body scope clos ((X.mg "__name__").getD .none) (.ref c') ctv) } → H' a = none → Q (.ref a) s') :
    wpAny (model X.prog X.w) X.A (eval (.Lambda args body scope pos) X.env) Q E s := by
  rw [arm_eval_Lambda, hdf]
  obtain ⟨ps, hP, ht, hg⟩ := id T
  have hPo : s.heap.get? P = some (PySem.W.tabObj ps) := I.hok P _ hP
  obtain ⟨bm, ob, b1, b2, b3, b4, b5, b6⟩ := LX.bm
  have gns : s.heap.Ns mainGlobals X.mg := I.mod.glob.keeps I.bk
  have hgP : mainGlobals ≠ P := by
    obtain ⟨o, es, ep, e, _⟩ := I.mod.glob
    exact notP I T e
  have hbG : bm ≠ mainGlobals := fun z => by
    obtain ⟨o, es, ep, e, hd, _⟩ := I.mod.glob
    rw [z, e] at b3; cases b3; rw [hd] at b6; cases b6
  have BA : s.heap.BuiltinsAt X.mg P := ⟨bm, ob, b1, b2, hbG, notP I T b3, I.bk _ _ b3, b4, b5, b6⟩
  have CH : PySem.W.CodeHd s.heap c P := LX.hd.keeps I.bk
  rw [LX.qual]
  refine wpAny_bind (wpAny_pure (wpAny_bind (wpAny_pure ?_)))
  cases hh : codeAmong pos ps.toList with
  | some cv =>
    obtain ⟨c', ob, u, rfl, hc', hcf⟩ := hg pos cv hh
    refine PySem.W.kla_makeFunctionHit (mg := X.mg) hcl I.ok.glob gns LX.code CH hPo ht hh BA fun ctv h' tk hk hz => ?_
    have I' : Inv X pins σ H { s with heap := h'.push { cls := .type "function", data := .func (PySem.W.kla_fn "<lambda>" q args body scope clos ((X.mg "__name__").getD .none) (.ref c') ctv) }, toks := tk } := I.kept (t' := tk) fun b o e => Heap.get?_push_of_some _ (hk b o e)
    have I1 : Inv X pins σ H { s with heap := h', toks := tk } := I.kept (t' := tk) hk
    exact k _ c' ob u ctv H _ I' (Heap.get?_none_of_le hz) T hc' hcf (fun b o e _ => e) (fun b o e _ => Heap.get?_push_of_some _ (hk b o e)) (Heap.get?_push_size _ rfl) (I1.hok.fresh (Nat.le_refl _))
  | none =>
    refine PySem.W.kla_makeFunction (mg := X.mg) hcl I.ok.glob gns LX.code CH hPo ht hh hgP BA fun c' ctv h' tk hx hge hlt hrec htb => ?_
    have hfc : H c' = none := I.hok.fresh hge
    obtain ⟨c2, ob, vs, tq, ec, hob, hod, hoq⟩ := hrec.push (PySem.W.kla_obj "<lambda>" q args body scope clos ((X.mg "__name__").getD .none) c' ctv)
    cases ec
    have hcP : c' ≠ P := fun z => by rw [z, hP] at hfc; cases hfc
    have nP : ∀ b, H b = none → b ≠ P := fun b e z => by rw [z, hP] at e; cases e
    have kp : ∀ b o, s.heap.get? b = some o → b ≠ P → (h'.push (PySem.W.kla_obj "<lambda>" q args body scope clos ((X.mg "__name__").getD .none) c' ctv)).get? b = some o := fun b o e z => Heap.get?_push_of_some _ (hx b o z e)
    have lt : ∀ b o, s.heap.get? b = some o → b ≠ c' := fun b o e z => by
      have := Heap.lt_size e
      rw [z] at this
      exact absurd (Nat.lt_of_lt_of_le this hge) (Nat.lt_irrefl _)
    have hH : ∀ b o, H b = some o → b ≠ P → upd (upd H P (.tbl (ps ++ #[rawInt pos.line, rawInt pos.col, .ref c']))) c' (.frz ob (.own 0)) b = some o := fun b o e z => by
      rw [upd_ne (ne_of_none e hfc), upd_ne z]; exact e
    have hHP : upd (upd H P (.tbl (ps ++ #[rawInt pos.line, rawInt pos.col, .ref c']))) c' (.frz ob (.own 0)) P = some (.tbl (ps ++ #[rawInt pos.line, rawInt pos.col, .ref c'])) := by rw [upd_ne (Ne.symm hcP), upd_same]
    have hPn : (h'.push (PySem.W.kla_obj "<lambda>" q args body scope clos ((X.mg "__name__").getD .none) c' ctv)).get? P = some (PySem.W.tabObj (ps ++ #[rawInt pos.line, rawInt pos.col, .ref c'])) := Heap.get?_push_of_some _ htb
    have I' : Inv X pins σ (upd (upd H P (.tbl (ps ++ #[rawInt pos.line, rawInt pos.col, .ref c']))) c' (.frz ob (.own 0))) { s with heap := h'.push (PySem.W.kla_obj "<lambda>" q args body scope clos ((X.mg "__name__").getD .none) c' ctv), toks := tk } := by
      refine I.step (g' := s.gens) (d' := s.drawn) (t' := tk) (ch := []) (fun b z => absurd z List.not_mem_nil) (fun b o _ _ _ e n => kp b o e (nP b n)) (fun b o _ _ _ e n => ⟨o.slots, kp b o e (nP b n)⟩) (fun b o _ e n => ?_) (fun b o _ e => ?_) (fun b xs e => hH b _ e fun z => ?_) (fun b o u e => hH b _ e fun z => ?_) (fun b ps0 e => ?_) (fun m' hm => (hm.extBut hx (nP _ I.free)).push _) ?_ I.bare
      · rw [upd_ne (lt b o e), upd_ne (nP b n)]; exact n
      · by_cases z : b = P
        · rw [z]; exact ⟨_, hPn⟩
        · exact ⟨o, kp b o e z⟩
      · rw [z, hP] at e; cases e
      · rw [z, hP] at e; cases e
      · by_cases z : b = P
        · subst z
          rw [hP] at e; cases e
          exact ⟨_, hHP⟩
        · exact ⟨#[], by rw [Array.append_empty]; exact hH b _ e z⟩
      · intro b u e
        by_cases z1 : b = c'
        · subst z1
          rw [upd_same] at e; cases e
          exact ⟨hob, ob, hob⟩
        · rw [upd_ne z1] at e
          by_cases z2 : b = P
          · subst z2
            rw [upd_same] at e; cases e
            exact hPn
          · rw [upd_ne z2] at e
            refine (I.hok b u e).stay (fun d v hd r => ?_) (fun d r => hH d _ r fun z => ?_) fun d xs r => hH d _ r fun z => ?_
            · refine kp d v r ?_
              rcases hd with rfl | hd
              · exact z2
              · exact fun z => by rw [z, hP] at hd; cases hd
            · rw [z, hP] at r; cases r
            · rw [z, hP] at r; cases r
    have T' : TabR P q (upd (upd H P (.tbl (ps ++ #[rawInt pos.line, rawInt pos.col, .ref c']))) c' (.frz ob (.own 0))) := by
      refine ⟨_, hHP, ?_, fun pos' cv h => ?_⟩
      · rw [Array.toList_append]; exact trip_app ht
      · rw [Array.toList_append] at h
        rcases among_app ht h with z | z
        · obtain ⟨c2, ob2, u2, e1, e2, e3⟩ := hg pos' cv z
          exact ⟨c2, ob2, u2, e1, hH c2 _ e2 (fun y => by rw [y, hP] at e2; cases e2), e3⟩
        · exact ⟨c', ob, .own 0, z, upd_same, vs, tq, hod, hoq⟩
    have hfa : upd (upd H P (.tbl (ps ++ #[rawInt pos.line, rawInt pos.col, .ref c']))) c' (.frz ob (.own 0)) h'.objs.size = none := by
      rw [upd_ne (Nat.ne_of_gt hlt), upd_ne (fun z => by have := Heap.lt_size htb; rw [← z] at this; exact absurd this (Nat.lt_irrefl _))]
      refine I.hok.fresh ?_
      exact Nat.le_trans hge (Nat.le_of_lt hlt)
    exact k h'.objs.size c' ob (.own 0) ctv _ _ I' (Heap.get?_none_of_le (Nat.le_trans hge (Nat.le_of_lt hlt))) T' upd_same ⟨vs, tq, hod, hoq⟩ hH kp (Heap.get?_push_size _ rfl) hfa
end
end XR

set_option linter.all false
set_option maxRecDepth 100000
/-! ### a lambda is made, and called -/
namespace XR
open PySem PySem.Spec L2 DL
/-- the table grew, nothing else -/
theorem ext_tab {K : PySem.W.Frag} {ρ : List Addr} {H H' : Hp} {P : Addr} {q : Str} (bx : Bx ρ H) (T : TabR P q H) (T' : TabR P q H') (hq : ∀ q', TabAt K P q' → q' = q) (hH : ∀ b o, H b = some o → b ≠ P → H' b = some o) : Ext K ρ H ρ H' := by
  obtain ⟨ps, hP, _, _⟩ := id T
  obtain ⟨ps', hP', _, _⟩ := id T'
  refine ⟨⟨[], by simp⟩, fun a o e _ t => hH a o e fun z => ?_, fun a o e h => ⟨o, hH a o e fun z => ?_, rfl⟩, fun _ h => .inl h, fun a ps0 e => ?_, fun P2 q2 hT t => ?_⟩
  · subst z; rw [hP] at e; cases e; cases t
  · subst z
    obtain ⟨o', e', hk⟩ := bx a h
    rw [hP] at e'; cases e'; simp [kd] at hk
  · by_cases z : a = P
    · subst z; exact ⟨_, hP'⟩
    · exact ⟨ps0, hH a _ e z⟩
  · by_cases z : P2 = P
    · subst z
      rw [hq q2 hT]; exact T'
    · obtain ⟨ps2, h1, h2, h3⟩ := t
      refine ⟨ps2, hH P2 _ h1 z, h2, fun pos cv e => ?_⟩
      obtain ⟨c', ob, u, e1, e2, e3⟩ := h3 pos cv e
      exact ⟨c', ob, u, e1, hH c' _ e2 (fun y => by rw [y, hP] at e2; cases e2), e3⟩
def cxL (P : Program) (w : World) (K : PySem.W.Frag) (mg : Str → Option Value) (base : Heap) (N : List Str) (q : Str) (scope : Scope) (a c' : Addr) (clos : List (Str × Addr)) (A : Around) (outer : List Env) (s : Shared) (H : Hp) (E : XK) : Cx where
  prog := P
  w := w
  K := K
  mg := mg
  base := base
  A := A.deeper (PySem.W.envX q scope s.heap.objs.size a (.ref c') clos)
  N := N
  s_0 := s
  H_0 := H
  env := PySem.W.envX q scope s.heap.objs.size a (.ref c') clos
  outer := outer
  stack := PySem.W.envX q scope s.heap.objs.size a (.ref c') clos :: outer
  ex := []
  calm := true
  fn := fun _ => false
  pn := []
  xe := fun e s' => wpAny (model P w) (A.deeper (PySem.W.envX q scope s.heap.objs.size a (.ref c') clos)) (leaving (PySem.W.envX q scope s.heap.objs.size a (.ref c') clos) e) (fun _ s'' => CXR P w outer H s E e s'') (fun e' s'' => CXR P w outer H s E e' s'') s'
section
variable {P : Program} {w : World} {K : PySem.W.Frag} {mg : Str → Option Value} {base : Heap} {N : List Str} {q : Str} {scope : Scope} {a c' : Addr} {clos : List (Str × Addr)} {A : Around} {outer : List Env} {s : Shared} {H : Hp} {E : XK}
theorem xc_lam : XC (cxL P w K mg base N q scope a c' clos A outer s H E) E := ⟨rfl, rfl, rfl, rfl⟩
/-- the free names, and what they mean -/
structure Clo (h : Heap) (H : Hp) (scope : Scope) (clos : List (Str × Addr)) (N : List Str) (σ : L2.St) : Prop where
  inj : ∀ x y c, clos.lookup x = some c → clos.lookup y = some c → x = y
  has : ∀ x, (scope.names.lookup x = some .cell ∨ scope.names.lookup x = some .free) → ∃ c, clos.lookup x = some c
  cell : ∀ x c, clos.lookup x = some c → (∃ v, h.IsCell c v) ∧ H c = none
  val : ∀ (i : Nat) (x : Str) (v : V), N[i]? = some x → σ[i]? = some (some v) → Vis scope x → ∃ c u, clos.lookup x = some c ∧ h.IsCell c (some u) ∧ RelV v u ∧ scope.names.lookup x = some .free
  len : σ.length = N.length
theorem lam_call {args : Arguments} {body : Expr} {pm ctv : Value} {σ : L2.St} {t : TE} {Q : VK} (e0 : Env0 P w K mg base A outer s H) (hd : A.handled = none) (hroom : A.depth < recursionLimit)
    (ho : s.heap.get? a = some { cls := .type "function", data := .func (PySem.W.kla_fn "<lambda>" q args body scope clos pm (.ref c') ctv) }) (hcd : s.heap.CodeRec (.ref c') q)
    (hbind : bindArgs (PySem.W.kla_fn "<lambda>" q args body scope clos pm (.ref c') ctv) ⟨[], []⟩ = pure []) (hco : scope.isCoroutine = false) (hgen : scope.isGenerator = false) (hk : scope.kind = .function) (hcell : ∀ x ∈ scope.names, x.2 ≠ .cell)
    (C : Clo s.heap H scope clos N σ) (hb : PE (cxL P w K mg base N q scope a c' clos A outer s H E) body t) (ht : t σ H Q) :
    codeAny (model P w) A (.call (.ref a) ⟨[], []⟩) (CR (CXR P w) outer P w H s Q E) s := by
  have lim : s.heap.NoLimit := e0.mod.nolimit.keeps fun b o e => (e0.bs b o e).1
  refine PySem.W.kla_callFunE hroom ho rfl hco hgen rfl hcd ?_
  rw [hbind]
  refine wpAny_pure (wpAny_newFunctionEnv hcell (fun y hy => absurd hy List.not_mem_nil) (fun h₁ hns hsb => ⟨lim.fresh _ hsb, ?_⟩) hk)
  show codeAny _ _ (.expr body (PySem.W.envX q scope s.heap.objs.size a (.ref c') clos)) _ _
  have hk₁ : ∀ b o, s.heap.get? b = some o → h₁.get? b = some o := fun b o e => hsb.extBut b o (Nat.ne_of_lt (Heap.lt_size e)) (Heap.get?_push_of_some _ e)
  have ck : ∀ {c : Addr} {v : Option Value}, s.heap.IsCell c v → h₁.IsCell c v := fun {c v} x => x.keeps hk₁
  have noA : ∀ b : Addr, b ∉ (cxL P w K mg base N q scope a c' clos A outer s H E).ex := fun b z => absurd (show b ∈ ([] : List Addr) from z) List.not_mem_nil
  have I : L2.Inv (cxL P w K mg base N q scope a c' clos A outer s H E) [] σ H { s with heap := h₁, toks := s.toks + 0 } := by
    refine ⟨⟨e0.mod, hk, rfl, rfl, Nat.le_refl _, C.inj, C.has, (fun y c z _ => by cases z), fun _ => hd, Around.frames_deeper e0.frames, .inr ⟨rfl, rfl⟩, fun b z => absurd z (noA b), e0.bs, e0.bsz, fun b _ _ => noA b, fun b z => absurd z (noA b), e0.funs, e0.frf⟩,
      rfl, e0.bare, Un.kept hk₁, ⟨_, hns, fun i y v h1 h2 h3 => ?_⟩, fun y c h => ?_, e0.hok.fresh (Nat.le_refl _), fun y c h => (C.cell y c h).2, fun p hp => absurd (show p ∈ ([] : List (Addr × Obj)) from hp) List.not_mem_nil, e0.hok.kept hk₁, C.len⟩
    · obtain ⟨c, u, z1, z2, z3, z4⟩ := C.val i y v h1 h2 h3
      exact ⟨u, z3, .inr ⟨.inr z4, c, z1, ck z2⟩⟩
    · obtain ⟨⟨v, z⟩, _⟩ := C.cell y c h
      exact ⟨v, ck z⟩
  refine PySem.W.kla_codeExpr (wpAny_mono (hb [] _ σ H Q I ht) (fun u s' ⟨v, H', J, rv, hq⟩ => ?_) fun e s' h => h)
  exact ⟨v, H', J.os, J.bare, J.base, J.hok, rv, hq⟩
end
end XR

set_option linter.all false
set_option maxRecDepth 100000
/-! ### isinstance of an error -/
namespace XR
open PySem PySem.Spec L2
structure ErrC (K : PySem.W.Frag) (C : Addr) : Prop where
  ex : PySem.W.excIn K C bmVE "ValueError.__new__" = true
  ga : PySem.W.findIn K (.ref C) "__getattribute__" = some (some (.builtin "BaseException.__getattribute__"))
  gn : PySem.W.findIn K (.ref C) "__getattr__" = some none
  mb : PySem.W.mroIn K C (.type "BaseException") = some true
  fd : PySem.W.findIn K (.ref C) "__class__" = some (some (.builtin "object.__class__"))
  sp : PySem.W.specialIn K (.builtin "object.__class__") "__get__" = some (some (.builtin "getset_descriptor.__get__"))
  tk : PySem.W.takesIn K (.builtin "object.__class__") = some true
  mr : PySem.W.mroIn K C (.type "object") = some true
section
variable {prog : Program} {w : World} {A : Around} {E : Value → Shared → Prop} {s : Shared} {K : PySem.W.Frag} {x D : Addr} {ox : Obj}
theorem found_class (C : ErrC K D) (o : Option Obj) : PySem.W.findObj K D o "__class__" = some (.bind (.builtin "getset_descriptor.__get__") (.builtin "object.__class__")) := by
  have hm := C.mr
  unfold PySem.W.mroIn at hm
  cases q : PySem.W.clsIn K D with
  | none => rw [q] at hm; cases hm
  | some cd =>
    unfold PySem.W.findObj
    rw [q]
    simp only [Option.bind_some, C.fd, C.sp, C.tk]
theorem sub_exc {h : Heap} {C : Addr} {g : Array GenState} {d : Drawn} {tk : Nat} {os : OsState} {M : Model} {base : Value} {Q : Bool → Shared → Prop} (hin : K.In h) (X : PySem.W.excIn K C bmVE "ValueError.__new__" = true) {b : Bool} (hb : PySem.W.mroIn K C base = some b)
    (q : Q b ⟨h, g, d, tk, os⟩) : wpAny M A (isSubtype (.ref C) base) Q E ⟨h, g, d, tk, os⟩ := by
  have X0 := X
  unfold PySem.W.excIn at X
  split at X
  · rename_i dd cd sl ho
    obtain ⟨bm, N, nm, qn, bs, hdct, sn, sub, ab, col, dd', k0, k1, k2, k3, k5, mN, hC, _, _, _⟩ := exc_obj hin X0
    have e := hin _ _ ho
    rw [hC] at e
    injection e with e
    injection e with e1 e2 e3 e4
    injection e3 with e3
    refine wpAny_isSubtype_exc hC ?_
    unfold PySem.W.mroIn PySem.W.clsIn at hb
    rw [ho] at hb
    simp only [Option.bind_some] at hb
    rw [← e3] at hb
    simp only [List.isEmpty_cons, Bool.false_eq_true, if_false] at hb
    injection hb with hb
    rw [hb]
    exact q
  · cases X
theorem gs_ty : PySem.typeOf (.builtin "object.__class__") = pure (.type "getset_descriptor") := rfl
theorem gs_own : PySem.Builtin.Getset_descriptor.descrOwnerAndName "object.__class__" = ("object", "__class__") := by decide +kernel
theorem gs_args (x D : Addr) : PySem.Builtin.Getset_descriptor.descrGetArgs ⟨[.builtin "object.__class__", .ref x, .ref D], []⟩ = pure (.builtin "object.__class__", some (.ref x), some (.ref D)) := rfl
theorem slot_bga : Slot "BaseException" "__getattribute__" "BaseException.__getattribute__" := .of (owner := "BaseException") (n := "__getattribute__") (by rw [typeLookup_type, builtinLookup_eq_fast]; kernel_rfl) (by decide +kernel) (by decide +kernel) (by decide +kernel) (.inl (by kernel_rfl)) (by kernel_rfl)
theorem check_bga (C : ErrC K D) {nameV : Value} {Q : Unit → Shared → Prop} (hin : K.In s.heap) (J : PySem.W.InstAt s.heap x ox D none) (q : Q () s) : wpAny (model prog w) A (checkBuiltinCall "BaseException.__getattribute__" ⟨[.ref x, nameV], []⟩) Q E s := by
  have hk : builtinKind "BaseException.__getattribute__" = some .slot := by decide +kernel
  have hsplit : splitId "BaseException.__getattribute__" = some ("BaseException", "__getattribute__") := by decide +kernel
  have ha := F.args_bexc_ga (.ref x) nameV
  unfold argsOk at ha
  obtain ⟨h, g, d, t, os⟩ := s
  simp only [checkBuiltinCall, hk, hsplit]
  unfold isInstance
  refine wpAny_bind (wpAny_bind (wpAny_typeOf_ref J.at_ ?_))
  rw [J.cls]
  refine sub_exc hin C.ex C.mb ?_
  exact wpAny_pure q
theorem exc_class (C : ErrC K D) (hin : K.In s.heap) (J : PySem.W.InstAt s.heap x ox D none) {Q : Option Value → Shared → Prop} (q : Q (some (.ref D)) { s with toks := s.toks + 1 }) : wpAny (model prog w) A (getAttr? (.ref x) "__class__") Q E s := by
  obtain ⟨hh, g, d, t, os⟩ := s
  have L0 := J.type (M := model prog w)
  have L1 := PySem.W.looks_findIn (M := model prog w) hin C.ga
  have L2 := PySem.W.looks_find (M := model prog w) hin J (found_class C none)
  have L3 := PySem.W.looks_findIn (M := model prog w) hin C.gn
  unfold getAttr? getAttrBy? getAttrBy
  refine wpAny_bind (wpAny_mkText (wpAny_bind (wpAny_attempt (wpAny_holding (wpAny_bind (L0.at (wpAny_bind (L1.at ?_))))))))
  show wpAny _ _ (if (onTheHeap (.ref D) && Value.builtin "BaseException.__getattribute__" == Value.builtin "object.__getattribute__") = true then _ else _) _ _ _
  have hx2 : (Value.builtin "BaseException.__getattribute__" == Value.builtin "object.__getattribute__") = false := by decide +kernel
  rw [hx2, Bool.and_false, if_neg Bool.false_ne_true]
  unfold getAttrByItsOwn hookBefore callGetattribute boundAndCalled
  refine wpAny_bind ?_
  show wpAny _ _ (typeLookup (.ref D) "__getattr__") _ _ _
  refine L3.at (wpAny_bind (wpAny_attempt (wpAny_holding ?_)))
  show wpAny _ _ (bindSpecial (.builtin "BaseException.__getattribute__") (.ref x) >>= _) _ _ _
  refine wpAny_bind (wpAny_of_eq (slot_bga.bind _) ?_)
  show wpAny _ _ (call _ [.ref x, .str "__class__" t]) _ _ _
  refine wpAny_call (codeAny_call_builtin slot_bga.plain F.entry_bexc_ga (check_bga (s := ⟨hh, g, d, t + 1, os⟩) C hin J ?_))
  unfold Builtin.«object.__getattribute__»
  refine wpAny_bind (wpAny_of_eq (show slotArgs "__getattribute__" 1 ⟨[.ref x, .str "__class__" t], []⟩ = pure (.ref x, [.str "__class__" t]) from rfl) ?_)
  show wpAny _ _ (Builtin.ObjectAttr.attrName (.str "__class__" t) >>= _) _ _ _
  refine wpAny_bind (wpAny_of_eq (show Builtin.ObjectAttr.attrName (.str "__class__" t) = pure "__class__" from rfl) ?_)
  refine wpAny_bind (L0.at (wpAny_bind (L2.at ?_)))
  show wpAny _ _ (holding [_] (call _ [_, .ref x, .ref D]) >>= ret) _ _ _
  refine wpAny_bind (wpAny_holding ?_)
  refine wpAny_call (codeAny_call_builtin PySem.W.KF.slot_gs.plain PySem.W.KF.entry_gs (PySem.W.KF.slot_gs.check _ _ _ _ _ _ _ _ gs_ty (PySem.W.KF.args_gs _ _ _) ?_))
  show wpAny _ _ (Builtin.Getset_descriptor.descrGet _) _ _ _
  unfold Builtin.Getset_descriptor.descrGet
  refine wpAny_bind (wpAny_of_eq (gs_args x D) ?_)
  show wpAny _ _ (Builtin.Getset_descriptor.descrGetter _ _) _ _ _
  unfold Builtin.Getset_descriptor.descrGetter
  refine wpAny_bind ?_
  unfold Builtin.Getset_descriptor.descrCheckInstance Builtin.Getset_descriptor.descrNameAndClass
  simp only [gs_own]
  refine wpAny_bind (wpAny_pure ?_)
  refine wpAny_bind (wpAny_bind (wpAny_typeOf_ref J.at_ ?_))
  rw [J.cls]
  refine sub_exc hin C.ex C.mr ?_
  refine wpAny_pure (wpAny_pure ⟨Code.quiet_builtin _ (by decide +kernel), codeAny_builtin PySem.W.KF.entry_class ?_⟩)
  unfold Builtin.«object.__class__» shownTypeOf
  refine wpAny_bind (wpAny_bind (wpAny_typeOf_ref J.at_ ?_))
  rw [J.cls]
  refine wpAny_pure (wpAny_pure (wpAny_pure ?_))
  show wpAny _ _ (handedOut (.ref D)) _ _ _
  exact wpAny_of_eq (show handedOut (.ref D) = pure (.ref D) from rfl) (wpAny_pure q)
theorem exc_cls {h : Heap} (hin : K.In h) (X : PySem.W.excIn K D bmVE "ValueError.__new__" = true) : ∃ o cd, h.get? D = some o ∧ o.data = .cls cd ∧ o.cls = .type "type" := by
  obtain ⟨bm, N, nm, qn, bs, hdct, sn, sub, ab, col, dd', k0, k1, k2, k3, k5, mN, hC, _, _, _⟩ := exc_obj hin X
  exact ⟨_, _, hC, rfl, rfl⟩
theorem kitx_exc (C : ErrC K D) : PySem.W.KitX K (.ref x) (.ref D) fun h => ∃ ox, PySem.W.InstAt h x ox D none where
  ty := fun M h hin ⟨ox, J⟩ A Q E s k q => by
    refine wpAny_typeOf_ref (k _ _ J.at_) ?_
    rw [J.cls]
    exact q
  it := fun M h hin J A Q E s k q => by
    obtain ⟨o, cd, h1, h2, _⟩ := exc_cls hin C.ex
    exact ks_wpAny_isType_cls (k _ _ h1) h2 q
  ne := fun h tp dd its n sl hin e => by
    obtain ⟨o, cd, h1, h2, _⟩ := exc_cls hin C.ex
    have : D ≠ tp := fun z => by
      subst z
      rw [h1] at e
      cases e
      cases h2
    simpa using this
  ca := fun hin ⟨ox, J⟩ q => exc_class C hin J q
end
/-! an error that is kept -/
def ErrO (e C : Addr) : HO := .ext fun h => ∃ o, PySem.W.InstAt h e o C none
theorem errO_ok {P : Program} {w : World} {H : Hp} {h : Heap} {e C : Addr} {o : Obj} (h1 : h.get? e = some o) (h2 : o.cls = .ref C) (h3 : PySem.W.notCls o = true) (h4 : o.dict = none) : ObjOk P w H h e (ErrO e C) := by
  have mk : ∀ g : Heap, g.get? e = some o → PySem.W.InstAt g e o C none := fun g q => ⟨q, h2, h3, by rw [h4]; trivial⟩
  refine ⟨⟨o, mk h h1⟩, ⟨o, h1⟩, ?_⟩
  rintro g1 g2 ⟨o', J⟩ hs
  refine ⟨o', hs o' J.at_, J.cls, J.no, ?_⟩
  have := J.dict
  split at this
  · rename_i a b z; cases z
  · trivial
  · exact this.elim
theorem isi_err {X : Cx} {pins : List (Addr × Obj)} {σ : St} {H : Hp} {s : Shared} {e C : Addr} {c : Value} {b : Bool} {A : Around} {Q : Value → Shared → Prop} {E : Value → Shared → Prop} (I : Inv X pins σ H s) (EC : ErrC X.K C) (he : H e = some (ErrO e C)) (hk : PySem.W.kitOne X.K (.ref C) c = some b)
    (q : ∀ tk, Q (.bool b) { s with toks := tk }) : wpAny (model X.prog X.w) A (call (.builtin "isinstance") [.ref e, c]) Q E s := by
  obtain ⟨J, _⟩ := I.hok e _ he
  exact PySem.W.kia_one (kitx_exc EC) I.kIn J hk (fun z => nomatch z) q
end XR

set_option linter.all false
set_option maxRecDepth 100000
/-! ### try: f(); except C as e: y = e -/
namespace XR
open PySem PySem.Spec L2
section
variable {X : Cx} {pins : List (Addr × Obj)} {σ : St} {H H' : Hp} {s s' : Shared} {e : Addr} {o : HO} {A' : Around}
theorem inv_in (I : Inv X pins σ H s) (hf : A'.frames = X.A.frames) : Inv { X with A := A', calm := false } pins σ H s :=
  ⟨⟨I.ok.mod, I.ok.kind, I.ok.glob, I.ok.blt, I.ok.above, I.ok.inj, I.ok.has, I.ok.cab, (fun z => nomatch z), hf.trans I.ok.frames, I.ok.stk, I.ok.exf, I.ok.bs, I.ok.bsz, I.ok.noex, I.ok.exfs, I.ok.funs, I.ok.frf⟩, I.os, I.bare, I.base, I.loc, I.cell, I.free, I.freeC, I.pin, I.hok, I.len⟩
theorem inv_out (I : Inv { X with A := A', calm := false } pins σ H s) (ok : X.Ok) : Inv X pins σ H s :=
  ⟨ok, I.os, I.bare, I.base, I.loc, I.cell, I.free, I.freeC, I.pin, I.hok, I.len⟩
/-- an untracked new thing is tracked -/
theorem inv_track (I : Inv X pins σ H s) (I' : Inv X pins σ H' s') (hx : X.ex = []) (e0 : s.heap.get? e = none) (e1 : H' e = none) (ob : ObjOk X.prog X.w (upd H' e o) s'.heap e o) : Inv X pins σ (upd H' e o) s' := by
  have ne : ∀ {b : Addr} {u : Obj}, s.heap.get? b = some u → b ≠ e := fun {b u} q z => by rw [z, e0] at q; cases q
  refine ⟨I'.ok, I'.os, I'.bare, ⟨I'.base.keep, I'.base.slot, fun b u q n x => ?_, I'.base.there, fun b xs q => ?_, fun b ob' u q => ?_, fun b ps q => ?_⟩, I'.loc, I'.cell, ?_, fun x c q => ?_, fun p hp => ?_, fun b u q => ?_, I'.len⟩
  · obtain ⟨u', q'⟩ := I.base.there b u q x
    rw [upd_ne (ne q')]
    exact I'.base.free b u q n x
  · have := I'.base.tups b xs q
    rw [upd_ne (ne_of_none this e1)]; exact this
  · have := I'.base.frzs b ob' u q
    rw [upd_ne (ne_of_none this e1)]; exact this
  · obtain ⟨m, this⟩ := I'.base.tbls b ps q
    exact ⟨m, by rw [upd_ne (ne_of_none this e1)]; exact this⟩
  · obtain ⟨m, ⟨u, _, _, q, _⟩, _⟩ := I.loc
    rw [upd_ne (ne q)]; exact I'.free
  · obtain ⟨v, u, q', _⟩ := I.cell x c q
    rw [upd_ne (ne q')]; exact I'.freeC x c q
  · obtain ⟨a1, a2, a3, a4, a5⟩ := I'.pin p hp
    obtain ⟨b1, _⟩ := I.pin p hp
    exact ⟨a1, by rw [upd_ne (ne b1)]; exact a2, a3, a4, a5⟩
  · by_cases hb : b = e
    · subst hb
      rw [upd_same] at q; cases q; exact ob
    · rw [upd_ne hb] at q
      exact (I'.hok b u q).stay (fun c v _ r => r) (fun c r => by rw [upd_ne (ne_of_none r e1)]; exact r) fun c xs r => by rw [upd_ne (ne_of_none r e1)]; exact r
/-- the frame is noted in an error that is tracked -/
theorem inv_lv (I : Inv X pins σ H s) {C T : Addr} {h' : Heap} (he : H e = some (ErrO e C)) (lv : Lv X.stack e (.ref C) s.heap h' T) : Inv X pins σ H { s with heap := h' } := by
  have st := I.stkSub
  have nfr : ∀ b, b ≠ X.env.locals → b ∉ X.fs → b ∉ frs X.stack := fun b h1 h2 z => (List.mem_cons.mp (st b z)).elim h1 h2
  have unt : ∀ b, H b = none → b ≠ e := fun b q z => by rw [z, he] at q; cases q
  have sl : ∀ b o, s.heap.get? b = some o → H b = none → ∃ sl, h'.get? b = some { o with slots := sl } := fun b o q n => by
    by_cases z : b ∈ frs X.stack
    · exact lv.slot b o q z
    · exact ⟨o.slots, lv.keep b o q z (unt b n)⟩
  refine I.step (g' := s.gens) (d' := s.drawn) (t' := s.toks) (ch := []) (fun _ z => nomatch z) (fun b o h1 h2 _ q n => lv.keep b o q (nfr b h1 h2) (unt b n)) (fun b o _ _ _ q n => sl b o q n) (fun _ _ _ _ n => n) (fun b o _ q => lv.there b o q) (fun _ _ q => q) (fun _ _ _ q => q) (fun b ps q => ⟨#[], by rw [q]; simp⟩) (fun m hm => ?_) (fun b u q => ?_) I.bare
  · obtain ⟨o, es, ep, ho, r⟩ := hm
    obtain ⟨sl', q⟩ := sl _ o ho I.free
    exact ⟨_, es, ep, q, r⟩
  · by_cases z : b = e
    · subst z
      rw [he] at q; cases q
      obtain ⟨oe, vs, oT, ts, h1, h2, h3, h4, _⟩ := lv.fly
      exact errO_ok h1 h2 (by unfold PySem.W.notCls; rw [h4]) h3
    · have tr : ∀ c v, H c = some v → c ∉ frs X.stack := fun c v r y => by rw [I.stkFree c y] at r; cases r
      refine (I.hok b u q).stay (fun c v hc r => ?_) (fun _ r => r) fun _ _ r => r
      rcases hc with rfl | hc
      · exact lv.keep c v r (tr c _ q) z
      · exact lv.keep c v r (tr c _ hc) fun y => by rw [y, he] at hc; cases hc
end
section
variable {prog : Program} {w : World} {A : Around} {E : Value → Shared → Prop} {K : PySem.W.Frag} {h : Heap} {g : Array GenState} {d : Drawn} {tk : Nat} {os : OsState}
theorem exc_match {e C CT : Addr} {oe : Obj} (hin : K.In h) (hT : PySem.W.excIn K CT bmVE "ValueError.__new__" = true) (hTb : PySem.W.mroIn K CT (.type "BaseException") = some true) (hC : PySem.W.excIn K C bmVE "ValueError.__new__" = true) (hs : PySem.W.mroIn K C (.ref CT) = some true)
    (he : h.get? e = some oe) (hc : oe.cls = .ref C) {Q : Bool → Shared → Prop} (q : Q true ⟨h, g, d, tk, os⟩) : wpAny (model prog w) A (excMatches (.ref e) (.ref CT)) Q E ⟨h, g, d, tk, os⟩ := by
  obtain ⟨o, cd, h1, h2, h3⟩ := exc_cls hin hT
  unfold excMatches
  refine wpAny_bind (wpAny_isInstance (T := "type") (U := "tuple") (b := false) ⟨o, h1, h3⟩ (by rfl) ?_)
  refine wpAny_bind (wpAny_pure ?_)
  simp only [List.forIn_cons, List.forIn_nil]
  refine wpAny_bind (wpAny_bind ?_)
  unfold isExcClass
  refine wpAny_bind (wpAny_bind (ks_wpAny_isType_cls h1 h2 ?_))
  refine sub_exc hin hT hTb ?_
  rw [if_neg (by decide)]
  refine wpAny_pure (wpAny_pure ?_)
  refine wpAny_bind (wpAny_typeOf_ref he ?_)
  rw [hc]
  refine wpAny_bind (wpAny_bind (wpAny_bind (sub_exc hin hC hs ?_)))
  rw [if_pos rfl]
  exact wpAny_pure (wpAny_pure (wpAny_pure q))
end
end XR

set_option linter.all false
set_option maxRecDepth 100000
namespace XR
open PySem PySem.Spec L2
section
variable {X : Cx} {i0 iy ie : Nat} {x0 y n cx : Str} {CT : Addr} {p0 cp ep np yp np2 ap hp pos : Pos}
def tTry (X : Cx) (i0 iy ie : Nat) (CT : Addr) : TS := fun D σ H => ∃ a, σ[i0]? = some (some (.ref a)) ∧
  ∀ pins s, Inv X pins σ H s → (∃ o fd, s.heap.get? a = some o ∧ o.data = .func fd) ∧
    codeAny (model X.prog X.w) X.A (.call (.ref a) ⟨[], []⟩) (CR (CXR X.prog X.w) X.stack X.prog X.w H s (fun _ H' => D.nx σ H')
      (fun cls _ H' => ∃ C, cls = .ref C ∧ ErrC X.K C ∧ PySem.W.mroIn X.K C (.ref CT) = some true ∧ ∀ e, H' e = none → D.nx ((σ.set iy (some (.ref e))).set ie none) (upd H' e (ErrO e C)))) s
theorem inv_none {pins : List (Addr × Obj)} {σ : St} {H : Hp} {s : Shared} {i : Nat} (I : Inv X pins σ H s) : Inv X pins (σ.set i none) H s :=
  I.weak (by simp) fun j v h => by
    by_cases z : i = j
    · subst z
      by_cases l : i < σ.length
      · rw [List.getElem?_set_self l] at h; cases h
      · rw [List.getElem?_eq_none (by simpa using l)] at h; cases h
    · rwa [List.getElem?_set_ne z] at h
/-- a local name goes -/
theorem unbind_ok {pins : List (Addr × Obj)} {σ : St} {H : Hp} {s : Shared} {A : Around} {M : Model} {E : Value → Shared → Prop} {Q : Unit → Shared → Prop} {v : V} (I : Inv X pins σ H s) (hN : X.N.Nodup) (hn : X.N[ie]? = some n) (hl : X.env.scope.names.lookup n = some .local) (hv : σ[ie]? = some (some v))
    (k : ∀ s', Inv X pins (σ.set ie none) H s' → Q () s') : wpAny M A (unbindName X.env n) Q E s := by
  obtain ⟨m, hm, hlo⟩ := id I.loc
  obtain ⟨u, ru, lk⟩ := hlo ie n v hn hv (.inl hl)
  have hk : X.env.kindOf n = some .local := hl
  have mn : m n = some u := by
    rcases lk with ⟨_, q⟩ | ⟨q, _⟩
    · exact q
    · rw [hk] at q; rcases q with q | q <;> cases q
  have hcls : (X.env.scope.kind == .class || (X.env.scope.kind == .module && X.env.locals != X.env.globals)) = false := by rw [I.ok.kind]; rfl
  refine wpAny_unbindName_local hk hm mn hcls fun h' u' hm' hs => ?_
  obtain ⟨oL, _, _, hoL, _⟩ := id hm
  have cne := I.cne
  have J := inv_none (i := ie) I
  refine k { s with heap := h' } ⟨I.ok, I.os, I.bare, ⟨fun b o q n' hb hx => ?_, fun b o q n' hb hx => ?_, I.base.free, fun b o q hx => ?_, I.base.tups, I.base.frzs, I.base.tbls⟩, ⟨_, hm', fun j z w e1 e2 e3 => ?_⟩, fun z c q => ?_, I.free, I.freeC, fun p hp' => ?_, fun b ob q => ?_, by simpa using I.len⟩
  · exact (hs.2 b (Nat.ne_of_lt (Nat.lt_of_lt_of_le (Heap.lt_size q) I.ok.above))).trans (I.base.keep b o q n' hb hx)
  · obtain ⟨sl, e1⟩ := I.base.slot b o q n' hb hx
    exact ⟨sl, (hs.2 b (Nat.ne_of_lt (Nat.lt_of_lt_of_le (Heap.lt_size q) I.ok.above))).trans e1⟩
  · obtain ⟨o', e1⟩ := I.base.there b o q hx
    exact ⟨o', (hs.2 b (Nat.ne_of_lt (Nat.lt_of_lt_of_le (Heap.lt_size q) I.ok.above))).trans e1⟩
  · have hj : j ≠ ie := fun y => by
      subst y
      by_cases l : j < σ.length
      · rw [List.getElem?_set_self l] at e2; cases e2
      · rw [List.getElem?_eq_none (by simpa using l)] at e2; cases e2
    rw [List.getElem?_set_ne (Ne.symm hj)] at e2
    obtain ⟨u2, r2, q2⟩ := hlo j z w e1 e2 e3
    refine ⟨u2, r2, ?_⟩
    have nz : z ≠ n := fun y => hj (nodup_ix hN e1 (y ▸ hn))
    rcases q2 with ⟨k2, q2⟩ | ⟨k2, c, q2, z2⟩
    · exact .inl ⟨k2, by simp [nz, q2]⟩
    · exact .inr ⟨k2, c, q2, z2.sameBut hs (cne z c q2)⟩
  · obtain ⟨w, z2⟩ := I.cell z c q
    exact ⟨w, z2.sameBut hs (cne z c q)⟩
  · obtain ⟨e, n', ne, nf, d⟩ := I.pin p hp'
    exact ⟨(hs.2 p.1 ne).trans e, n', ne, nf, d⟩
  · refine (I.hok b ob q).stay (fun c w hc r => (hs.2 c ?_).trans r) (fun _ r => r) fun _ _ r => r
    rintro rfl
    rcases hc with rfl | hc
    · rw [I.free] at q; cases q
    · rw [I.free] at hc; cases hc
theorem ps_try (hst : X.stack = X.env :: X.outer) (hfr : X.env.frame = some X.env.locals) (hex : X.ex = []) (hc : X.calm = true) (hN : X.N.Nodup) (h0 : X.N[i0]? = some x0) (hv0 : Vis X.env.scope x0) (hy : X.N[iy]? = some y) (hly : X.env.scope.names.lookup y = some .local)
    (hn : X.N[ie]? = some n) (hln : X.env.scope.names.lookup n = some .local) (hyn : iy ≠ ie) (hg : Gl X cx) (hm : X.mg cx = some (.ref CT)) (hT : PySem.W.excIn X.K CT bmVE "ValueError.__new__" = true) (hTb : PySem.W.mroIn X.K CT (.type "BaseException") = some true)
    (d0 : (x0 == ("__debug__" : Str)) = false) (c0 : (x0 == ("__classdict__" : Str)) = false) (dn : (n == ("__debug__" : Str)) = false) (cn : (n == ("__classdict__" : Str)) = false) (dx : (cx == ("__debug__" : Str)) = false)
    (hs0 : swapsWith (.Call (.Name x0 p0) [] [] cp) none ep.line X.env = pure false := by rfl) (hs1 : swapsWith (.Name n np2) (some (.Name y yp)) ap.line X.env = pure false := by rfl) :
    PS X (.Try [.Expr (.Call (.Name x0 p0) [] [] cp) ep] [.ExceptHandler (some (.Name cx np)) (some n) [.Assign [.Name y yp] (.Name n np2) ap] hp] [] [] pos) (tTry X i0 iy ie CT) := by
  intro pins s σ H D I ⟨a, ha, hcall⟩
  refine wpAny_Try_except (wpAny_execs_cons (wpAny_Expr_any (wpAny_Call_Name_kw ?_) I.quiet hs0))
  refine wpAny_mono ((pe_var (X := X.nox) (pos := p0) h0 hv0 d0 c0) pins s σ H (fun v H1 => v = .ref a ∧ H1 = H) (I.wish _) ⟨_, ha, rfl, rfl⟩) (fun u s1 ⟨v, H1, I1, r, e1, e2⟩ => ?_) (fun _ _ z => z.elim)
  subst e1 e2
  cases (show u = Value.ref a from r)
  have I1 := I1.unwish
  obtain ⟨⟨o, fd, g1, g2⟩, hc'⟩ := hcall pins s1 I1
  refine PyProof.Rows.callWith_meth0 g2 g1 (wpAny_call (codeAny_mono hc' fun r s' hq => ?_))
  have hcall := 0
  cases r with
  | ok fl =>
    cases fl with
    | ret u =>
      obtain ⟨w, H', J, _, q⟩ := I1.after hq
      exact wpAny_execs_nil (wpAny_execs_nil ⟨σ, H', J, q⟩)
    | next => exact False.elim hq
    | brk => exact False.elim hq
    | cont => exact False.elim hq
  | error ev =>
    obtain ⟨e, T, cls, H', rfl, os, bare, un, ok, ⟨a1, a2⟩, ⟨b1, b2⟩, fl, C, rfl, EC, hsub, hE⟩ := hq
    have I2 : Inv X pins σ H' s' := I1.call' (ch := []) os un ok bare fun b z => absurd z List.not_mem_nil
    obtain ⟨oe, vs, oT, ts, f1, f2, f3, f4, f5⟩ := id fl
    have I3 : Inv X pins σ (upd H' e (ErrO e C)) s' := inv_track I1 I2 hex a1 a2 (errO_ok f1 f2 (by unfold PySem.W.notCls; rw [f4]) f3)
    have hfs : X.A.frames = some (X.env :: X.outer) := by rw [← hst]; exact I.ok.frames
    have hl : s'.heap.FunFrames X.base (X.env :: X.outer) := by rw [← hst]; exact I2.stack
    refine note hfs hl hfr (.inr ⟨T, fl⟩) fun h' T' lv => ?_
    rw [← hst] at lv
    have I4 := inv_lv I3 upd_same lv
    refine wpAny_handleBy_cons ?_ (fun z => nomatch z)
    have hA : (X.A.mark (some (Value.ref e))).frames = X.A.frames := rfl
    have I5 := inv_in (A' := X.A.mark (some (Value.ref e))) I4 hA
    obtain ⟨oe', vs', oT', ts', g1, g2, g3, g4, g5, g6, g7, g8, g9⟩ := id lv.fly
    refine codeAny_handlers_test (ld_glob (X := { X with A := X.A.mark (some (Value.ref e)), calm := false }) I5 hg hm ?_ dx)
    refine exc_match I4.kIn hT hTb EC.ex hsub g1 g2 ?_
    simp only [if_true]
    have s3 : 3 < ts'.size := by
      by_cases z : 3 < ts'.size
      · exact z
      · rw [Array.getElem?_eq_none (by omega)] at g9; cases g9
    refine codeAny_handlers_suite_as (wpAny_setFlight_none g1 g4 g5 g7 g8 s3 ?_)
    rw [Heap.update_setField_same _ _ _ _ _ _ g7 g8 g9]
    refine store_ok (X := { X with A := X.A.mark (some (Value.ref e)), calm := false }) (v := .ref e) I5 hN hn (.inl hln) rfl (fun s6 I6 => ?_) (.inr hln)
    have vn : (σ.set ie (some (V.ref e)))[ie]? = some (some (V.ref e)) := List.getElem?_set_self (by rw [I.len]; exact (List.getElem?_eq_some_iff.mp hn).1)
    refine wpAny_mono (pss_one (ps_set (X := ({ X with A := X.A.mark (some (Value.ref e)), calm := false } : Cx).nox) hN hy (.inl hly) (pe_var (X := ({ X with A := X.A.mark (some (Value.ref e)), calm := false } : Cx).nox) (pos := np2) hn (.inl hln) dn cn) hs1 (.inr hly)) pins s6 (σ.set ie (some (V.ref e))) (upd H' e (ErrO e C)) { nx := fun σ' H'' => σ' = (σ.set ie (some (V.ref e))).set iy (some (V.ref e)) ∧ H'' = upd H' e (ErrO e C), rt := fun _ _ => False } (I6.wish _) ⟨_, vn, rfl, rfl⟩) (fun f s7 hf => ?_) ?_
    · cases f with
      | next =>
        obtain ⟨σ', H'', I7, rfl, rfl⟩ := hf
        have I7 := inv_out I7.unwish I.ok
        simp only
        refine wpAny_bind (wpAny_bindName (store_ok (v := .non) I7 hN hn (.inl hln) rfl (fun s8 I8 => ?_) (.inr hln)))
        unfold unbindBehindTheSuite
        refine wpAny_onRaise (unbind_ok I8 hN hn hln (v := .non) (List.getElem?_set_self (by rw [List.length_set, List.length_set, I.len]; exact (List.getElem?_eq_some_iff.mp hn).1)) fun s9 I9 => ?_)
        refine ⟨_, _, I9, ?_⟩
        rw [List.set_set, List.set_comm _ _ hyn.symm, List.set_set]
        exact hE e a2
      | ret u => obtain ⟨_, _, _, _, _, z⟩ := hf; exact z.elim
      | brk => obtain ⟨_, _, _, z⟩ := hf; exact z.elim
      | cont => obtain ⟨_, _, _, z⟩ := hf; exact z.elim
    · exact fun _ _ z => z.elim
end
end XR

set_option linter.all false
set_option maxRecDepth 100000
/-! ### what is refused: readings that end with an error of a class -/
namespace DL
open PySem PySem.Spec L2 XR
abbrev FX := DEnv → Bxs → Option (Nat × Bxs)
abbrev SemX := List DV → Bxs → Option (Nat × Bxs)
def xD (K : PySem.W.Frag) (E : XK) (cls : Nat → Addr) (g : FX) (σ : L2.St) (H : Hp) : Prop :=
  ∃ ρ ε S k S', Sim K ρ ε S σ H ∧ g ε S = some (k, S') ∧ ∀ H' ρ', Ext K ρ H ρ' H' → StOk K ρ' H' S' → E (.ref (cls k)) none H'
structure RE (X : Cx) (E : XK) (cls : Nat → Addr) (e : Expr) (g : FX) : Prop where
  pe : PE X e fun σ H _ => xD X.K E cls g σ H
structure RS (X : Cx) (E : XK) (cls : Nat → Addr) (st : Stmt) (g : FX) : Prop where
  ps : PS X st fun _ σ H => xD X.K E cls g σ H
structure RSs (X : Cx) (E : XK) (cls : Nat → Addr) (st : List Stmt) (g : FX) : Prop where
  pss : PSs X st fun _ σ H => xD X.K E cls g σ H
def xNo : FX := fun _ _ => none
def xIf (ft : FT) (g g' : FX) : FX := fun ε S => match ft ε S with
  | some (true, S1) => g ε S1
  | some (false, S1) => g' ε S1
  | none => none
def xRaise (k : Nat) (fr : FA) : FX := fun ε S => match fr ε S with
  | some (dvs, S') => if dvs.length ≤ 100 then some (k, S') else none
  | none => none
def xCall (n : Nat) (sem : SemX) (fr : FA) : FX := fun ε S => match fr ε S with
  | some (xs, S1) => if xs.length = n then sem (xs.map norm) S1 else none
  | none => none
section
variable {X : Cx} {E : XK} {cls : Nat → Addr} {st : Stmt} {rest : List Stmt} {g : FS} {gx gy : FX} {e : Expr} {es : List Expr} {fr : FA} {pos : Pos}
theorem rss_no : RSs X E cls rest xNo := ⟨fun pins s σ H D I ⟨ρ, ε, S, k, S', M, h, _⟩ => by cases h⟩
theorem rss_head (h1 : RS X E cls st gx) : RSs X E cls (st :: rest) gx := ⟨fun pins s σ H D I h => pss_cons (u := fun _ _ _ => False) h1.ps (fun _ _ _ _ _ _ z => z.elim) pins s σ H D I h⟩
theorem rs_expr (he : RE X E cls e gx) (hs : swapsWith e none pos.line X.env = pure false := by rfl) : RS X E cls (.Expr e pos) gx := ⟨fun pins s σ H D I h => ps_expr he.pe hs pins s σ H D I h⟩
theorem rs_if {c : Expr} {a b : List Stmt} {ft : FT} (hc : DT X c ft) (ha : RSs X E cls a gx) (hb : RSs X E cls b gy) : RS X E cls (.If c a b pos) (xIf ft gx gy) := ⟨fun pins s σ H D I ⟨ρ, ε, S, k, S', M, h, kk⟩ => ps_if hc.pt ha.pss hb.pss pins s σ H D I (by
  unfold xIf at h
  split at h
  · rename_i S1 h1
    refine ⟨ρ, ε, S, true, S1, M, h1, fun H1 st1 x1 => ?_⟩
    dsimp only
    rw [if_pos rfl]
    exact ⟨ρ, ε, S1, k, S', M.next x1 st1, h, fun H2 ρ2 x2 st2 => kk H2 ρ2 (x1.trans x2) st2⟩
  · rename_i S1 h1
    refine ⟨ρ, ε, S, false, S1, M, h1, fun H1 st1 x1 => ?_⟩
    dsimp only
    rw [if_neg Bool.false_ne_true]
    exact ⟨ρ, ε, S1, k, S', M.next x1 st1, h, fun H2 ρ2 x2 st2 => kk H2 ρ2 (x1.trans x2) st2⟩
  · cases h)⟩
theorem rs_raise {x : Str} {k : Nat} {np cpos : Pos} (XX : XC X E) (hc : X.calm = true) (hg : Gl X x) (hm : X.mg x = some (.ref (cls k))) (hq : PySem.W.excIn X.K (cls k) bmVE "ValueError.__new__" = true) (ha : DA X [e] fr) (hdb : (x == ("__debug__" : Str)) = false := by decide)
    (he : starEach [e] X.env = (false, eval e X.env) :: starEach [] X.env := by rfl) (hpl : (backTo cpos (starEach [] X.env)).any (·.1) = false := by rfl) :
    RS X E cls (.Raise (some (.Call (.Name x np) [e] [] cpos)) none pos) (xRaise k fr) := ⟨fun pins s σ H D I ⟨ρ, ε, S, k', S', M, h, kk⟩ => ps_raise XX hc hg hm hq ha.pa hdb he hpl pins s σ H D I (by
  unfold xRaise at h
  split at h
  · rename_i dvs S1 h1
    split at h
    · rename_i hl
      cases h
      exact ⟨ρ, ε, S, dvs, S', M, h1, fun vs H' st' r x => ⟨by rw [r.length]; exact hl, kk H' ρ x st'⟩⟩
    · cases h
  · cases h)⟩
/-- a def that refuses -/
def spX (K : PySem.W.Frag) (n : Nat) (sem : SemX) (cls : Nat → Addr) : Sp := fun vs H _ E => vs.length = n ∧ ∃ ρ S dvs k S', StOk K ρ H S ∧ RVs K ρ H H vs dvs ∧ sem dvs S = some (k, S') ∧ ∀ H', Ext K ρ H ρ H' → StOk K ρ H' S' → E (.ref (cls k)) none H'
def semOfX (m : Nat) (g : FX) : SemX := fun dvs S => match g (dvs.map some ++ List.replicate (m - dvs.length) none) S with
  | some (k, S') => some (k, S'.take S.length)
  | none => none
structure FnX (P : Program) (w : World) (K : PySem.W.Frag) (mg : Str → Option Value) (base : Heap) (cls : Nat → Addr) (k : Nat) (x : Str) (ps : List Str) (n : Nat) (sem : SemX) : Prop where
  ex : ∃ (f : Addr) (fd : FuncData), FnOk P w K mg base (CXR P w) k f fd ps (spX K n sem cls) ∧ mg x = some (.ref f) ∧ PySem.W.keepIn K (.ref f) = true ∧ Binds K fd ps []
theorem re_call {x : Str} {p : Pos} {k j n : Nat} {ps : List Str} {sem : SemX} (XX : XC X E) (F : FnX X.prog X.w X.K X.mg X.base cls j x ps n sem) (hr : Room k X.A) (hj : j ≤ k) (hg : Gl X x) (ha : DA X (e :: es) fr) (hdb : (x == ("__debug__" : Str)) = false := by decide)
    (he : starEach (e :: es) X.env = (false, eval e X.env) :: starEach es X.env := by rfl) (hpl : (backTo pos (starEach es X.env)).any (·.1) = false := by rfl) : RE X E cls (.Call (.Name x p) (e :: es) [] pos) (xCall n sem fr) := by
  obtain ⟨f, fd, h1, h2, h3, h4⟩ := F.ex
  refine ⟨PE.imp (pe_call (dvs := []) h1 (hr.mono hj) hg h2 h3 h4 .nil (xr_pass XX) ha.pa hdb he hpl) fun σ H Q ⟨ρ, ε, S, k', S', M, h, kk⟩ => ?_⟩
  unfold xCall at h
  split at h
  · rename_i xs S1 e1
    split at h
    · rename_i hn
      refine ⟨ρ, ε, S, xs, S1, M, e1, fun vs H1 st1 r1 x1 => ?_⟩
      show spX X.K n sem cls (vs ++ []) H1 _ _
      rw [List.append_nil]
      exact ⟨by rw [r1.length]; exact hn, ρ, S1, _, k', S', st1, r1.norm, h, fun H2 x2 st2 => kk H2 ρ (x1.trans x2) st2⟩
    · cases h
  · cases h
end
section
variable {P : Program} {w : World} {K : PySem.W.Frag} {mg : Str → Option Value} {base : Heap}
abbrev BdX (P : Program) (w : World) (K : PySem.W.Frag) (mg : Str → Option Value) (base : Heap) (N : List Str) (qual : Str) (sc : Scope) (f : Addr) (cdv : Value) (A : Around) (outer : List Env) (s : Shared) (H : Hp) (E : XK) : Cx := cxOf (CXR P w) P w K mg base N qual sc f cdv A outer s H E
theorem fnX_data {x qual : Str} {st : Stmt} {f : Addr} {fd : FuncData} {N ps : List Str} {k n : Nat} {g : FX} {cls : Nat → Addr} (F : Fun K x qual st f fd) (S : FnScope N ps (defScope st)) (hn : n = ps.length)
    (hb : ∀ (cdv : Value) (A : Around) (outer : List Env) (s : Shared) (H : Hp) (E : XK), Room k (A.deeper (PyProof.Rows.envOfC qual (defScope st) s.heap.objs.size f cdv)) → RSs (BdX P w K mg base N qual (defScope st) f cdv A outer s H E) E cls (defBody st) g) :
    FnOk P w K mg base (CXR P w) (k + 1) f fd ps (spX K n (semOfX N.length g) cls) := by
  subst hn
  obtain ⟨oc, od, kV, doc, pm, an, cdv, ct, osl, rfl, lk, hcd⟩ := F.ex
  refine fn_of lk hcd S (fun vs H Q E h => h.1) fun A outer s H vs Q E hr h => ?_
  obtain ⟨hl, ρ, SS, dvs, k', S', st0, r, e, kk⟩ := h
  refine ⟨_, (hb cdv A outer s H E hr).pss, ?_⟩
  unfold semOfX at e
  split at e
  · rename_i k2 S2 e1
    cases e
    refine ⟨ρ, _, SS, k', S2, Sim.start st0 r, e1, fun H' ρ' x' st' => ?_⟩
    obtain ⟨more, em⟩ := x'.pre
    subst em
    refine kk H' x'.drop ?_
    rw [← st0.len]
    exact st'.drop
  · cases e
end
end DL

set_option linter.all false
set_option maxRecDepth 100000
/-! ### the law's own look at a refusal -/
namespace DL
open PySem PySem.Spec L2 XR
section
variable {X : Cx}
def rIsi (K : PySem.W.Frag) : List V → Hp → VK → Prop := fun xs H Q => ∃ x c u b, xs = [x, c] ∧ (c = .ref u ∨ False) ∧ ((x = .non ∧ PySem.W.kitOne K (.type "NoneType") (.ref u) = some b) ∨ ∃ e C, x = .ref e ∧ H e = some (ErrO e C) ∧ ErrC K C ∧ PySem.W.kitOne K (.ref C) (.ref u) = some b) ∧ Q (.bl b) H
theorem call_isi : CallR X (.builtin "isinstance") (rIsi X.K) := by
  intro pins s σ H xs us Q I r h
  obtain ⟨x, c, u, b, rfl, hc, hx, q⟩ := h
  rcases hc with rfl | z
  · cases r with
    | cons r1 r2 =>
      cases r2 with
      | cons r2 r3 =>
        cases r3
        cases (show _ = Value.ref u from r2)
        rcases hx with ⟨rfl, hk⟩ | ⟨e, C, rfl, he, EC, hk⟩
        · exact isinst_ok I r1 .non hk fun tk => ⟨.bl b, H, I.tok tk, rfl, q⟩
        · cases (show _ = Value.ref e from r1)
          exact isi_err I EC he hk fun tk => ⟨.bl b, H, I.tok tk, rfl, q⟩
  · exact z.elim
def rIsiT (K : PySem.W.Frag) : List V → Hp → VK → Prop := fun xs H Q => ∃ x T b, xs = [x, .ty T] ∧ ((x = .non ∧ PySem.W.kitOne K (.type "NoneType") (.type T) = some b) ∨ ∃ e C, x = .ref e ∧ H e = some (ErrO e C) ∧ ErrC K C ∧ PySem.W.kitOne K (.ref C) (.type T) = some b) ∧ Q (.bl b) H
theorem call_isiT : CallR X (.builtin "isinstance") (rIsiT X.K) := by
  intro pins s σ H xs us Q I r h
  obtain ⟨x, T, b, rfl, hx, q⟩ := h
  cases r with
  | cons r1 r2 =>
    cases r2 with
    | cons r2 r3 =>
      cases r3
      cases (show _ = Value.type T from r2)
      rcases hx with ⟨rfl, hk⟩ | ⟨e, C, rfl, he, EC, hk⟩
      · exact isinst_ok I r1 .non hk fun tk => ⟨.bl b, H, I.tok tk, rfl, q⟩
      · cases (show _ = Value.ref e from r1)
        exact isi_err I EC he hk fun tk => ⟨.bl b, H, I.tok tk, rfl, q⟩
end
def tIsi (K : PySem.W.Frag) (i : Nat) (c : Addr) : TE := tCB (rIsi K) (tCons (tVar i) (tCons (tC (.ref c)) tNil))
def tIsiT (K : PySem.W.Frag) (i : Nat) (T : String) : TE := tCB (rIsiT K) (tCons (tVar i) (tCons (tC (.ty T)) tNil))
/-- the body of the look -/
def tRf (X : Cx) (cls : Nat → Addr) (CT : Addr) (g6 : FS) : TS :=
  tSeq (tAsg (tC .non) (gName 1)) (tSeq (tTry X 0 1 2 CT) (tSeq (tAsg (tLst (tCons (tIsi X.K 1 (cls 0)) (tCons (tIsi X.K 1 (cls 1)) (tCons (tIsi X.K 1 (cls 2)) tNil)))) (gName 3)) (tSeq (tAsg (tOp (rCatL X.K) (tVar 3) (tLst (tCons (tIsi X.K 1 (cls 3)) (tCons (tIsi X.K 1 (cls 4)) tNil)))) (gName 3))
    (tSeq (tIfS (tNot (tB (tIsiT X.K 1 "ValueError"))) (tRet (tC .non)) tNext) (sD X.K g6)))))
/-- the classes, as the fragment tells them -/
structure KitC (K : PySem.W.Frag) (cls : Nat → Addr) (CT : Addr) : Prop where
  err : ∀ k, k < 5 → ErrC K (cls k)
  sub : ∀ k, k < 5 → PySem.W.mroIn K (cls k) (.ref CT) = some true
  eq : ∀ k j, k < 5 → j < 5 → PySem.W.kitOne K (.ref (cls k)) (.ref (cls j)) = some (decide (k = j))
  ve : ∀ k, k < 5 → PySem.W.kitOne K (.ref (cls k)) (.type "ValueError") = some true
  no : ∀ j, j < 5 → PySem.W.kitOne K (.type "NoneType") (.ref (cls j)) = some false
  nv : PySem.W.kitOne K (.type "NoneType") (.type "ValueError") = some false
  ct : PySem.W.excIn K CT bmVE "ValueError.__new__" = true
  cb : PySem.W.mroIn K CT (.type "BaseException") = some true
def E6 (k : Nat) : DEnv := [none, none, none, some (.dat (.list ((List.range 5).map fun j => .bool (decide (k = j))))), none]
def σ1 (a : Addr) : L2.St := [some (.ref a), some .non, none, none, none]
section
variable {X : Cx} {cls : Nat → Addr} {CT a : Addr} {g6 : FS} {H : Hp} {Q : VK}
theorem rf_read (KC : KitC X.K cls CT) (hg6 : ∀ k, k < 5 → ∀ S, g6 (E6 k) S = some (.rt (.lst [.int k]) S))
    (hcall : ∀ pins s, L2.Inv X pins (σ1 a) H s → (∃ o fd, s.heap.get? a = some o ∧ o.data = .func fd) ∧
      codeAny (model X.prog X.w) X.A (.call (.ref a) ⟨[], []⟩) (CR (CXR X.prog X.w) X.stack X.prog X.w H s
        (fun _ H' => ∃ ρ S', StOk X.K ρ H' S' ∧ ∀ H2, Ext X.K ρ H' ρ H2 → StOk X.K ρ H2 S' → Q .non H2)
        (fun c _ H' => ∃ k ρ S', k < 5 ∧ c = .ref (cls k) ∧ StOk X.K ρ H' S' ∧ ∀ v H2, Ext X.K ρ H' ρ H2 → Val X.K ρ H' H2 S' v (.lst [.int k]) → Q v H2)) s) :
    tRf X cls CT g6 { nx := fun _ H' => Q .non H', rt := Q } [some (.ref a), none, none, none, none] H := by
  have hsz : (5 : Nat) ≤ sizeLine := by decide
  -- what follows a call that ended well
  have nrm : ∀ H', (∃ ρ S', StOk X.K ρ H' S' ∧ ∀ H2, Ext X.K ρ H' ρ H2 → StOk X.K ρ H2 S' → Q .non H2) → tSeq (tAsg (tLst (tCons (tIsi X.K 1 (cls 0)) (tCons (tIsi X.K 1 (cls 1)) (tCons (tIsi X.K 1 (cls 2)) tNil)))) (gName 3)) (tSeq (tAsg (tOp (rCatL X.K) (tVar 3) (tLst (tCons (tIsi X.K 1 (cls 3)) (tCons (tIsi X.K 1 (cls 4)) tNil)))) (gName 3))
      (tSeq (tIfS (tNot (tB (tIsiT X.K 1 "ValueError"))) (tRet (tC .non)) tNext) (sD X.K g6))) { nx := fun _ H' => Q .non H', rt := Q } (σ1 a) H' := by
    rintro H' ⟨ρ, S', st, k⟩
    have is : ∀ (σ : L2.St) (H : Hp) (j : Nat) (Q : VK), j < 5 → σ[1]? = some (some .non) → Q (.bl false) H → tIsi X.K 1 (cls j) σ H Q := fun σ H j Q hj h1 q => ⟨_, h1, _, _, cls j, false, rfl, .inl rfl, .inl ⟨rfl, KC.no j hj⟩, q⟩
    refine is _ _ 0 _ (by decide) rfl (is _ _ 1 _ (by decide) rfl (is _ _ 2 _ (by decide) rfl ⟨by simpa using Nat.le_trans (by decide : 3 ≤ 5) hsz, fun p hp => ?_⟩))
    have st1 := st.upd (o := .lst [.bl false, .bl false, .bl false]) hp
    refine ⟨.ref p, rfl, is _ _ 3 _ (by decide) rfl (is _ _ 4 _ (by decide) rfl ⟨by simpa using Nat.le_trans (by decide : 2 ≤ 5) hsz, fun p2 hp2 => ?_⟩)⟩
    have hne : p ≠ p2 := fun z => by subst z; rw [upd_same] at hp2; cases hp2
    have st2 := st1.upd (o := .lst [.bl false, .bl false]) hp2
    refine ⟨p, p2, _, _, rfl, rfl, .inl (.inl (by rw [upd_ne hne]; exact upd_same)), .inl (.inl upd_same), by simpa using hsz, fun p3 hp3 => ?_⟩
    have st3 := st2.upd (o := .lst ([.bl false, .bl false, .bl false] ++ [.bl false, .bl false])) hp3
    refine ⟨_, rfl, _, "ValueError", false, rfl, .inl ⟨rfl, KC.nv⟩, false, rfl, ?_⟩
    exact k _ (((Ext.upd hp).trans (Ext.upd hp2)).trans (Ext.upd hp3)) st3
  refine ⟨a, rfl, fun pins s I => ?_⟩
  obtain ⟨ho, hc⟩ := hcall pins s I
  refine ⟨ho, codeAny_mono hc fun r s' hq => ?_⟩
  cases r with
  | ok fl =>
    cases fl with
    | ret u =>
      obtain ⟨v, H', os, bare, un, ok, rv, q⟩ := hq
      exact ⟨v, H', os, bare, un, ok, rv, nrm H' q⟩
    | next => exact hq
    | brk => exact hq
    | cont => exact hq
  | error ev =>
    obtain ⟨e, T, c, H', rfl, os, bare, un, ok, ha1, hb1, fl, k, ρ, S', hk, rfl, st, kk⟩ := hq
    refine ⟨e, T, _, H', rfl, os, bare, un, ok, ha1, hb1, fl, cls k, rfl, KC.err k hk, KC.sub k hk, fun e' he' => ?_⟩
    have st0 := st.upd (o := ErrO e' (cls k)) he'
    have is : ∀ (σ : L2.St) (H : Hp) (j : Nat) (Q : VK), j < 5 → σ[1]? = some (some (.ref e')) → H e' = some (ErrO e' (cls k)) → Q (.bl (decide (k = j))) H → tIsi X.K 1 (cls j) σ H Q := fun σ H j Q hj h1 h2 q => ⟨_, h1, _, _, cls j, decide (k = j), rfl, .inl rfl, .inr ⟨e', cls k, rfl, h2, KC.err k hk, KC.eq k j hk hj⟩, q⟩
    refine is _ _ 0 _ (by decide) rfl upd_same (is _ _ 1 _ (by decide) rfl upd_same (is _ _ 2 _ (by decide) rfl upd_same ⟨by simpa using Nat.le_trans (by decide : 3 ≤ 5) hsz, fun p hp => ?_⟩))
    have hpe : e' ≠ p := fun z => by subst z; rw [upd_same] at hp; cases hp
    have st1 := st0.upd (o := .lst [.bl (decide (k = 0)), .bl (decide (k = 1)), .bl (decide (k = 2))]) hp
    have he1 : upd (upd H' e' (ErrO e' (cls k))) p (.lst [.bl (decide (k = 0)), .bl (decide (k = 1)), .bl (decide (k = 2))]) e' = some (ErrO e' (cls k)) := by rw [upd_ne hpe]; exact upd_same
    refine ⟨.ref p, rfl, is _ _ 3 _ (by decide) rfl he1 (is _ _ 4 _ (by decide) rfl he1 ⟨by simpa using Nat.le_trans (by decide : 2 ≤ 5) hsz, fun p2 hp2 => ?_⟩)⟩
    have hne : p ≠ p2 := fun z => by subst z; rw [upd_same] at hp2; cases hp2
    have hpe2 : e' ≠ p2 := ne_of_none he1 hp2
    have st2 := st1.upd (o := .lst [.bl (decide (k = 3)), .bl (decide (k = 4))]) hp2
    refine ⟨p, p2, _, _, rfl, rfl, .inl (.inl (by rw [upd_ne hne]; exact upd_same)), .inl (.inl upd_same), by simpa using hsz, fun p3 hp3 => ?_⟩
    have he2 : upd (upd (upd H' e' (ErrO e' (cls k))) p (.lst [.bl (decide (k = 0)), .bl (decide (k = 1)), .bl (decide (k = 2))])) p2 (.lst [.bl (decide (k = 3)), .bl (decide (k = 4))]) e' = some (ErrO e' (cls k)) := by rw [upd_ne hpe2]; exact he1
    have hpe3 : e' ≠ p3 := ne_of_none he2 hp3
    have st3 := st2.upd (o := .lst ([.bl (decide (k = 0)), .bl (decide (k = 1)), .bl (decide (k = 2))] ++ [.bl (decide (k = 3)), .bl (decide (k = 4))])) hp3
    refine ⟨_, rfl, _, "ValueError", true, rfl, .inr ⟨e', cls k, rfl, by rw [upd_ne hpe3]; exact he2, KC.err k hk, KC.ve k hk⟩, true, rfl, ?_⟩
    have xx := (((Ext.upd (K := X.K) (ρ := ρ) (o := ErrO e' (cls k)) he').trans (Ext.upd hp)).trans (Ext.upd hp2)).trans (Ext.upd (o := .lst ([.bl (decide (k = 0)), .bl (decide (k = 1)), .bl (decide (k = 2))] ++ [.bl (decide (k = 3)), .bl (decide (k = 4))])) hp3)
    have n3 := (st2.notin hp3)
    refine ⟨ρ, E6 k, S', .rt (.lst [.int k]) S', ⟨st3, fun i dv hi => ?_, rfl⟩, hg6 k hk S', fun v H2 ρ' x' v' => ?_⟩
    · have : i = 3 ∧ dv = .dat (.list ((List.range 5).map fun j => .bool (decide (k = j)))) := by
        unfold E6 at hi
        match i, hi with
        | 0, hi => simp at hi
        | 1, hi => simp at hi
        | 2, hi => simp at hi
        | 3, hi => simp at hi; exact ⟨rfl, by rw [← hi]⟩
        | 4, hi => simp at hi
        | n + 5, hi => simp at hi
      obtain ⟨rfl, rfl⟩ := this
      refine ⟨.ref p3, rfl, .dat (.lst (.inl ⟨n3, .inl upd_same⟩) ?_)⟩
      exact .cons (.bl _) (.cons (.bl _) (.cons (.bl _) (.cons (.bl _) (.cons (.bl _) .nil))))
    · obtain ⟨more, em⟩ := x'.pre
      have : more = [] := by
        have h1 := v'.st.len
        have h2 := st3.len
        rw [em, List.length_append] at h1
        exact List.length_eq_zero_iff.mp (by omega)
      rw [this, List.append_nil] at em
      subst em
      exact kk v H2 (xx.trans x') (v'.back fun q hq => xx.free hq)
end
end DL

set_option linter.all false
set_option maxRecDepth 100000
namespace DL
open PySem PySem.Spec L2 XR
/-- a def's run from one state -/
theorem fn_at {P : Program} {w : World} {K : PySem.W.Frag} {mg : Str → Option Value} {base : Heap} {k : Nat} {x qual : Str} {st : Stmt} {f : Addr} {fd : FuncData} {N ps : List Str} {A : Around} {outer : List Env} {s : Shared} {H : Hp} {us : List Value} {vs : List V} {Q : VK} {E : XK} {args : Args}
    (F : Fun K x qual st f fd) (S : FnScope N ps (defScope st)) (hl : vs.length = ps.length) (hr : Room (k + 1) A) (e0 : Env0 P w K mg base A outer s H) (hb : BindsTo s fd args (ps.zip us)) (r : Vals vs us)
    (body : ∀ cdv, Room k (A.deeper (PyProof.Rows.envOfC qual (defScope st) s.heap.objs.size f cdv)) → ∃ t, PSs (cxOf CX0 P w K mg base N qual (defScope st) f cdv A outer s H E) (defBody st) t ∧ t { nx := fun _ H' => Q .non H', rt := Q } (L2.start N vs) H) :
    codeAny (model P w) A (.call (.ref f) args) (CR CX0 outer P w H s Q E) s := by
  obtain ⟨oc, od, kV, doc, pm, an, cdv, ct, osl, rfl, lk, hcd⟩ := F.ex
  have kk : ∀ b o, base.get? b = some o → s.heap.get? b = some o := fun b o q => (e0.bs b o q).1
  have inS := e0.mod.kin.keeps kk
  refine codeAny_call_function hr.depth (inS _ _ lk) rfl S.co S.gen rfl (PySem.W.codeRec_of inS hcd) (hb _ _ _ _ ?_)
  refine wpAny_newFunctionEnv_cells S.kind (fun y hy => ?_) fun env henv s2 inn => ?_
  · rcases S.par y.1 (List.of_mem_zip hy).1 with z | z
    · exact .inl z
    · exact .inr ⟨z, PySem.W.cellsFrom_some _ _ _ (.inl z)⟩
  · subst henv
    obtain ⟨t, h1, h2⟩ := body cdv (hr.deeper _)
    have J := inv_start (CX := CX0) (E := E) S hr.hd e0 hl r inn
    refine ⟨(e0.mod.nolimit.keeps kk).keeps inn.toInCall.keep, codeAny_func (wpAny_mono (h1 [] s2 _ H _ J h2) (fun fl s3 hs => ?_) fun _ _ z => z)⟩
    cases fl with
    | next =>
      obtain ⟨σ3, H3, J3, q⟩ := hs
      exact ⟨.non, H3, J3.os, J3.bare, J3.base, J3.hok, rfl, q⟩
    | ret u =>
      obtain ⟨v, σ3, H3, J3, rv, q⟩ := hs
      exact ⟨v, H3, J3.os, J3.bare, J3.base, J3.hok, rv, q⟩
    | brk => obtain ⟨_, _, _, z⟩ := hs; exact z.elim
    | cont => obtain ⟨_, _, _, z⟩ := hs; exact z.elim
def N2 : List Str := ["_law_call", "_law_error", "e", "_law_sorts", "_law_k"]
def fRef (gx : FX) (f : FE) : FE := fun ε S => match gx ε S with
  | some (k, S') => if k < 5 ∧ S'.length = S.length then some (.lst [.int k], S') else none
  | none => (match f ε S with
    | some (_, S') => some (.dat .none, S')
    | none => none)
/-- the def, told -/
structure Rfd (P : Program) (w : World) (K : PySem.W.Frag) (mg : Str → Option Value) (base : Heap) (cls : Nat → Addr) (CT : Addr) : Prop where
  ex : ∃ (r : Addr) (fd : FuncData) (st : Stmt) (g6 : FS), Fun K "_law_refused" "_law_refused" st r fd ∧ FnScope N2 ["_law_call"] (defScope st) ∧ mg "_law_refused" = some (.ref r) ∧ PySem.W.keepIn K (.ref r) = true ∧ Binds K fd ["_law_call"] [] ∧
    (∀ k, k < 5 → ∀ S, g6 (E6 k) S = some (.rt (.lst [.int k]) S)) ∧
    ∀ cdv A outer s H E, Room 2 (A.deeper (PyProof.Rows.envOfC "_law_refused" (defScope st) s.heap.objs.size r cdv)) → PSs (cxOf CX0 P w K mg base N2 "_law_refused" (defScope st) r cdv A outer s H E) (defBody st) (tRf (cxOf CX0 P w K mg base N2 "_law_refused" (defScope st) r cdv A outer s H E) cls CT g6)
  kit : KitC K cls CT
/-- what a lambda's scope must be -/
structure LamS (X : Cx) (scope : Scope) : Prop where
  co : scope.isCoroutine = false
  gen : scope.isGenerator = false
  kind : scope.kind = .function
  nocell : ∀ y ∈ scope.names, y.2 ≠ .cell ∧ y.2 ≠ .local
  free : ∀ y ∈ scope.names, y.2 = .free → X.env.scope.names.lookup y.1 = some .cell
section
variable {X : Cx} {args : Arguments} {body : Expr} {scope : Scope} {lpos pos p : Pos} {cls : Nat → Addr} {CT : Addr} {gx : FX} {f : FE} {c P : Addr} {q : Str} {k : Nat}
theorem clo_of {pins : List (Addr × Obj)} {σ : L2.St} {H : Hp} {s : Shared} (I : L2.Inv X pins σ H s) (LS : LamS X scope) (hfn : ∀ x, X.fn x = true) :
    ∃ clos, closureFor scope X.env = pure clos ∧ (∀ x cc, clos.lookup x = some cc → X.env.cells.lookup x = some cc) ∧ ∀ x, scope.names.lookup x = some .free → ∃ cc, clos.lookup x = some cc := by
  have hc : ∀ y ∈ scope.names, y.2 = .free → ∃ cc, X.env.cells.lookup y.1 = some cc := fun y hy hz => I.ok.has y.1 (.inl (LS.free y hy hz))
  refine ⟨_, closure_ok hc, fun x cc h => ?_, fun x h => ?_⟩
  · have hm := PySem.mem_of_lookup h
    rcases cloFrom_mem hm with z | ⟨z1, z2⟩
    · exact absurd z List.not_mem_nil
    · obtain ⟨c2, h2⟩ := hc _ z1 rfl
      rw [h2] at z2 ⊢
      rw [z2]; rfl
  · exact mem_lookup (cloFrom_has (cells := X.env.cells) (acc := []) (PySem.mem_of_lookup h))
theorem de_refused (RF : Rfd X.prog X.w X.K X.mg X.base cls CT) (hst : X.stack = X.env :: X.outer) (hfn : ∀ x, X.fn x = true) (hr : Room (k + 4) X.A) (hg : Gl X "_law_refused") (LX : LamX X c P q) (hT : TabAt X.K P q) (hq : ∀ q', TabAt X.K P q' → q' = q) (LS : LamS X scope)
    (hbind : ∀ clos pm cv ctv, bindArgs (PySem.W.kla_fn "<lambda>" q args body scope clos pm cv ctv) ⟨[], []⟩ = pure [])
    (hx : ∀ a c' clos A outer s H E, Room (k + 1) (A.deeper (PySem.W.envX q scope s.heap.objs.size a (.ref c') clos)) → RE (cxL X.prog X.w X.K X.mg X.base X.N q scope a c' clos A outer s H E) E cls body gx)
    (hd : ∀ a c' clos A outer s H E, Room (k + 1) (A.deeper (PySem.W.envX q scope s.heap.objs.size a (.ref c') clos)) → DE (cxL X.prog X.w X.K X.mg X.base X.N q scope a c' clos A outer s H E) body f)
    (hdf : defaultsOf args X.env = ([], []) := by rfl) (he : starEach [.Lambda args body scope lpos] X.env = (false, eval (.Lambda args body scope lpos) X.env) :: starEach [] X.env := by rfl) (hpl : (backTo pos (starEach [] X.env)).any (·.1) = false := by rfl) :
    DE X (.Call (.Name "_law_refused" p) [.Lambda args body scope lpos] [] pos) (fRef gx f) := by
  obtain ⟨⟨r, fd, st, g6, F, SC, hm, hk, hb, hg6, hbody⟩, KC⟩ := RF
  refine ⟨fun pins s σ H Q I ⟨ρ, ε, S, dv, S', M, h, kk⟩ => ?_⟩
  refine wpAny_Call_Name_kw (ld_glob I hg hm ?_ (by decide))
  obtain ⟨clos, hcl, hc1, hc2⟩ := clo_of I LS hfn
  refine PySem.W.callWith_K (h₀ := X.base) I.ok.mod.kin hk ?_ he hpl
  rw [he]
  show wpAny _ _ (spliced ((false, eval (.Lambda args body scope lpos) X.env) :: backTo pos (starEach [] X.env))) _ _ s
  have T := M.st.tb P q hT
  refine Calls.spliced_cons (lam_make I LX T hcl hdf fun a c' ob u ctv H1 s1 I1 hnew T1 hcc hcf hH hheap hobj hHa => ?_)
  refine Calls.spliced_nil ⟨I1.kIn, ?_⟩
  have x1 : Ext X.K ρ H ρ H1 := ext_tab M.st.bx T T1 hq hH
  have nP : ∀ b ∈ ρ, b ≠ P := fun b hb' z => by
    obtain ⟨o, e1, e2⟩ := M.st.bx b hb'
    obtain ⟨ps, h1, _⟩ := T
    rw [z, h1] at e1; cases e1; simp [kd] at e2
  have st1 : StOk X.K ρ H1 S := M.st.keep x1 fun b hb' => by
    obtain ⟨o, e1, e2⟩ := M.st.bx b hb'
    rw [e1]; exact hH b o e1 (nP b hb')
  have M1 := M.next x1 st1
  have anf : a ∉ frs X.stack := fun z => by
    obtain ⟨_, o, ho, _⟩ := I.stack.mem z
    rw [hnew] at ho; cases ho
  have hcr : ∀ h2 : Heap, h2.get? c' = some ob → h2.CodeRec (.ref c') q := fun h2 e => by
    obtain ⟨vs, tq, d1, d2⟩ := hcf
    exact ⟨c', ob, vs, tq, rfl, e, d1, d2⟩
  refine wpAny_call (codeAny_mono (fn_at (E := E0) (k := k + 3) (Q := Q) (vs := [V.ref a]) (us := [Value.ref a]) F SC rfl hr I1.env0 (hb s1 [.ref a] I1.kIn rfl) (.cons rfl .nil) fun cdv hr2 => ⟨_, hbody cdv X.A X.stack s1 H1 E0 (hr2.mono (by omega)), ?_⟩) fun rr s' hq' => ?_)
  · refine rf_read KC hg6 fun pins2 s2 I2 => ?_
    have keep2 : ∀ b o, s1.heap.get? b = some o → H1 b = none → b ∉ frs X.stack → s2.heap.get? b = some o := fun b o e n hf => I2.base.keep b o e n hf List.not_mem_nil
    have ho2 := keep2 a _ hobj hHa anf
    refine ⟨⟨_, _, ho2, rfl⟩, ?_⟩
    have hcc2 : s2.heap.get? c' = some ob := (I2.hok c' _ hcc).1
    have cf : ∀ x cc, X.env.cells.lookup x = some cc → cc ∉ frs X.stack := fun x cc hx' z => by
      rcases List.mem_cons.mp (I.stkSub cc z) with z | z
      · exact I.cne x cc hx' z
      · obtain ⟨_, o, ho, _⟩ := I.ok.funs.mem z
        exact absurd (Heap.lt_size ho) (Nat.not_lt.mpr (I.ok.cab x cc (hfn x) hx'))
    have CL : Clo s2.heap H1 scope clos X.N σ := by
      refine ⟨fun x y cc h1 h2 => I.ok.inj x y cc (hc1 x cc h1) (hc1 y cc h2), fun x hx' => ?_, fun x cc h1 => ?_, fun i x v h1 h2 h3 => ?_, I.len⟩
      · rcases hx' with z | z
        · exact absurd rfl (LS.nocell _ (PySem.mem_of_lookup z)).1
        · exact hc2 x z
      · have hcx := hc1 x cc h1
        obtain ⟨v, o, ho, hd'⟩ := I1.cell x cc hcx
        exact ⟨⟨v, o, keep2 cc o ho (I1.freeC x cc hcx) (cf x cc hcx), hd'⟩, I1.freeC x cc hcx⟩
      · have hfx : scope.names.lookup x = some .free := by
          rcases h3 with z | z | z
          · exact absurd rfl (LS.nocell _ (PySem.mem_of_lookup z)).2
          · exact absurd rfl (LS.nocell _ (PySem.mem_of_lookup z)).1
          · exact z
        have hxc := LS.free _ (PySem.mem_of_lookup hfx) rfl
        obtain ⟨m, hm', hlo⟩ := I1.loc
        obtain ⟨u', ru, lk⟩ := hlo i x v h1 h2 (.inr (.inl hxc))
        have hkx : X.env.kindOf x = some .cell := hxc
        rcases lk with ⟨z, _⟩ | ⟨_, cc, e1, ⟨o, ho, hd'⟩⟩
        · rw [hkx] at z; cases z
        · obtain ⟨c3, h3'⟩ := hc2 x hfx
          have : c3 = cc := by
            have := hc1 x c3 h3'
            rw [e1] at this; exact (Option.some.inj this).symm
          subst this
          exact ⟨c3, u', h3', ⟨o, keep2 c3 o ho (I1.freeC x c3 e1) (cf x c3 e1), hd'⟩, ru, hfx⟩
    have rm : Room (k + 1) ((X.A.deeper (PyProof.Rows.envOfC "_law_refused" (defScope st) s1.heap.objs.size r cdv)).deeper (PySem.W.envX q scope s2.heap.objs.size a (.ref c') clos)) := (hr2.mono (by omega)).deeper _
    have hdep : (X.A.deeper (PyProof.Rows.envOfC "_law_refused" (defScope st) s1.heap.objs.size r cdv)).depth < recursionLimit := by have := hr2.dp; omega
    unfold fRef at h
    split at h
    · rename_i kx S1 hgx
      split at h
      · rename_i hkl
        cases h
        refine lam_call I2.env0 hr2.hd hdep ho2 (hcr _ hcc2) (hbind _ _ _ _) LS.co LS.gen LS.kind (fun y hy => (LS.nocell y hy).1) CL (hx a c' clos _ _ s2 H1 _ rm).pe ⟨ρ, ε, S, kx, S', M1, hgx, fun H2 ρ2 x2 st2 => ?_⟩
        obtain ⟨more, em⟩ := x2.pre
        have : more = [] := by
          have h1 := st2.len
          have h2 := st1.len
          rw [em, List.length_append, hkl.2] at h1
          exact List.length_eq_zero_iff.mp (by omega)
        rw [this, List.append_nil] at em
        subst em
        exact ⟨kx, ρ2, S', hkl.1, rfl, st2, fun v H3 x3 v3 => kk v H3 (v3.back fun z hz => (x1.trans x2).free hz) ((x1.trans x2).trans x3)⟩
      · cases h
    · split at h
      · rename_i dv0 S1 hf
        cases h
        refine lam_call I2.env0 hr2.hd hdep ho2 (hcr _ hcc2) (hbind _ _ _ _) LS.co LS.gen LS.kind (fun y hy => (LS.nocell y hy).1) CL (hd a c' clos _ _ s2 H1 _ rm).pe ⟨ρ, ε, S, dv0, S', M1, hf, fun v H2 v2 x2 => ?_⟩
        exact ⟨ρ, S', v2.st, fun H3 x3 st3 => kk .non H3 (.dat st3 .non) ((x1.trans x2).trans x3)⟩
      · cases h
  · cases rr with
    | error e => exact hq'.elim
    | ok fl =>
      cases fl with
      | ret u => exact I1.after hq'
      | next => exact False.elim hq'
      | brk => exact False.elim hq'
      | cont => exact False.elim hq'
end
end DL

set_option linter.all false
set_option maxRecDepth 100000
/-! ### the start of a law in which lambdas stand -/
namespace DL
open PySem PySem.Spec L2 XR
/-! the written part with a mark behind it -/
abbrev KT (K : PySem.W.Frag) (P : Addr) (q : Str) : PySem.W.Frag := K ++ [(mainGlobals, mkTab P q)]
section
variable {K : PySem.W.Frag} {P : Addr} {q : Str} (h3 : (K.lookup mainGlobals).isSome = true)
include h3
theorem look_mark (a : Addr) : (KT K P q).lookup a = K.lookup a := by
  unfold KT
  rw [List.lookup_append]
  by_cases z : a = mainGlobals
  · subst z
    obtain ⟨o, e⟩ := Option.isSome_iff_exists.mp h3
    rw [e]; rfl
  · have : ([(mainGlobals, mkTab P q)] : PySem.W.Frag).lookup a = none := by
      rw [List.lookup_cons]
      have : (a == mainGlobals) = false := by simpa using z
      rw [this]; rfl
    rw [this, Option.or_none]
theorem nsIn_mark (a : Addr) (x : Str) : PySem.W.nsIn (KT K P q) a x = PySem.W.nsIn K a x := by unfold PySem.W.nsIn; rw [look_mark h3]
theorem codeIn_mark (v : Value) (x : Str) : PySem.W.codeIn (KT K P q) v x = PySem.W.codeIn K v x := by
  unfold PySem.W.codeIn
  cases v with
  | ref c => simp only [look_mark h3]
  | _ => rfl
theorem nsOk_mark (a : Addr) : PySem.W.nsOkIn (KT K P q) a = PySem.W.nsOkIn K a := by unfold PySem.W.nsOkIn; rw [look_mark h3]
theorem own_mark (x : Str) (v : Value) : PySem.W.ownIn (KT K P q) x v = PySem.W.ownIn K x v := by
  unfold PySem.W.ownIn
  cases v with
  | ref c => simp only [look_mark h3, nsIn_mark h3]
  | _ => rfl
theorem along_mark (x : Str) : ∀ l : List Value, PySem.W.alongIn (KT K P q) x l = PySem.W.alongIn K x l
  | [] => by rw [PySem.W.alongIn, PySem.W.alongIn]
  | v :: l => by rw [PySem.W.alongIn, PySem.W.alongIn, own_mark h3, along_mark x l]
theorem find_mark (v : Value) (x : Str) : PySem.W.findIn (KT K P q) v x = PySem.W.findIn K v x := by
  unfold PySem.W.findIn
  cases v with
  | ref c => simp only [look_mark h3, along_mark h3]
  | _ => rfl
theorem type_mark (v : Value) : PySem.W.typeIn (KT K P q) v = PySem.W.typeIn K v := by
  unfold PySem.W.typeIn
  cases v with
  | ref c => simp only [look_mark h3]
  | _ => rfl
theorem special_mark (v : Value) (x : Str) : PySem.W.specialIn (KT K P q) v x = PySem.W.specialIn K v x := by
  unfold PySem.W.specialIn
  rw [type_mark h3]
  congr 1
  funext t
  exact find_mark h3 t x
theorem takes_mark (v : Value) : PySem.W.takesIn (KT K P q) v = PySem.W.takesIn K v := by
  unfold PySem.W.takesIn
  rw [special_mark h3, special_mark h3]
theorem keep_mark (v : Value) : PySem.W.keepIn (KT K P q) v = PySem.W.keepIn K v := by
  unfold PySem.W.keepIn
  cases v with
  | ref c => simp only [look_mark h3, special_mark h3]
  | _ => rfl
theorem tail_mark (bm : List Value) : ∀ l : List Value, PySem.W.tailIn (KT K P q) bm l = PySem.W.tailIn K bm l
  | [] => by rw [PySem.W.tailIn, PySem.W.tailIn]
  | v :: l => by
    cases v with
    | ref c => rw [PySem.W.tailIn, PySem.W.tailIn, look_mark h3]; simp only [nsOk_mark h3, nsIn_mark h3, tail_mark bm l]
    | _ => simp only [PySem.W.tailIn]
theorem exc_mark (C : Addr) (bm : List Value) (i : String) : PySem.W.excIn (KT K P q) C bm i = PySem.W.excIn K C bm i := by
  unfold PySem.W.excIn
  rw [look_mark h3]
  simp only [tail_mark h3, nsOk_mark h3, nsIn_mark h3]
theorem cls_mark (C : Addr) : PySem.W.clsIn (KT K P q) C = PySem.W.clsIn K C := by unfold PySem.W.clsIn; rw [look_mark h3]
theorem mro_mark (C : Addr) (v : Value) : PySem.W.mroIn (KT K P q) C v = PySem.W.mroIn K C v := by unfold PySem.W.mroIn; rw [cls_mark h3]
theorem sub_mark (v u : Value) : PySem.W.subIn (KT K P q) v u = PySem.W.subIn K v u := by
  unfold PySem.W.subIn
  cases v with
  | ref c => exact mro_mark h3 c u
  | _ => rfl
theorem kit_mark (v u : Value) : PySem.W.kitOne (KT K P q) v u = PySem.W.kitOne K v u := by
  unfold PySem.W.kitOne PySem.W.kitCls
  cases u with
  | ref c => simp only [cls_mark h3, type_mark h3, sub_mark h3]
  | type T => simp only [sub_mark h3]
  | _ => rfl
theorem in_mark {h : Heap} (X : K.In h) : (KT K P q).In h := fun a o e => X a o (by rw [← look_mark h3]; exact e)
end
theorem tabs_mark {K : PySem.W.Frag} {P : Addr} {q : Str} (h : tabsOf K = []) : tabsOf (KT K P q) = [(P, q)] := by
  unfold tabsOf KT at *
  rw [List.reverse_append]
  show (((mainGlobals, mkTab P q) :: K.reverse).takeWhile fun p => (tabOf p).isSome).filterMap tabOf = _
  rw [List.takeWhile_cons]
  have : (tabOf (mainGlobals, mkTab P q)) = some (P, q) := rfl
  rw [this]
  simp only [Option.isSome_some, if_true]
  rw [List.filterMap_cons, this, h]
/-- a code object with its table -/
def codeHdIn (K : PySem.W.Frag) (cd : Value) (P : Addr) : Bool := match cd with
  | .ref c => (match K.lookup c with
    | some { cls := .type "code", data := .fields vs, .. } => (match (vs[11]? : Option Value), vs.getD 11 .none, vs.getD 18 .none, vs.getD 7 .none, vs.getD 9 .none, vs.getD 10 .none with
      | some (Value.ref P1), .ref P2, .str _ _, .int _ _, .bool _, .int _ _ => P1 == P && P2 == P && c != P
      | _, _, _, _, _, _ => false)
    | _ => false)
  | _ => false
theorem codeHd_of {K : PySem.W.Frag} {h : Heap} {cd : Value} {P : Addr} (X : K.In h) (q : codeHdIn K cd P = true) : ∃ c, cd = .ref c ∧ PySem.W.CodeHd h c P := by
  unfold codeHdIn at q
  split at q
  · rename_i c
    split at q
    · rename_i dd vs sl ho
      split at q
      · rename_i P1 P2 f1 t1 i1 t2 b1 i2 t3 e1 e2 e3 e4 e5 e6
        rw [Bool.and_eq_true, Bool.and_eq_true, beq_iff_eq, beq_iff_eq, bne_iff_ne] at q
        obtain ⟨⟨rfl, rfl⟩, hc⟩ := q
        exact ⟨c, rfl, _, vs, _, _, _, _, _, _, _, X c _ ho, rfl, rfl, e1, e2, e3, e4, e5, e6, hc⟩
      · cases q
    · cases q
  · cases q
end DL

set_option linter.all false
set_option maxRecDepth 100000
namespace DL
open PySem PySem.Spec L2 XR PyProof.Rows
section
variable {Pg : Program} {w : World} {K : PySem.W.Frag} {mg mb : Str → Option Value} {base : Heap}
def BMk (mg : Str → Option Value) (h : Heap) : Prop := ∃ bm o, mg "__builtins__" = some (.ref bm) ∧ bm ≠ builtinsNs ∧ h.get? bm = some o ∧ o.cls = .type "module" ∧ o.dict = some builtinsNs ∧ o.data = .plain
/-- a def whose code is told -/
theorem fn_dataL {x qual : Str} {st : Stmt} {f : Addr} {oc kV doc pm cdv ct : Value} {od an : Option Addr} {osl : Array (Option Value)} {N ps : List Str} {k n : Nat} {g : FS} (lk : K.lookup f = some ⟨oc, od, .func (PySem.W.fnOf x qual (defArgs st) (defBody st) (defScope st) .none kV doc pm an cdv ct), osl⟩) (hcd : PySem.W.codeIn K cdv qual = true) (S : FnScope N ps (defScope st)) (hn : n = ps.length)
    (hb : ∀ (A : Around) (outer : List Env) (s : Shared) (H : Hp) (E : XK), Room k (A.deeper (envOfC qual (defScope st) s.heap.objs.size f cdv)) → DSs (Bd Pg w K mg base N qual (defScope st) f cdv A outer s H E) (defBody st) g) :
    FnOk Pg w K mg base CX0 (k + 1) f (PySem.W.fnOf x qual (defArgs st) (defBody st) (defScope st) .none kV doc pm an cdv ct) ps (spD K n (semOf N.length g)) := by
  subst hn
  refine fn_of lk hcd S (fun vs H Q E h => h.1) fun A outer s H vs Q E hr h => ?_
  obtain ⟨hl, ρ, SS, dvs, dv, S', st0, r, e, kk⟩ := h
  refine ⟨_, (hb A outer s H E hr).pss.nox, ?_⟩
  unfold semOf at e
  split at e
  · rename_i dv1 S1 e1
    refine ⟨ρ, _, SS, .rt dv1 S1, Sim.start st0 r, e1, fun v H' ρ' x' v' => ?_⟩
    obtain ⟨more, em⟩ := x'.pre
    have xd : Ext K ρ H ρ H' := by subst em; exact x'.drop
    exact kk v H' (Val.fin st0.len x' v' e) xd
  · rename_i ε1 S1 e1
    cases e
    refine ⟨ρ, _, SS, .nx ε1 S1, Sim.start st0 r, e1, fun σ' H' ρ' x' M' => ?_⟩
    obtain ⟨more, em⟩ := x'.pre
    subst em
    refine kk .non H' (.dat ?_ .non) x'.drop
    rw [← st0.len]
    exact M'.st.drop
  · cases e
/-- the script, tracked -/
theorem scr_ex {s : Shared} {a : Addr} {vs : List Value} {ns : List Int} (KX : K.In s.heap) (ha : s.heap.get? a = some { cls := .type "list", data := .seq vs.toArray }) (hi : IntsAre vs ns) (hl : ns.length ≤ sizeLine) :
    ∃ H : Hp, (∀ b, H b = none ∨ (b = a ∧ K.lookup a = none ∧ ∃ o xs, H b = some (.frz o (.lst xs)))) ∧ SqL K H a (ns.map V.int) ∧ HOk Pg w H s.heap := by
  have rv := vals_ints hi
  have lenV := hi.length
  cases hk : K.lookup a with
  | some o =>
    have e := KX a o hk
    rw [ha] at e
    cases e
    exact ⟨fun _ => none, fun _ => .inl rfl, .inr ⟨_, vs.toArray, _, hk, rfl, rfl, rfl, by rw [List.size_toArray, lenV]; exact hl, by simpa using rv⟩, fun b u z => by cases (show (none : Option HO) = some u from z)⟩
  | none =>
    refine ⟨upd (fun _ => none) a (.frz { cls := .type "list", data := .seq vs.toArray } (.lst (ns.map V.int))), fun b => ?_, .inl (.inr ⟨_, upd_same⟩), fun b u z => ?_⟩
    · by_cases hb : b = a
      · subst hb; exact .inr ⟨rfl, rfl, _, _, upd_same⟩
      · exact .inl (upd_ne hb)
    · by_cases hb : b = a
      · subst hb
        rw [upd_same] at z; cases z
        exact ⟨ha, by rw [List.length_map]; exact hl, vs, _, rv, ha⟩
      · rw [upd_ne hb] at z; cases z
theorem law_callT {k : Nat} {fa a P c : Addr} {fd : FuncData} {x : Str} {sem : Sem0} {s : Shared} {vs : List Value} {ns : List Int}
    (KX : K.In s.heap) (hP : s.heap.get? P = some (PySem.W.tabObj #[])) (hKP : K.lookup P = none) (hcd : PySem.W.CodeHd s.heap c P) (hPs : P ≠ cStatics) (hT : ∀ P' q', TabAt K P' q' → P' = P)
    (hns : s.heap.Ns mainGlobals mg) (hb : s.heap.Ns builtinsNs mb) (hbb : ∀ x : Str, x ≠ "__name__" → mb x = bootBuiltins x) (hlim : s.heap.NoLimit) (hbm : BMk mg s.heap) (hg : s.gens = #[])
    (ha : s.heap.get? a = some { cls := .type "list", data := .seq vs.toArray }) (hi : IntsAre vs ns) (hl : ns.length ≤ sizeLine) (hr : Room k callerA)
    (F : ∀ base : Heap, K.In base → BMk mg base → FnOk Pg w K mg base CX0 k fa fd [x] (spD K 1 sem)) (hbind : ∀ (s : Shared) (u : Value), BindsTo s fd ⟨[u], []⟩ [(x, u)])
    (hsem : sem [.dat (.list (ns.map .int))] [] = some (.dat (.bool true), [])) :
    codeAny (model Pg w) callerA (.call (.ref fa) ⟨[.ref a], []⟩) (fun r s' => r = .ok (.ret (.bool true)) ∧ OldK s.heap s'.heap ∧ s'.os = s.os ∧ AllBare s'.gens) s := by
  obtain ⟨Hs, hs1, hs2, hs3⟩ := scr_ex (Pg := Pg) (w := w) KX ha hi hl
  have aP : a ≠ P := fun z => by subst z; rw [ha] at hP; cases hP
  have nP : Hs P = none := by
    rcases hs1 P with z | ⟨z, _⟩
    · exact z
    · exact absurd z.symm aP
  have hok : HOk Pg w (upd Hs P (.tbl #[])) s.heap := fun b u z => by
    by_cases hb' : b = P
    · subst hb'
      rw [upd_same] at z; cases z
      exact hP
    · rw [upd_ne hb'] at z
      exact (hs3 b u z).stay (fun d v _ r => r) (fun d r => by rw [upd_ne (ne_of_none r nP)]; exact r) fun d ys r => by rw [upd_ne (ne_of_none r nP)]; exact r
  have free : ∀ b, b ≠ P → (b = a → K.lookup a ≠ none) → upd Hs P (.tbl #[]) b = none := fun b h1 h2 => by
    rw [upd_ne h1]
    rcases hs1 b with z | ⟨z1, z2, _⟩
    · exact z
    · exact absurd z2 (h2 z1)
  have nsK : ∀ {b : Addr} {m : Str → Option Value}, s.heap.Ns b m → (hidT s.heap (upd Hs P (.tbl #[]))).Ns b m := fun {b m} ⟨o, es, ep, e, d, r⟩ => by
    refine ⟨o, es, ep, hidT_get e ?_, d, r⟩
    have b1 : b ≠ P := fun z => by subst z; rw [hP] at e; cases e; cases d
    rw [upd_ne b1]
    rcases hs1 b with z | ⟨z1, _⟩
    · exact z
    · subst z1; rw [ha] at e; cases e; cases d
  have hBm : BMk mg (hidT s.heap (upd Hs P (.tbl #[]))) := by
    obtain ⟨bm, o, e1, e2, e3, e4, e5, e6⟩ := hbm
    refine ⟨bm, o, e1, e2, hidT_get e3 (free bm (fun z => ?_) fun z => ?_), e4, e5, e6⟩
    · subst z; rw [hP] at e3; cases e3; cases e6
    · subst z; rw [ha] at e3; cases e3; cases e6
  have hKb : K.In (hidT s.heap (upd Hs P (.tbl #[]))) := fun b o e => hidT_get (KX b o e) (free b (fun z => by rw [z, hKP] at e; cases e) fun z => by rw [← z, e]; simp)
  have hM : Mod K mg (hidT s.heap (upd Hs P (.tbl #[]))) := ⟨hKb, nsK hns, ⟨mb, nsK hb, hbb⟩, let ⟨mc, h1, h2⟩ := hlim; ⟨mc, nsK h1, h2⟩⟩
  have e0 : Env0 Pg w K mg (hidT s.heap (upd Hs P (.tbl #[]))) callerA [] s (upd Hs P (.tbl #[])) := ⟨rfl, hM, fun b o e => of_hidT e, Nat.le_of_eq (hidT_size _ _), trivial, fun b z => absurd (show b ∈ ([] : List Addr) from z) List.not_mem_nil, hok, .of_eq hg⟩
  have sq : SqL K (upd Hs P (.tbl #[])) a (ns.map V.int) := by
    rcases hs2 with (z | ⟨o, z⟩) | z
    · exact .inl (.inl (by rw [upd_ne aP]; exact z))
    · exact .inl (.inr ⟨o, by rw [upd_ne aP]; exact z⟩)
    · exact .inr z
  have tb : ∀ P' q', TabAt K P' q' → TabR P' q' (upd Hs P (.tbl #[])) := fun P' q' t => by
    rw [hT P' q' t]
    exact ⟨#[], upd_same, trivial, fun pos cv e => by cases (show (none : Option Value) = some cv from e)⟩
  refine codeAny_mono ((F _ hKb hBm).run callerA [] s _ ⟨[.ref a], []⟩ [.ref a] [.ref a] (fun v _ => v = .bl true) (fun _ _ _ => False) hr e0 (hbind s (.ref a)) (.cons rfl .nil) (spD_law tb sq hsem)) fun r s' h => ?_
  cases r with
  | error e => exact h.elim
  | ok fl =>
    cases fl with
    | next => exact False.elim h
    | brk => exact False.elim h
    | cont => exact False.elim h
    | ret u =>
      obtain ⟨v, H', os, bare, un, hok', rv, z⟩ := h
      subst z
      obtain rfl : u = Value.bool true := rv
      have ext : ∀ b o, b ≠ P → s.heap.get? b = some o → s'.heap.get? b = some o := fun b o hb' e => by
        rcases hs1 b with z | ⟨z1, z2, ob, xs, z3⟩
        · exact un.keep b o e (by rw [upd_ne hb']; exact z) (fun y => absurd (show b ∈ ([] : List Addr) from y) List.not_mem_nil) List.not_mem_nil
        · have z4 : upd Hs P (.tbl #[]) b = some (.frz ob (.lst xs)) := by rw [upd_ne hb']; exact z3
          obtain ⟨e1, _⟩ := hok b _ z4
          obtain ⟨e2, _⟩ := hok' b _ (un.frzs b ob _ z4)
          rw [e] at e1; cases e1
          exact e2
      obtain ⟨more, hm⟩ := un.tbls P #[] upd_same
      have hP' : s'.heap.get? P = some { cls := .none, data := .fields (#[] ++ more) } := hok' P _ hm
      obtain ⟨o, vs', file, tf, flags, tg, inF, text, tt, d1, d2, d3, d4, d5, d6, d7, d8, d9, d10⟩ := hcd
      have t0 : s.heap.TableAt c P #[] := ⟨⟨o, vs', d1, d2, d3, d4⟩, hP⟩
      have t1 : s'.heap.TableAt c P (#[] ++ more) := ⟨⟨o, vs', ext c o d10 d1, d2, d3, d4⟩, hP'⟩
      exact ⟨rfl, OldK.step_table (OldK.refl _) t0 t0 t1 (fun b o hb' e => ext b o hb' e) hPs, os, bare⟩
end
theorem walk_T {l : PySem.W.OpenLaw} {n k : Nat} {pr : Program} {loose : List Str} {XP : (Str → Option Value) → Heap → Prop} {YP : World → Heap → Prop} {d : DefRec} {K : Params → PySem.W.Frag} {x : Str} {P : Addr} {q : Str} {sem : Sem0}
    (hn : l.most = some n) (hn2 : n ≤ sizeLine) (hdf : d.params.defaults = []) (hr : Room k callerA)
    (hY : ∀ (w : World) (h : Heap), YP w h → (K w.params).In h ∧ h.get? P = some (PySem.W.tabObj #[]))
    (hKP : ∀ p, (K p).lookup P = none) (h3 : ∀ p, ((K p).lookup mainGlobals).isSome = true) (hT : ∀ p, tabsOf (K p) = []) (hPs : P ≠ cStatics)
    (F : ∀ (w : World) (mg : Str → Option Value) (fa : Addr) (h : Heap), (K w.params).In h → h.Ns mainGlobals mg → mg d.name = some (.ref fa) →
      ∃ fd : FuncData, (∃ cd, codeHdIn (K w.params) cd P = true) ∧ (∀ (s : Shared) (u : Value), BindsTo s fd ⟨[u], []⟩ [(x, u)]) ∧
        ∀ base : Heap, (KT (K w.params) P q).In base → BMk mg base → FnOk l.prog w (KT (K w.params) P q) mg base CX0 k fa fd [x] (spD (KT (K w.params) P q) 1 sem))
    (hsem : ∀ ns : List Int, ns.length ≤ n → sem [.dat (.list (ns.map .int))] [] = some (.dat (.bool true), [])) :
    PySem.W.WalkO pr loose XP YP l.row.toRowW d [] (fun f vs => PySem.call f vs) := by
  refine Att.attach_call hn hdf fun w s₀ s₁ mg mb fa o pm cdv doc a vs ns G Y ho hd hcd' hmg hobj hints hlen hg => ?_
  obtain ⟨KX, hP⟩ := hY w _ Y
  obtain ⟨fd, ⟨cd, hcd⟩, hb, hF⟩ := F w mg fa _ KX G.T.g hmg
  obtain ⟨c, _, hc⟩ := codeHd_of KX hcd
  refine law_callT (P := P) (in_mark (h3 _) KX) hP (by rw [look_mark (h3 _)]; exact hKP _) hc hPs (fun P' q' t => ?_) G.T.g G.T.b G.T.builtins G.T.nolimit G.T.bmain hg hobj hints (Nat.le_trans hlen hn2) hr hF hb (hsem ns hlen)
  unfold TabAt at t
  rw [tabs_mark (hT _)] at t
  cases List.mem_singleton.mp t
  rfl
end DL
namespace DL
open PySem PySem.Spec L2 XR
/-- the classes, looked at at once -/
def clsF (C0 C1 C2 C3 C4 : Addr) : Nat → Addr
  | 0 => C0
  | 1 => C1
  | 2 => C2
  | 3 => C3
  | _ => C4
/-- one class, as the fragment tells it -/
structure ClsK (K : PySem.W.Frag) (C CT : Addr) : Prop where
  x : PySem.W.excIn K C [.type "ValueError", .type "Exception", .type "BaseException", .type "object"] "ValueError.__new__" = true
  a : PySem.W.findIn K (.ref C) "__getattribute__" = some (some (.builtin "BaseException.__getattribute__"))
  n : PySem.W.findIn K (.ref C) "__getattr__" = some none
  d : PySem.W.findIn K (.ref C) "__class__" = some (some (.builtin "object.__class__"))
  m : PySem.W.mroIn K C (.type "object") = some true
  b : PySem.W.mroIn K C (.type "BaseException") = some true
  s : PySem.W.mroIn K C (.ref CT) = some true
  v : PySem.W.mroIn K C (.type "ValueError") = some true
  t : PySem.W.typeIn K (.ref C) = some (.type "type")
theorem ClsK.cls {K : PySem.W.Frag} {C CT : Addr} (k : ClsK K C CT) : (PySem.W.clsIn K C).isSome = true := by
  have := k.m
  unfold PySem.W.mroIn at this
  cases q : PySem.W.clsIn K C with
  | none => rw [q] at this; cases this
  | some _ => rfl
theorem kit_ve {K : PySem.W.Frag} {C CT : Addr} (k : ClsK K C CT) : PySem.W.kitOne K (.ref C) (.type "ValueError") = some true := by
  show (if ((Value.ref C == Value.type "ValueError") = true) then some true else if PySem.W.kitMeta "ValueError" = true then PySem.W.mroIn K C (.type "ValueError") else none) = some true
  rw [show (Value.ref C == Value.type "ValueError") = false from rfl, if_neg Bool.false_ne_true, if_pos (by decide +kernel), k.v]
theorem non_mro : PySem.fastBuiltinMro "NoneType" = some [.type "NoneType", .type "object"] := by decide +kernel
theorem kit_non {K : PySem.W.Frag} {C CT : Addr} (k : ClsK K C CT) : PySem.W.kitOne K (.type "NoneType") (.ref C) = some false := by
  show (if ((Value.type "NoneType" == Value.ref C) = true) then some true else if ((PySem.W.clsIn K C).isSome && PySem.W.typeIn K (.ref C) == some (.type "type")) = true then (PySem.fastBuiltinMro "NoneType").map (·.contains (.ref C)) else none) = some false
  rw [show (Value.type "NoneType" == Value.ref C) = false from rfl, if_neg Bool.false_ne_true, if_pos (by rw [k.cls, k.t]; rfl), non_mro]
  rfl
theorem kit_nv {K : PySem.W.Frag} : PySem.W.kitOne K (.type "NoneType") (.type "ValueError") = some false := by
  show (if ((Value.type "NoneType" == Value.type "ValueError") = true) then some true else if PySem.W.kitMeta "ValueError" = true then (PySem.fastBuiltinMro "NoneType").map (·.contains (.type "ValueError")) else none) = some false
  decide +kernel
theorem kit_ne {K : PySem.W.Frag} {C D CT : Addr} (k : ClsK K D CT) (n : C ≠ D) (h : PySem.W.mroIn K C (.ref D) = some false) : PySem.W.kitOne K (.ref C) (.ref D) = some false := by
  show (if ((Value.ref C == Value.ref D) = true) then some true else if ((PySem.W.clsIn K D).isSome && PySem.W.typeIn K (.ref D) == some (.type "type")) = true then PySem.W.mroIn K C (.ref D) else none) = some false
  rw [if_neg (by simpa using n), if_pos (by rw [k.cls, k.t]; rfl), h]
theorem kitC_of {K : PySem.W.Frag} {P : Addr} {q : Str} {C0 C1 C2 C3 C4 CT : Addr} (h3 : (K.lookup mainGlobals).isSome = true) (k0 : ClsK K C0 CT) (k1 : ClsK K C1 CT) (k2 : ClsK K C2 CT) (k3 : ClsK K C3 CT) (k4 : ClsK K C4 CT)
    (h2 : ∀ k j, k < 5 → j < 5 → k ≠ j → clsF C0 C1 C2 C3 C4 k ≠ clsF C0 C1 C2 C3 C4 j ∧ PySem.W.mroIn K (clsF C0 C1 C2 C3 C4 k) (.ref (clsF C0 C1 C2 C3 C4 j)) = some false)
    (h4 : PySem.W.specialIn K (.builtin "object.__class__") "__get__" = some (some (.builtin "getset_descriptor.__get__"))) (h5 : PySem.W.takesIn K (.builtin "object.__class__") = some true)
    (h7 : PySem.W.excIn K CT [.type "ValueError", .type "Exception", .type "BaseException", .type "object"] "ValueError.__new__" = true) (h8 : PySem.W.mroIn K CT (.type "BaseException") = some true) : KitC (KT K P q) (clsF C0 C1 C2 C3 C4) CT := by
  have one : ∀ k, k < 5 → ClsK K (clsF C0 C1 C2 C3 C4 k) CT := fun k hk => by
    have : k = 0 ∨ k = 1 ∨ k = 2 ∨ k = 3 ∨ k = 4 := by omega
    rcases this with rfl | rfl | rfl | rfl | rfl
    · exact k0
    · exact k1
    · exact k2
    · exact k3
    · exact k4
  refine ⟨fun k hk => ?_, fun k hk => ?_, fun k j hk hj => ?_, fun k hk => ?_, fun j hj => ?_, kit_nv, by rw [exc_mark h3]; exact h7, by rw [mro_mark h3]; exact h8⟩
  · have o := one k hk
    exact ⟨by rw [exc_mark h3]; exact o.x, by rw [find_mark h3]; exact o.a, by rw [find_mark h3]; exact o.n, by rw [mro_mark h3]; exact o.b, by rw [find_mark h3]; exact o.d, by rw [special_mark h3]; exact h4, by rw [takes_mark h3]; exact h5, by rw [mro_mark h3]; exact o.m⟩
  · rw [mro_mark h3]; exact (one k hk).s
  · rw [kit_mark h3]
    by_cases e : k = j
    · subst e
      rw [decide_eq_true rfl]
      unfold PySem.W.kitOne
      rw [if_pos (by simp)]
    · rw [decide_eq_false e]; exact kit_ne (one j hj) (h2 k j hk hj e).1 (h2 k j hk hj e).2
  · rw [kit_mark h3]; exact kit_ve (one k hk)
  · rw [kit_mark h3]; exact kit_non (one j hj)
/-- the classes by name -/
def clN : Nat → Str
  | 0 => "TooMany"
  | 1 => "NoTie"
  | 2 => "NoPlaces"
  | 3 => "NoName"
  | _ => "BadNote"
def qLam (x : Str) : Str := x ++ (".<locals>." : Str) ++ ("<lambda>" : Str)
def lamC (sc scope : Scope) : Bool := !scope.isCoroutine && !scope.isGenerator && decide (scope.kind = .function) && scope.names.all fun y => match y.2 with
  | .cell => false
  | .local => false
  | .free => decide (sc.names.lookup y.1 = some .cell)
  | _ => true
theorem lamS_by {X : Cx} {scope : Scope} (h : lamC X.env.scope scope = true) : LamS X scope := by
  unfold lamC at h
  simp only [Bool.and_eq_true, Bool.not_eq_true', List.all_eq_true, decide_eq_true_eq] at h
  obtain ⟨⟨⟨h1, h2⟩, h3⟩, h4⟩ := h
  refine ⟨h1, h2, h3, fun y hy => ?_, fun y hy e => ?_⟩
  · have q := h4 y hy
    constructor
    · intro e; rw [e] at q; cases q
    · intro e; rw [e] at q; cases q
  · have q := h4 y hy
    rw [e] at q
    exact of_decide_eq_true q
/-- the last row of the look, run -/
def g6T : FS := sRet (fComp [4] (iRange1 (fCons (fC (.int 5)) fNil)) (hName 4) (fTru (fOp2 gIx (fVar 3) (fVar 4))) (fVar 4))
end DL

set_option linter.all false
set_option maxRecDepth 100000
/-! ### refusals, run -/
namespace DL
open PySem PySem.Spec L2
theorem rf6 : ∀ k, k < 5 → ∀ S, g6T (E6 k) S = some (.rt (.lst [.int k]) S) := by
  intro k hk S
  have hi : iRange1 (fCons (fC (.int 5)) fNil) (E6 k) S = some (nums 0 (5 : Int).toNat, S) := r1 (cns (fC_e _ _ _) nl) (okI_of (by decide) (by decide))
  have key := fComp_pure (vs := [4]) (hg := hName 4) (ft := fTru (fOp2 gIx (fVar 3) (fVar 4))) (fe := fVar 4) (ε := E6 k) (fun d => match d with | .int j => decide ((k : Int) = j) | _ => false) (fun d => d) hi (by rw [nums_len]; decide) (by
    intro d hd
    obtain ⟨j, hj⟩ := List.getElem?_of_mem hd
    obtain ⟨rfl, hj2⟩ := nums_get hj
    have hj5 : j < 5 := hj2
    refine ⟨[none, none, none, some (.dat (.list ((List.range 5).map fun j => .bool (decide (k = j))))), some (.dat (.int (0 + (j : Int))))], rfl, fun acc => ?_, fun _ acc => ⟨_, vr (i := 4) (dv := .dat (.int (0 + (j : Int)))) rfl, rfl⟩⟩
    have h1 := tru_b (op2 (vr (ε := [none, none, none, some (.dat (.list ((List.range 5).map fun j => .bool (decide (k = j))))), some (.dat (.int (0 + (j : Int))))]) (S := S ++ [acc]) (i := 3) (dv := .dat (.list ((List.range 5).map fun j => .bool (decide (k = j))))) rfl) (vr (i := 4) (dv := .dat (.int (0 + (j : Int)))) rfl) (gIx_e (S := S ++ [acc]) (ds := (List.range 5).map fun j => .bool (decide (k = j))) (d := .bool (decide (k = j))) rfl (by omega) (by
      rw [show (0 + (j : Int)).toNat = j by omega, List.getElem?_map, List.getElem?_range hj5]; rfl)))
    have e : decide (k = j) = decide ((k : Int) = 0 + (j : Int)) := by rw [decide_eq_decide]; omega
    rw [e] at h1
    exact h1)
  have ef : ((nums 0 (5 : Int).toNat).filter fun d => match d with | .int j => decide ((k : Int) = j) | _ => false).map (fun d => d) = [.int (k : Int)] := by
    have : k = 0 ∨ k = 1 ∨ k = 2 ∨ k = 3 ∨ k = 4 := by omega
    rcases this with rfl | rfl | rfl | rfl | rfl <;> rfl
  rw [ef] at key
  exact sRet_eq key
section
variable {gx gy : FX} {f : FE} {fr : FA} {ft : FT} {g : FS} {ε ε1 : DEnv} {S S1 S2 S' : Bxs} {k n m : Nat} {dv : DV} {xs : List DV} {sem : SemX}
theorem ref_x (h : gx ε S = some (k, S')) (hk : k < 5) (hl : S'.length = S.length) : fRef gx f ε S = some (.lst [.int k], S') := by
  unfold fRef
  rw [h]
  simp only
  rw [if_pos ⟨hk, hl⟩]
theorem xcl (ha : fr ε S = some (xs, S1)) (hn : xs.length = n) : xCall n sem fr ε S = sem (xs.map norm) S1 := by
  unfold xCall
  rw [ha]
  simp only
  rw [if_pos hn]
theorem semX_eq (g : FX) (dvs : List DV) (S : Bxs) : semOfX m g dvs S = (g (dvs.map some ++ List.replicate (m - dvs.length) none) S).map fun r => (r.1, r.2.take S.length) := by
  unfold semOfX
  split <;> rename_i h <;> simp [h]
theorem xif_t (h : ft ε S = some (true, S1)) : xIf ft gx gy ε S = gx ε S1 := by simp [xIf, h]
/-- [k] against [j] -/
theorem ne_lk (S : Bxs) (k j : Int) : bNe S (.lst [.int k]) (.lst [.int j]) = some (!decide (k = j)) := by
  have sh : ∀ i : Int, SeqAt.shaped (.list [.int i]) = true := fun i => shaped_dL [i]
  unfold bNe
  simp only [rd_lst']
  rw [if_pos (by rw [sh, sh]; rfl)]
  have := eqv_dL [k] [j]
  unfold dL at this
  simp only [List.map_cons, List.map_nil] at this
  rw [this]
  congr 2
  rw [decide_eq_decide]
  simp
end
end DL

set_option linter.all false
set_option maxRecDepth 100000
namespace L2
open PySem PySem.Spec PyProof.Rows
/-- a text in which one whole number stands -/
def fmtS (a b : Str) (i : Int) : Str := ((Str.empty ++ a) ++ (toString i : Str)) ++ b
def fmtOk (a b : Str) (i : Int) : Bool := decide (i.natAbs.log2 < 1920) && decide (((Str.empty ++ a) ++ (toString i : Str)).length ≤ sizeLine) && decide ((fmtS a b i).length ≤ sizeLine)
def rFmt (a b : Str) : V → Hp → VK → Prop := fun x H Q => ∃ i, x = .int i ∧ fmtOk a b i = true ∧ Q (.str (fmtS a b i)) H
section
variable {X : Cx} {e : Expr} {te : TE} {a b : Str} {j1 j2 : Nat} {p1 p2 p3 pos : Pos}
theorem pe_fmt (he : PE X e te) (ha : (Str.empty ++ a).length ≤ sizeLine) : PE X (.JoinedStr [.Constant (.str a) j1 p1, .FormattedValue e (-1) none p2, .Constant (.str b) j2 p3] pos) (tUn (rFmt a b) te) := by
  intro pins s σ H Q I h
  refine JoinedStr_many (joinParts_cons (Calls.Constant_str ⟨ha, joinParts_cons (FormattedValue_plain ?_)⟩))
  refine wpAny_mono (he pins _ σ H _ (I.tok _) h) (fun u s2 z => ?_) fun _ _ z => z
  obtain ⟨v, H1, I1, r, i, rfl, ok, q⟩ := z
  unfold fmtOk at ok
  rw [Bool.and_eq_true, Bool.and_eq_true, decide_eq_true_eq, decide_eq_true_eq, decide_eq_true_eq] at ok
  obtain ⟨⟨o1, o2⟩, o3⟩ := ok
  obtain ⟨t, rfl⟩ : ∃ t, u = .int i t := r
  refine formatField_int_small o1 ⟨o2, joinParts_cons (Calls.Constant_str ⟨o3, joinParts_nil ?_ o3⟩)⟩
  exact ⟨.str (fmtS a b i), H1, (((I1.tok _).tok _).tok _).tok _, ⟨_, rfl⟩, q⟩
end
end L2
namespace DL
open PySem PySem.Spec L2
def gFmt (a b : Str) : Bxs → DV → Option DV := fun S x => match rd S x with
  | some (.int i) => if fmtOk a b i = true then some (.dat (.str (fmtS a b i))) else none
  | _ => none
theorem op_fmt {K : PySem.W.Frag} {a b : Str} : Op1 K (rFmt a b) (gFmt a b) := by
  intro ρ S H0 H v x dv Q st fr r1 h k
  unfold gFmt at h
  split at h
  · rename_i i e1
    split at h
    · rename_i hc
      cases h
      exact ⟨i, rd_int r1 e1, hc, same_end st (.str _) k⟩
    · cases h
  · cases h
section
variable {X : Cx} {e : Expr} {fa : FE} {a b : Str} {j1 j2 : Nat} {p1 p2 p3 pos : Pos}
theorem e_fmt (he : DE X e fa) (ha : (Str.empty ++ a).length ≤ sizeLine := by decide) : DE X (.JoinedStr [.Constant (.str a) j1 p1, .FormattedValue e (-1) none p2, .Constant (.str b) j2 p3] pos) (fOp1 (gFmt a b) fa) := op1_tD op_fmt (pe_fmt he.pe ha)
end
end DL

set_option linter.all false
set_option maxRecDepth 100000
namespace DL
open PySem PySem.Spec L2 XR
section
variable {X : Cx} {E : XK} {cls : Nat → Addr} {gx : FX} {elt tg iter : Expr} {ifs : List Expr} {scope : Scope} {own : List (Str × Nat)} {pos : Pos}
end
/-- texts of longer things -/
def gReprL : Bxs → DV → Option DV := fun S x => match rd S x with
  | some d => if (d.canLay0 && d.showable && decide (d.depth ≤ 60) && decide (d.shown.length ≤ sizeLine)) = true then some (.dat (.str d.shown)) else none
  | none => none
theorem op_reprL {K : PySem.W.Frag} : OpN K (rRepr K) (g1 gReprL) := opN1 (by
  intro ρ S H0 H v x dv Q st fr r1 h k
  unfold gReprL at h
  split at h
  · rename_i d e1
    split at h
    · rename_i c
      cases h
      simp only [Bool.and_eq_true, decide_eq_true_eq] at c
      obtain ⟨⟨⟨c1, c2⟩, c3⟩, c4⟩ := c
      exact ⟨v, d, rfl, rd_dp st r1 e1 c1, c2, PyData.hasDict_of_canLay d c1, c3, c4, k _ _ (.dat st (.str _)) (Ext.refl _ _)⟩
    · cases h
  · cases h)
theorem e_reprL {X : Cx} {e : Expr} {fr : FA} {p pos : Pos} {k : Nat} (hr : Room k X.A) (hm : X.mg "repr" = none) (hg : Gl X "repr") (ha : DA X [e] fr) (he : starEach [e] X.env = (false, eval e X.env) :: starEach [] X.env := by rfl) (hpl : (backTo pos (starEach [] X.env)).any (·.1) = false := by rfl) :
    DE X (.Call (.Name "repr" p) [e] [] pos) (fOpN (g1 gReprL) fr) := de_callB (cr_repr hr) op_reprL hg hm rfl ha (by decide) (by decide) he hpl
end DL

set_option linter.all false
set_option maxRecDepth 100000
/-! ### the law's own way through all sides -/
namespace DL
open PySem PySem.Spec L2
namespace LS
open RC
section
variable {m : Nat}
end
end LS
end DL

set_option linter.all false
set_option maxRecDepth 100000
/-! ### sorting, for any keys that are read -/
namespace TW
open PySem PySem.Spec PyProof.Rows DL DWK SE
/-- keys: how they lie, their order, and that the machine asks it -/
structure SKy (κ : Type) where
  D : κ → PyData
  z : κ
  lt : κ → κ → Bool
  kd : SortKind
  okb : List κ → Bool
  rd : PyData → Option κ
  rd_eq : ∀ d k, rd d = some k → d = D k
  tup : ∀ k, ∃ ds, D k = .tuple ds
  isk : ∀ k, isK (D k) = true
  inj : ∀ a b, D a = D b → a = b
  irr : ∀ a, lt a a = false
  tr : ∀ a b c, lt a b = true → lt b c = true → lt a c = true
  total : ∀ a b, lt a b = false → lt b a = false → a = b
  ask : ∀ (prog : Program) (w : World) (A : Around) (E : Value → Shared → Prop) (s : Shared) (x y : Value) (a b : κ) (as bs : List Addr) (Q : Bool → Shared → Prop), Reads s.heap x (D a) as → Reads s.heap y (D b) bs → A.units + 8 < cLine → Q (lt a b) s → wpAny (model prog w) A (keyLt' kd x y) Q E s
  kind : ∀ (prog : Program) (w : World) (A : Around) (E : Value → Shared → Prop) (s : Shared) (vs : List Value) (ks : List κ) (Q : SortKind → Shared → Prop), Paired (fun v k => ∃ as, Reads s.heap v (D k) as) vs ks → 2 ≤ vs.length → okb ks = true → Q kd s → wpAny (model prog w) A (keyKind' vs.toArray) Q E s
theorem SKy.nt {κ : Type} (K : SKy κ) (a b c : κ) (h : K.lt a c = true) : K.lt a b = true ∨ K.lt b c = true := by
  cases q1 : K.lt a b with
  | true => exact .inl rfl
  | false =>
    refine .inr ?_
    cases q2 : K.lt b a with
    | true => exact K.tr _ _ _ q2 h
    | false => rw [← K.total a b q1 q2]; exact h
section
variable {κ : Type} {K : SKy κ}
def srtG (K : SKy κ) (l : List κ) : List κ := l.mergeSort fun a b => !K.lt b a
theorem srtG_perm (l : List κ) : (srtG K l).Perm l := List.mergeSort_perm _ _
abbrev UpG (K : SKy κ) (l : List κ) : Prop := l.Pairwise fun a b => K.lt b a = false
theorem srtG_up (l : List κ) : UpG K (srtG K l) := by
  have := List.pairwise_mergeSort (le := fun a b => !K.lt b a) (fun a b c h1 h2 => ?_) (fun a b => ?_) l
  · exact this.imp fun q => by simpa using q
  · have h1 : K.lt b a = false := by simpa using h1
    have h2 : K.lt c b = false := by simpa using h2
    cases q : K.lt c a with
    | false => rfl
    | true => rcases K.nt _ b _ q with z | z <;> simp_all
  · cases q : K.lt b a with
    | false => rfl
    | true =>
      cases q2 : K.lt a b with
      | false => rfl
      | true => have := K.tr _ _ _ q q2; rw [K.irr] at this; cases this
theorem srtG_of {l l' : List κ} (p : l'.Perm l) (h : UpG K l') : l' = srtG K l :=
  List.Perm.eq_of_pairwise (fun a b _ _ h1 h2 => K.total a b h2 h1) h (srtG_up l) (p.trans (srtG_perm l).symm)
def GRd (K : SKy κ) (h : Heap) (v : Value) (k : κ) : Prop := ∃ as, Reads h v (K.D k) as
theorem GRd.uniq {h : Heap} {v : Value} {a b : κ} (x : GRd K h v a) (y : GRd K h v b) : a = b := by
  obtain ⟨as, x⟩ := x
  obtain ⟨bs, y⟩ := y
  exact K.inj _ _ (reads_uniq _ _ _ _ _ (K.isk _) (K.isk _) x y)
theorem GRd.keep {h h' : Heap} (k : SE.TupsK h h') {v : Value} {a : κ} (x : GRd K h v a) : GRd K h' v a := let ⟨as, x⟩ := x; ⟨as, reads_tups k _ _ _ (K.isk _) x⟩
open Classical in
noncomputable def gOf (K : SKy κ) (h : Heap) (v : Value) : κ := if q : ∃ k, GRd K h v k then q.choose else K.z
theorem gOf_eq {h : Heap} {v : Value} {k : κ} (x : GRd K h v k) : gOf K h v = k := by
  have q : ∃ k, GRd K h v k := ⟨k, x⟩
  unfold gOf
  rw [dif_pos q]
  exact GRd.uniq q.choose_spec x
abbrev GRds (K : SKy κ) (h : Heap) (vs : List Value) (ks : List κ) : Prop := Paired (GRd K h) vs ks
theorem grds_map {h : Heap} : ∀ {vs : List Value} {ks : List κ}, GRds K h vs ks → (∀ v ∈ vs, GRd K h v (gOf K h v)) ∧ vs.map (gOf K h) = ks
  | _, _, .nil => ⟨(fun v hv => absurd hv List.not_mem_nil), rfl⟩
  | _, _, .cons a b => by
    obtain ⟨i1, i2⟩ := grds_map b
    refine ⟨fun v hv => ?_, by rw [List.map_cons, gOf_eq a, i2]⟩
    rcases List.mem_cons.mp hv with rfl | z
    · rw [gOf_eq a]; exact a
    · exact i1 v z
theorem grds_keep {h h' : Heap} (k : SE.TupsK h h') : ∀ {vs : List Value} {ks : List κ}, GRds K h vs ks → GRds K h' vs ks
  | _, _, .nil => .nil
  | _, _, .cons a b => .cons (a.keep k) (grds_keep k b)
section
variable {prog : Program} {w : World} {A : Around} {E : Value → Shared → Prop} {s : Shared}
theorem list_sort_gen {a : Addr} {vs : List Value} {ks : List κ} {n : Nat} {P : PySem.Fin → Shared → Prop} (ho : s.heap.get? a = some (seqObj "list" vs.toArray n)) (hk : GRds K s.heap vs ks) (hz : vs.length ≤ sizeLine) (hok : K.okb ks = true) (hu : A.units + 8 < cLine)
    (h : ∀ (h' : Heap) (c : Nat) (pr : List (Value × κ)), (∀ b o, b ≠ a → s.heap.get? b = some o → h'.get? b = some o) → h'.get? a = some (seqObj "list" (pr.map (·.1)).toArray c) → pr.Perm (vs.zip ks) → UpG K (pr.map (·.2)) → P (.done (.ret .none)) { s with heap := h' }) :
    wpAny (model prog w) A (Builtin.«list.sort» ⟨[.ref a], []⟩) P E s := by
  have lk : vs.length = ks.length := Paired.length hk
  rw [list_sort_plain]
  have s1 := Heap.SameBut.update s.heap a (Obj.mapSeq fun _ => (#[] : Array Value))
  obtain ⟨e1, ho1⟩ : ∃ e1, (s.heap.update a (Obj.mapSeq fun _ => (#[] : Array Value))).get? a = some (seqObj "list" #[] e1) := ⟨_, get?_update_seq ho fun _ => #[]⟩
  have k3 : ∀ b o, b ≠ a → s.heap.get? b = some o → (((s.heap.update a (Obj.mapSeq fun _ => (#[] : Array Value))).push (seqObj "tuple" vs.toArray 0)).push (seqObj "list" #[] 0)).get? b = some o := fun b o hb e => Heap.get?_push_of_some _ (Heap.get?_push_of_some _ ((s1.2 b hb).trans e))
  have ho3 : (((s.heap.update a (Obj.mapSeq fun _ => (#[] : Array Value))).push (seqObj "tuple" vs.toArray 0)).push (seqObj "list" #[] 0)).get? a = some (seqObj "list" #[] e1) := Heap.get?_push_of_some _ (Heap.get?_push_of_some _ ho1)
  refine wpAny_bind (listItems_at ho rfl ?_)
  refine wpAny_bind (listUpdate_at ho rfl ?_ (by rw [List.size_toArray]; omega) (Nat.zero_le _))
  refine wpAny_bind (seqEpoch_at ho1 rfl ?_)
  refine wpAny_bind (wpAny_newTuple ?_ (by show vs.length ≤ _; omega))
  refine wpAny_bind (wpAny_newList ?_ (Nat.zero_le _))
  refine wpAny_holding ?_
  show wpAny (model prog w) A _ P E { s with heap := ((s.heap.update a (Obj.mapSeq fun _ => #[])).push (seqObj "tuple" vs.toArray 0)).push (seqObj "list" #[] 0) }
  dsimp only
  generalize ((s.heap.update a (Obj.mapSeq fun _ => (#[] : Array Value))).push (seqObj "tuple" vs.toArray 0)).push (seqObj "list" #[] 0) = h3 at k3 ho3 ⊢
  have tk3 : SE.TupsK s.heap h3 := fun b o e hc => k3 b o (fun z => by subst z; rw [ho] at e; cases e; exact absurd hc (show ¬ (Value.type "list" = Value.type "tuple") by decide)) e
  have fin : ∀ (pr : List (Value × κ)), pr.Perm (vs.zip ks) → UpG K (pr.map (·.2)) → ∀ (arr : Array Value), arr = (pr.map (·.1)).toArray →
      P (.done (.ret .none)) { s with heap := h3.update a (Obj.mapSeq fun _ => arr) } := by
    intro pr hp hr arr ea
    subst ea
    obtain ⟨c2, hc2⟩ : ∃ c2, (h3.update a (Obj.mapSeq fun _ => (pr.map (·.1)).toArray)).get? a = some (seqObj "list" (pr.map (·.1)).toArray c2) := ⟨_, get?_update_seq ho3 fun _ => (pr.map (·.1)).toArray⟩
    have s2 := Heap.SameBut.update h3 a (Obj.mapSeq fun _ => (pr.map (·.1)).toArray)
    exact h _ c2 pr (fun b o hb e => (s2.2 b hb).trans (k3 b o hb e)) hc2 hp hr
  by_cases h2 : vs.toArray.size < 2
  · rw [if_pos h2, if_pos h2]
    refine wpAny_bind (wpAny_pure ?_)
    rw [StateT.run_pure]
    refine wpAny_bind (wpAny_pure ?_)
    dsimp only
    have e0 : (arrOf (SortSt.mk' general' (vs.toArray.zip vs.toArray) #[] 7 none)).map (·.2) = vs.toArray := by
      show (vs.toArray.zip vs.toArray).map (·.2) = vs.toArray
      apply Array.ext
      · simp
      · intro i h1 h2; simp
    rw [e0]
    refine wpAny_bind (seqEpoch_at ho3 rfl ?_)
    refine wpAny_bind (listUpdate_at ho3 rfl ?_ (Nat.zero_le _) (by rw [List.size_toArray]; omega))
    simp only [bne_self_eq_false, Bool.false_eq_true, if_false]
    have z1 : (vs.zip ks).map (·.1) = vs := by rw [List.map_fst_zip (Nat.le_of_eq lk)]
    have z2 : (vs.zip ks).map (·.2) = ks := by rw [List.map_snd_zip (Nat.le_of_eq lk.symm)]
    refine wpAny_pure (fin (vs.zip ks) (List.Perm.refl _) ?_ _ (by rw [z1]))
    rw [z2]
    simp only [List.size_toArray] at h2
    match ks, lk with
    | [], _ => exact List.Pairwise.nil
    | [k], _ => exact List.pairwise_singleton _ _
    | _ :: _ :: _, lk => simp at lk; omega
  · rw [if_neg h2, if_neg h2]
    simp only [List.size_toArray] at h2
    have hk3 := grds_keep tk3 hk
    refine wpAny_bind (K.kind prog w A _ { s with heap := h3 } vs ks _ hk3 (by omega) hok ?_)
    obtain ⟨rd3, mk3⟩ := grds_map hk3
    have zz : ∀ l : List Value, (l.toArray.zip l.toArray).toList = l.map fun v => (v, v) := by
      intro l
      simp only [Array.toList_zip]
      induction l with
      | nil => rfl
      | cons v l ih => simpa using ih
    have zs : (vs.toArray.zip vs.toArray).size = vs.length := by simp
    have mem0 : ∀ x ∈ (vs.toArray.zip vs.toArray).toList, GRd K h3 x.1 (gOf K h3 x.1) ∧ x.2 = x.1 := fun x hx => by
      rw [zz] at hx
      obtain ⟨v, hv, rfl⟩ := List.mem_map.mp hx
      exact ⟨rd3 v hv, rfl⟩
    have O : TS.Ord fun x y : Keyed => K.lt (gOf K h3 x.1) (gOf K h3 y.1) := ⟨fun a => K.irr _, fun a b c => K.tr _ _ _, fun a b c => K.nt _ _ _⟩
    have As : TS.Asks prog w A E { s with heap := h3 } K.kd (vs.toArray.zip vs.toArray) fun x y : Keyed => K.lt (gOf K h3 x.1) (gOf K h3 y.1) := by
      intro x y st Q hx hy hkd hq
      obtain ⟨as, rx⟩ := (mem0 x hx).1
      obtain ⟨bs, ry⟩ := (mem0 y hy).1
      rw [lt'_eq]
      refine wpS_bind (wpS_get ?_)
      rw [hkd]
      exact wpS_bind (wpS_lift (wpAny_attempt (K.ask prog w A _ { s with heap := h3 } _ _ _ _ _ _ _ rx ry hu ⟨rfl, wpS_pure hq⟩)))
    refine wpAny_bind (wpAny_mono (TS.runs_wp O As (st := SortSt.mk' K.kd (vs.toArray.zip vs.toArray) #[] 7 none) (Q := fun _ st' => (arrOf st').Perm (vs.toArray.zip vs.toArray) ∧ failedOf st' = none ∧ TS.SG (fun x y : Keyed => K.lt (gOf K h3 x.1) (gOf K h3 y.1)) (arrOf st') 0 (vs.toArray.zip vs.toArray).size)
      ⟨Array.Perm.refl _, rfl, rfl, rfl⟩ (by rw [zs]; omega) fun st' a1 a2 a3 => ⟨a1, a2, a3⟩) ?_ fun _ _ e => e)
    rintro ⟨⟨⟩, st'⟩ s' ⟨rfl, hp, hf, hs⟩
    dsimp only at hp hf hs ⊢
    have hpl := Array.perm_iff_toList_perm.mp hp
    have hz2 : (arrOf st').size = vs.length := hp.size_eq.trans zs
    have hm1 : ∀ x ∈ (arrOf st').toList, x.2 = x.1 := fun x hx => (mem0 x (hpl.mem_iff.mp hx)).2
    have ea : (arrOf st').map (·.2) = (((arrOf st').toList.map fun x => (x.1, gOf K h3 x.1)).map (·.1)).toArray := by
      rw [List.map_map, ← Array.toList_inj, Array.toList_map, List.toList_toArray]
      exact List.map_congr_left fun x hx => hm1 x hx
    refine wpAny_bind (seqEpoch_at ho3 rfl ?_)
    refine wpAny_bind (listUpdate_at ho3 rfl ?_ (Nat.zero_le _) (Nat.le_trans (Nat.le_of_eq ((Array.size_map ..).trans hz2)) (by omega)))
    rw [hf]
    simp only [bne_self_eq_false, Bool.false_eq_true, if_false]
    refine wpAny_pure (fin _ ?_ ?_ _ ea)
    · have := hpl.map fun x : Keyed => (x.1, gOf K h3 x.1)
      rw [zz, List.map_map] at this
      have e2 : vs.zip ks = vs.map ((fun x : Keyed => (x.1, gOf K h3 x.1)) ∘ fun v => (v, v)) := by
        rw [← mk3]
        have zm : ∀ l : List Value, l.zip (l.map (gOf K h3)) = l.map ((fun x : Keyed => (x.1, gOf K h3 x.1)) ∘ fun v => (v, v)) := by
          intro l
          induction l with
          | nil => rfl
          | cons v l ih => simpa using ih
        exact zm vs
      rw [e2]
      exact this
    · rw [List.map_map]
      show ((arrOf st').toList.map _).Pairwise _
      rw [List.pairwise_map, List.pairwise_iff_getElem]
      intro i j hi hj hij
      have hi' : i < (arrOf st').size := by simpa using hi
      have hj' : j < (arrOf st').size := by simpa using hj
      have := hs i j (Nat.zero_le _) (by omega) (by rw [zs, ← hz2]; exact hj')
      rw [TS.at_get hi', TS.at_get hj'] at this
      exact this
end
end
end TW
namespace DL
open PySem PySem.Spec PyProof.Rows L2 DWK
section
variable {κ : Type} {S : TW.SKy κ} {X : Cx}
theorem rp_gen {pins : List (Addr × Obj)} {σ : L2.St} {ρ : List Addr} {H : Hp} {s : Shared} (I : Inv X pins σ H s) {c : Addr} {k : κ} (r : Rp X.K ρ H (.ref c) (S.D k)) : TW.GRd S s.heap (.ref c) k := by
  have hd := Rp.dp _ _ (canK _ (S.isk k)) r
  obtain ⟨as, hr⟩ := Dp.reads I _ _ (.ref c) hd rfl
  exact ⟨as, hr⟩
def rSortG (S : TW.SKy κ) (X : Cx) : List V → Hp → VK → Prop := fun xs H Q => ∃ (ρ : List Addr) (a : Addr) (L : List (Addr × κ)), xs = [.ref a] ∧ (SqL X.K H a (L.map fun q => V.ref q.1) ∨ SqT X.K H a (L.map fun q => V.ref q.1)) ∧ (∀ p ∈ L, Rp X.K ρ H (.ref p.1) (S.D p.2)) ∧ L.length ≤ 100000 ∧ S.okb (L.map (·.2)) = true ∧
  ∀ (q : Addr) (L' : List (Addr × κ)), H q = none → L'.Perm L → L'.map (·.2) = TW.srtG S (L.map (·.2)) → Q (.ref q) (upd H q (.lst (L'.map fun p => V.ref p.1)))
theorem cr_sortG (hu : X.A.units + 80 < cLine) : CallR X (.builtin "sorted") (rSortG S X) := by
  intro pins s σ H vs us Q I r h
  obtain ⟨ρ, a, L, rfl, ha, rL, hz, hok, q⟩ := h
  rw [Vals.ref1 r]
  have seq : ∃ (T : String) (o : Obj) (items : Array Value) (n : Nat), (T = "list" ∨ T = "tuple") ∧ s.heap.get? a = some o ∧ o.cls = .type T ∧ o.data = .seq items n ∧ items.toList = L.map fun p => Value.ref p.1 := by
    have e : ∀ {us : List Value}, Vals (L.map fun q => V.ref q.1) us → us = L.map fun p => Value.ref p.1 := fun {us} hv => by
      have : Vals ((L.map (·.1)).map V.ref) us := by rw [List.map_map]; exact hv
      rw [Vals.refs this, List.map_map]; rfl
    rcases ha with ha | ha
    · obtain ⟨its, rv, ⟨o, n, ho, hc, _, hd⟩, _⟩ := I.list ha
      exact ⟨"list", o, _, n, .inl rfl, ho, hc, hd, by rw [← e rv]⟩
    · obtain ⟨its, rv, ⟨o, ho, hc, n, hd⟩, _⟩ := I.tuple ha
      exact ⟨"tuple", o, _, n, .inr rfl, ho, hc, hd, by rw [← e rv]⟩
  obtain ⟨T, o, items, n, hT, ho, hc, hd, hit⟩ := seq
  have hsz : items.size = L.length := by
    have := congrArg List.length hit
    simpa using this
  have line : L.length ≤ sizeLine := by rw [sizeLine_eq]; omega
  refine Calls.call_function_entry kind_sorted plain_sorted entry_sorted (args_sorted1 _) ?_
  unfold Builtin.«sorted»
  refine wpAny_bind (m := checkCount "sorted" 1 1 _) (wpAny_pure ?_)
  refine wpAny_bind (wpAny_collect_seq a hT ho hc hd (fun h1 hk => ?_) (by rw [hsz]; exact line))
  rw [hit]
  refine wpAny_bind (wpAny_newList ?_ (by rw [List.length_map]; exact line))
  have I1 : Inv X pins σ H { s with heap := h1 } := I.kept (t' := s.toks) hk
  have hD : (h1.push { cls := .type "list", data := .seq (L.map fun p => Value.ref p.1).toArray }).get? h1.objs.size = some (seqObj "list" (L.map fun p => Value.ref p.1).toArray 0) := Heap.get?_push_size _ rfl
  have k2 : ∀ b o, h1.get? b = some o → (h1.push { cls := .type "list", data := .seq (L.map fun p => Value.ref p.1).toArray }).get? b = some o := fun b o z => Heap.get?_push_of_some _ z
  have wr : TW.GRds S (h1.push { cls := .type "list", data := .seq (L.map fun p => Value.ref p.1).toArray }) (L.map fun p => Value.ref p.1) (L.map (·.2)) := by
    have : ∀ l : List (Addr × κ), (∀ p ∈ l, p ∈ L) → TW.GRds S h1 (l.map fun p => Value.ref p.1) (l.map (·.2)) := by
      intro l hl
      induction l with
      | nil => exact .nil
      | cons p l ih => exact .cons (rp_gen I1 (rL p (hl p List.mem_cons_self))) (ih fun q hq => hl q (List.mem_cons_of_mem _ hq))
    exact TW.grds_keep (SE.TupsK.of k2) (this L fun p hp => hp)
  refine wpAny_bind (wpAny_holding (wpAny_call_entry slot_list_sort ⟨_, hD, rfl⟩ entry_list_sort ?_ (args_list_sort _)))
  refine TW.list_sort_gen (s := { s with heap := h1.push { cls := .type "list", data := .seq (L.map fun p => Value.ref p.1).toArray } }) hD wr (by rw [List.length_map]; exact line) hok (by simp only [Around.in1_units]; omega) fun h3 c pr k3 g3 pk rs => ?_
  have po : ∃ L2 : List (Addr × κ), L2.Perm L ∧ pr = L2.map fun p => (Value.ref p.1, p.2) := by
    have zz : (L.map fun p => Value.ref p.1).zip (L.map (·.2)) = L.map fun p => (Value.ref p.1, p.2) := List.zip_map'
    rw [zz] at pk
    have pr' : ∀ L : List (Addr × κ), Paired (fun (v : Value × κ) (p : Addr × κ) => v = (.ref p.1, p.2)) (L.map fun p => (Value.ref p.1, p.2)) L := by
      intro L
      induction L with
      | nil => exact .nil
      | cons a b ih => exact .cons rfl ih
    obtain ⟨L2, q1, q2⟩ := SE.paired_perm pk (pr' L)
    refine ⟨L2, q1, ?_⟩
    have : ∀ {vs : List (Value × κ)} {L' : List (Addr × κ)}, Paired (fun (v : Value × κ) (p : Addr × κ) => v = (.ref p.1, p.2)) vs L' → vs = L'.map fun p => (Value.ref p.1, p.2) := by
      intro vs L' h
      induction h with
      | nil => rfl
      | cons a _ ih => rw [a, ih]; rfl
    exact this q2
  obtain ⟨L2, p2, ep2⟩ := po
  subst ep2
  rw [List.map_map] at rs g3
  have vr : ∀ l : List (Addr × κ), Vals (l.map fun p => V.ref p.1) (l.map fun p => Value.ref p.1) := by
    intro l
    induction l with
    | nil => exact .nil
    | cons p l ih => exact .cons rfl ih
  refine ⟨_, rfl, wpAny_pure ⟨_, rfl, ?_⟩⟩
  refine ⟨.ref h1.objs.size, upd H h1.objs.size (.lst (L2.map fun p => V.ref p.1)), I1.laid (t' := s.toks) (fun b u z => k3 b u (Nat.ne_of_lt (Heap.lt_size z)) (k2 b u z)) (Nat.le_refl _) ⟨?_, _, c, vr L2, g3⟩, rfl, q _ L2 (I1.hok.fresh (Nat.le_refl _)) p2 ?_⟩
  · rw [List.length_map, p2.length_eq]; exact line
  · exact TW.srtG_of (p2.map _) rs
theorem RpA.keys {K : PySem.W.Frag} {ρ : List Addr} {H : Hp} : ∀ {xs : List V} {ks : List κ}, RpA K ρ H xs (ks.map S.D) → ∃ L : List (Addr × κ), xs = L.map (fun q => V.ref q.1) ∧ L.map (·.2) = ks ∧ ∀ p ∈ L, Rp K ρ H (.ref p.1) (S.D p.2)
  | _, [], h => by cases h; exact ⟨[], rfl, rfl, fun _ z => absurd z List.not_mem_nil⟩
  | _, k :: ks, h => by
    cases h with
    | @cons v0 _ _ _ a b =>
      obtain ⟨L, h1, h2, h3⟩ := RpA.keys b
      have : ∃ c, v0 = V.ref c := by
        obtain ⟨ds, e⟩ := S.tup k
        rw [e] at a
        cases a with
        | tup q r => exact ⟨_, rfl⟩
      obtain ⟨c, rfl⟩ := this
      refine ⟨(c, k) :: L, by rw [h1]; rfl, by rw [List.map_cons, h2], fun p hp => ?_⟩
      rcases List.mem_cons.mp hp with rfl | z
      · exact a
      · exact h3 p z
end
def rdsOf {κ : Type} (S : TW.SKy κ) : List PyData → Option (List κ)
  | [] => some []
  | d :: ds => match S.rd d, rdsOf S ds with
    | some k, some ks => some (k :: ks)
    | _, _ => none
theorem rdsOf_eq {κ : Type} {S : TW.SKy κ} : ∀ {ds : List PyData} {ks : List κ}, rdsOf S ds = some ks → ds = ks.map S.D
  | [], _, h => by cases h; rfl
  | d :: ds, ks, h => by
    unfold rdsOf at h
    split at h
    · rename_i k ks' e1 e2
      cases h
      rw [List.map_cons, S.rd_eq _ _ e1, rdsOf_eq e2]
    · cases h
section
variable {κ : Type} {T : TW.SKy κ} {X : Cx} {e a b : Expr} {fr : FA} {fa fb : FE} {p pos : Pos}
def gSrtG (T : TW.SKy κ) : Bxs → DV → Option DV := fun S x => match sq S x with
  | some ds => (match rdsOf T ds with
    | some ks => if ks.length ≤ 100000 ∧ T.okb ks = true then some (.lst ((TW.srtG T ks).map T.D)) else none
    | none => none)
  | none => none
theorem op_srtG : OpN X.K (rSortG T X) (g1 (gSrtG T)) := opN1 (by
  intro ρ S H0 H v x dv Q st fr r1 h k
  unfold gSrtG at h
  split at h
  · rename_i ds e1
    split at h
    · rename_i ks e2
      split at h
      · rename_i hl
        cases h
        obtain ⟨b, xs, rfl, q, rr⟩ := sq_ok st r1 e1
        rw [rdsOf_eq e2] at rr
        obtain ⟨L, rfl, eL, rL⟩ := RpA.keys rr
        subst eL
        refine ⟨ρ, b, L, rfl, q, rL, by simpa using hl.1, hl.2, fun r L' hr pm rs => ?_⟩
        have rr2 : ∀ l : List (Addr × κ), (∀ p ∈ l, p ∈ L') → RpA X.K ρ H (l.map fun p => V.ref p.1) ((l.map (·.2)).map T.D) := by
          intro l hl
          induction l with
          | nil => exact .nil
          | cons p l ih => exact .cons (rL p (pm.mem_iff.mp (hl p List.mem_cons_self))) (ih fun q hq => hl q (List.mem_cons_of_mem _ hq))
        have rr3 := rr2 L' fun p hp => hp
        rw [rs] at rr3
        obtain ⟨a1, a3⟩ := new_lst st fr hr rr3
        exact k _ _ a1 a3
      · cases h
    · cases h
  · cases h)
theorem e_srtG (hu : X.A.units + 80 < cLine) (B : Bl X.mg) (hg : Gl X "sorted") (ha : DA X [e] fr) (he : starEach [e] X.env = (false, eval e X.env) :: starEach [] X.env := by rfl) (hpl : (backTo pos (starEach [] X.env)).any (·.1) = false := by rfl) :
    DE X (.Call (.Name "sorted" p) [e] [] pos) (fOpN (g1 (gSrtG T)) fr) := de_callB (cr_sortG hu) op_srtG hg B.sorted rfl ha (by decide) (by decide) he hpl
end
end DL

set_option linter.all false
set_option maxRecDepth 100000
/-! ### webs, and tuples of ties, as keys -/
namespace TW
open PySem PySem.Spec PyProof.Rows DL DWK SE
abbrev TT := List (List Int)
def tD (t : TT) : PyData := .tuple (t.map dT)
theorem tD_inj {a b : TT} (h : tD a = tD b) : a = b := by
  have := wD_inj (a := (0, a)) (b := (0, b)) (by
    unfold wD
    have h' : PyData.tuple (a.map dT) = PyData.tuple (b.map dT) := h
    show PyData.tuple [.int 0, .tuple (a.map dT)] = PyData.tuple [.int 0, .tuple (b.map dT)]
    rw [h'])
  exact congrArg (·.2) this
def tOf : PyData → Option TT
  | .tuple ds => tupsD ds
  | _ => none
theorem tOf_eq {d : PyData} {k : TT} (h : tOf d = some k) : d = tD k := by
  unfold tOf at h
  split at h
  · rw [tupsD_eq h]; rfl
  · cases h
section
variable {prog : Program} {w : World} {A : Around} {E : Value → Shared → Prop} {s : Shared}
theorem ties_ask {x y : Value} {us vs : TT} {as bs : List Addr} {Q : Bool → Shared → Prop} (rx : Reads s.heap x (tD us) as) (ry : Reads s.heap y (tD vs) bs) (hu : A.units + 8 < cLine) (h : Q (lexT us vs) s) : wpAny (model prog w) A (keyLt' oneType' x y) Q E s := by
  unfold tD at rx ry
  cases rx with
  | @tuple l o items n _ _ h1 h2 h3 h4 =>
    cases ry with
    | @tuple b o2 items2 n2 _ _ g1 g2 g3 g4 =>
      obtain ⟨cls, dd, data, sl⟩ := o
      obtain ⟨cls2, dd2, data2, sl2⟩ := o2
      simp only at h2 h3 g2 g3
      subst h2 h3 g2 g3
      rw [keyLt'_oneType, oneLt'_eq]
      simp only [if_true]
      refine wpAny_bind (wpAny_cRoomFor (by omega) ?_)
      refine wpAny_bind (wpAny_callSpecialIfBound?_slot ⟨_, h1, rfl⟩ PySem.F.slot_tuple_lt ?_)
      have hm := PySem.call_meets (prog := prog) (w := w) (A := A) (E := E) (s := s) (self := .ref l) (rest := [.ref b]) PySem.F.slot_tuple_lt ⟨_, h1, rfl⟩ PySem.F.entry_tuple_lt (PySem.F.args_tuple_lt_2 (.ref l) (.ref b)) (ties_lt l b items items2 n n2 dd dd2 sl sl2 us vs as bs)
        (Q := fun v s' => v = .bool (lexT us vs) ∧ s' = s) ⟨hu, h4, g4, h1, g1, rfl, rfl⟩
      refine wpAny_mono hm (fun v s' hv => ?_) fun _ _ e => e
      obtain ⟨rfl, rfl⟩ := hv
      exact wpAny_truthy_bool h
theorem ties_firsts {M : Model} {A : Around} {E : Value → Shared → Prop} {s : Shared} : ∀ {vs : List Value} {us : List TT}, Paired (fun v k => ∃ as, Reads s.heap v (tD k) as) vs us → ∀ {Q : List (Option Value) → Shared → Prop}, (∀ fs : List (Option Value), (us.head? = some [] → fs[0]? = some none) → Q fs s) → wpAny M A (vs.mapM firstOfTuple') Q E s
  | _, _, .nil, Q, h => by
    rw [List.mapM_nil]
    exact wpAny_pure (h [] fun e => nomatch e)
  | _, _, .cons (a := v) (b := u) ⟨as, r⟩ t, Q, h => by
    rw [List.mapM_cons]
    unfold tD at r
    cases r with
    | @tuple l o items n _ _ h1 h2 h3 h4 =>
      refine wpAny_bind ?_
      rw [PySem.W.kas_first_eq]
      refine wpAny_bind (PySem.W.Looks.here (show PySem.W.Looks M s.heap (typeOf (.ref l)) o.cls from (PySem.W.Looks.ld h1).andThen .now) ?_)
      rw [h2, if_neg (by first | decide | simp)]
      refine wpAny_bind (listItems_at h1 h3 (wpAny_pure ?_))
      refine wpAny_bind (ties_firsts t (Q := fun bs s' => wpAny M A (pure (items[0]? :: bs)) Q E s') fun fs _ => wpAny_pure (h _ fun e => ?_))
      simp only [List.head?_cons, Option.some.injEq] at e
      subst e
      have z : items.toList.length = 0 := by have := lenR h4; simpa using this
      have : items = #[] := by
        apply Array.toList_inj.mp
        exact List.length_eq_zero_iff.mp z
      subst this
      rfl
theorem ties_kind {vs : List Value} {us : List TT} (hk : Paired (fun v k => ∃ as, Reads s.heap v (tD k) as) vs us) (h2 : 2 ≤ vs.length) (h0 : us.head? = some []) {Q : SortKind → Shared → Prop} (h : Q oneType' s) : wpAny (model prog w) A (keyKind' vs.toArray) Q E s := by
  have hT : ∀ v ∈ vs, PySem.W.Looks (model prog w) s.heap (typeOf v) (.type "tuple") := by
    have : ∀ {vs : List Value} {us : List TT}, Paired (fun v k => ∃ as, Reads s.heap v (tD k) as) vs us → ∀ v ∈ vs, PySem.W.Looks (model prog w) s.heap (typeOf v) (.type "tuple") := by
      intro vs us hk
      induction hk with
      | nil => exact fun v hv => nomatch hv
      | cons a _ ih =>
        intro v hv
        rcases List.mem_cons.mp hv with rfl | hv
        · obtain ⟨as, a⟩ := a
          unfold tD at a
          cases a with
          | @tuple l o items n _ _ h1 h2 h3 h4 =>
            have := (show PySem.W.Looks (model prog w) s.heap (typeOf (.ref l)) o.cls from (PySem.W.Looks.ld h1).andThen .now)
            rw [h2] at this
            exact this
        · exact ih v hv
    exact this hk
  obtain ⟨v₁, v₂, rest, rfl⟩ : ∃ v₁ v₂ rest, vs = v₁ :: v₂ :: rest := by
    match vs, h2 with
    | [], h2 => simp at h2
    | [_], h2 => simp at h2
    | v₁ :: v₂ :: rest, _ => exact ⟨v₁, v₂, rest, rfl⟩
  rw [keyKind'_eq, List.mapM_toArray, map_eq_pure_bind]
  refine wpAny_bind (wpAny_bind (ties_firsts hk fun fs hfs => wpAny_pure ?_))
  have hf := hfs h0
  have hne : ¬ ((fs.toArray.all fun x => x.isSome) = true) := by
    intro q
    simp only [List.all_toArray, List.all_eq_true] at q
    have hm : none ∈ fs := List.mem_of_getElem? hf
    have := q none hm
    simp at this
  rw [if_neg hne, if_neg (by simp [hf])]
  rw [oneTypeOnly'_eq, List.mapM_toArray, map_eq_pure_bind]
  refine wpAny_bind (wpAny_bind (wpAny_bind (PySem.W.kas_mapM (r := Value.type "tuple") _ (fun v hv Q' hq => (hT v hv).here hq) (wpAny_pure ?_))))
  have hall : ((List.map (fun _ => Value.type "tuple") (v₁ :: v₂ :: rest)).toArray.all fun x => x == Value.type "tuple") = true := by
    simp only [List.all_toArray, List.all_map, List.all_eq_true]
    intro _ _
    rfl
  have h0' : (List.map (fun _ => Value.type "tuple") (v₁ :: v₂ :: rest)).toArray[0]? = some (Value.type "tuple") := by simp
  rw [h0']
  simp only [hall, if_true]
  exact wpAny_pure (wpAny_pure h)
end
def SW : SKy WK where
  D := wD
  z := (0, [])
  lt := wlt
  kd := tuples' true
  okb := fun _ => true
  rd := wkOf
  rd_eq := fun d k h => wkOf_eq h
  tup := fun k => ⟨_, rfl⟩
  isk := isK_w
  inj := fun a b h => wD_inj h
  irr := wlt_irr
  tr := wlt_tr
  total := wlt_total
  ask := fun prog w A E s x y a b as bs Q rx ry hu h => web_lt rx ry hu h
  kind := fun prog w A E s vs ks Q hk h2 _ h => web_kind hk (by omega) h
def ST : SKy TT where
  D := tD
  z := []
  lt := lexT
  kd := oneType'
  okb := fun ks => decide (ks.head? = some [])
  rd := tOf
  rd_eq := fun d k h => tOf_eq h
  tup := fun k => ⟨_, rfl⟩
  isk := fun k => by unfold tD; rw [isK]; exact isKs_map isK_ints k
  inj := fun a b h => tD_inj h
  irr := lexT_irr
  tr := lexT_tr
  total := lexT_total
  ask := fun prog w A E s x y a b as bs Q rx ry hu h => ties_ask rx ry hu h
  kind := fun prog w A E s vs ks Q hk h2 ok h => ties_kind hk h2 (of_decide_eq_true ok) h
end TW

set_option linter.all false
set_option maxRecDepth 100000
/-! enumerate of a list that is data -/
namespace DL
open PySem PySem.Spec L2
variable {K : PySem.W.Frag}
def enumD : Nat → List D → List D
  | _, [] => []
  | k, x :: xs => PyData.tuple [.int k, x] :: enumD (k + 1) xs
theorem enumD_len : ∀ (xs : List D) (k : Nat), (enumD k xs).length = xs.length
  | [], _ => rfl
  | x :: xs, k => by rw [enumD, List.length_cons, List.length_cons, enumD_len]
theorem enumD_get : ∀ (xs : List D) (k i : Nat) (x : D), xs[i]? = some x → (enumD k xs)[i]? = some (.tuple [.int ((k + i : Nat) : Int), x])
  | [], _, _, _, h => by simp at h
  | y :: ys, k, 0, x, h => by
    simp at h
    subst h
    rfl
  | y :: ys, k, i + 1, x, h => by
    rw [List.getElem?_cons_succ] at h
    rw [enumD, List.getElem?_cons_succ, enumD_get ys (k + 1) i x h]
    have : k + 1 + i = k + (i + 1) := by omega
    rw [this]
def iEnumD (fr : FA) : FI := fun ε S => match fr ε S with
  | some ([.dat (.list xs)], S1) => some (enumD 0 xs, S1)
  | _ => none
theorem itOk_enum {ρ : List Addr} {H : Hp} {a : Addr} {us : List V} {xs : List D} (bx : Bx ρ H) (qa : SqN K ρ H a us) (ra : RpA K ρ H us xs) : ItOkZ K ρ H (Ite K a) (enumD 0 xs) := fun i ρ' H' S' x st => by
  have qa' := (x.sqN qa).sqL
  have ra' := RpA.keep x bx _ _ ra
  have la := ra.length
  rw [enumD_len]
  constructor
  · intro h
    exact ⟨us, qa', by omega⟩
  · intro h
    obtain ⟨u, hu, ru⟩ := ra'.get (List.getElem?_eq_getElem h)
    refine ⟨⟨us, u, qa', hu⟩, ?_⟩
    rintro y H'' ⟨T, x', rfl, hT, rfl, h3⟩
    have e1 := h3 us qa'
    rw [hu] at e1; cases e1
    have xT : Ext K ρ' H' ρ' (upd H' T (.tup [.int (i : Nat), u])) := Ext.upd hT
    have e2 := enumD_get xs 0 i _ (List.getElem?_eq_getElem h)
    rw [Nat.zero_add] at e2
    exact ⟨xT, st.upd hT, _, e2, .tup (.inl (.inl upd_same)) (.cons (.int _) (.cons (Rp.keep xT st.bx _ _ ru) .nil))⟩
section
variable {X : Cx} {e : Expr} {p pos tp : Pos} {fr : FA} {es : List Expr} {kk : Nat}
theorem di_enum (hg : Gl X "enumerate") (hm : X.mg "enumerate" = none) (ha : DA X [e] fr) (hs : starEach [e] X.env = [(false, eval e X.env)] := by rfl) :
    DIZ X (.Tuple es kk tp) (.Call (.Name "enumerate" p) [e] [] pos) (iEnumD fr) := ⟨PI.imp (pi_enum hg hm ha.pa hs) fun σ H R ⟨ρ, ε, S, ds, S', M, h, k⟩ => by
  unfold iEnumD at h
  split at h
  · rename_i xs S1 h1
    cases h
    refine ⟨ρ, ε, S, _, _, M, h1, fun vs H1 st r x => ?_⟩
    cases r with
    | cons r1 r =>
      cases r
      cases r1 with
      | dat r1 =>
        cases r1 with
        | @lst a us _ qa ra =>
          exact ⟨a, us, rfl, qa.sqL, k _ _ st x (itOk_enum st.bx qa ra)⟩
  · cases h⟩
end
end DL

set_option linter.all false
set_option maxRecDepth 100000
/-! all webs: the defs, as functions of data -/
namespace DL
open PySem PySem.Spec L2 XR
/-- refuse_above: ['many', 'most'] kept: [] -/
def g_refuse_above : FS := (sIf (fCmpT bGt (fVar 0) (fVar 1)) sNever sNil)
def sem_refuse_above : Sem0 := semOf 2 g_refuse_above
/-- refuse_above, where it refuses -/
def gx_refuse_above : FX := (xIf (fCmpT bGt (fVar 0) (fVar 1)) (xRaise 0 (fCons (fOp1 (gFmt "more than " " places are not looked at") (fVar 1)) fNil)) xNo)
def semx_refuse_above : SemX := semOfX 2 gx_refuse_above
/-- all_webs: ['many', 'choices', 'low', 'high', 'ties'] kept: [] -/
def g_all_webs : FS := (sSeq (sExpr (fCall 2 sem_refuse_above (fCons (fVar 0) (fCons (fC (.int 5)) fNil))))
  (sSeq (sSet 1 (fLst (fCons (fTup fNil) fNil)))
  (sSeq (sFor (iRange1 (fCons (fVar 0) fNil)) (hName 2) (sFor (iRange2 (fCons (fOp2 gAdd (fVar 2) (fC (.int 1))) (fCons (fVar 0) fNil))) (hName 3) (sSet 1 (fOp2 gCat (fVar 1) (fComp [4] (iD (fVar 1)) (hName 4) fYes (fOp2 gCatT (fVar 4) (fTup (fCons (fTup (fCons (fVar 2) (fCons (fVar 3) fNil))) fNil))))))))
  (sRet (fComp [4] (iD (fOpN (g1 (gSrtG TW.ST)) (fCons (fVar 1) fNil))) (hName 4) fYes (fTup (fCons (fVar 0) (fCons (fVar 4) fNil))))))))
def sem_all_webs : Sem0 := semOf 5 g_all_webs
/-- all_webs, where it refuses -/
def gx_all_webs : FX := (xCall 2 semx_refuse_above (fCons (fVar 0) (fCons (fC (.int 5)) fNil)))
def semx_all_webs : SemX := semOfX 5 gx_all_webs
end DL

set_option linter.all false
set_option maxRecDepth 100000
/-! ### all webs of so many places -/
namespace DL
open PySem PySem.Spec L2 XR
namespace AW
/-- all choices of some pairs -/
def chs (ps : TL) : List TL := ps.foldl (fun C p => C ++ C.map fun t => t ++ [p]) [[]]
theorem chs_snoc (ps : TL) (p : List Int) : chs (ps ++ [p]) = chs ps ++ (chs ps).map fun t => t ++ [p] := by unfold chs; rw [List.foldl_append]; rfl
theorem snoc_ind {P : TL → Prop} (h0 : P []) (h1 : ∀ ps p, P ps → P (ps ++ [p])) : ∀ ps, P ps := by
  have : ∀ l : TL, P l.reverse := by
    intro l
    induction l with
    | nil => exact h0
    | cons a l ih => rw [List.reverse_cons]; exact h1 _ _ ih
  intro ps
  have := this ps.reverse
  rwa [List.reverse_reverse] at this
theorem chs_len (ps : TL) : (chs ps).length = 2 ^ ps.length := by
  refine snoc_ind (P := fun ps => (chs ps).length = 2 ^ ps.length) rfl (fun ps p ih => ?_) ps
  rw [chs_snoc, List.length_append, List.length_map, ih, List.length_append, List.length_singleton, Nat.pow_succ]
  omega
theorem chs_head (ps : TL) : (chs ps).head? = some [] := by
  refine snoc_ind (P := fun ps => (chs ps).head? = some []) rfl (fun ps p ih => ?_) ps
  rw [chs_snoc, List.head?_append, ih]
  rfl
theorem chs_mem (ps t : TL) : t ∈ chs ps ↔ t.Sublist ps := by
  revert t
  refine snoc_ind (P := fun ps => ∀ t, t ∈ chs ps ↔ t.Sublist ps) (fun t => ?_) (fun ps p ih t => ?_) ps
  · show t ∈ [[]] ↔ _
    rw [List.mem_singleton, List.sublist_nil]
  · rw [chs_snoc, List.mem_append, List.mem_map, List.sublist_append_iff]
    constructor
    · rintro (h | ⟨u, h, rfl⟩)
      · exact ⟨t, [], by simp, (ih t).mp h, List.nil_sublist _⟩
      · exact ⟨u, [p], rfl, (ih u).mp h, List.Sublist.refl _⟩
    · rintro ⟨l1, l2, rfl, h1, h2⟩
      rcases List.sublist_cons_iff.mp h2 with h2 | ⟨r, rfl, h2⟩
      · rw [List.sublist_nil] at h2
        subst h2
        rw [List.append_nil]
        exact .inl ((ih l1).mpr h1)
      · rename_i h3
        have h3 := List.sublist_nil.mp (by first | exact h3 | exact h2)
        subst h3
        exact .inr ⟨l1, (ih l1).mpr h1, rfl⟩
/-- all webs, rising -/
noncomputable def allW (n : Nat) : List TL := TW.srtG TW.ST (chs (allPairs n))
theorem allW_perm (n : Nat) : (allW n).Perm (chs (allPairs n)) := TW.srtG_perm _
theorem pairs5 {n : Nat} (h : n ≤ 5) : (allPairs n).length ≤ 10 := by
  have : ∀ n, n < 6 → (allPairs n).length ≤ 10 := by decide
  exact this n (by omega)
theorem chs_small {n : Nat} (h : n ≤ 5) : (chs (allPairs n)).length ≤ 1024 := by
  rw [chs_len]
  exact Nat.pow_le_pow_right (n := 2) (by decide) (pairs5 h)
theorem allW_len {n : Nat} (h : n ≤ 5) : (allW n).length ≤ 1024 := by rw [(allW_perm n).length_eq]; exact chs_small h
theorem tD_tOf (t : TL) : TW.tOf (TW.tD t) = some t := by
  unfold TW.tOf TW.tD
  exact tupsD_map t
theorem rds_map {κ : Type} (T : TW.SKy κ) (h : ∀ k, T.rd (T.D k) = some k) : ∀ ks : List κ, rdsOf T (ks.map T.D) = some ks
  | [] => rfl
  | k :: ks => by
    rw [List.map_cons]
    unfold rdsOf
    rw [h, rds_map T h ks]
theorem srtG_e {κ : Type} (T : TW.SKy κ) (h : ∀ k, T.rd (T.D k) = some k) {fa : FE} {ε : DEnv} {S S1 : Bxs} {x : DV} {ks : List κ} (hf : fa ε S = some (x, S1)) (hx : sq S1 x = some (ks.map T.D)) (hl : ks.length ≤ 100000) (ho : T.okb ks = true) : fOpN (g1 (gSrtG T)) (fCons fa fNil) ε S = some (.lst ((TW.srtG T ks).map T.D), S1) := by
  refine opN (cns hf nl) ?_
  unfold g1 gSrtG
  simp only [hx, rds_map T h]
  rw [if_pos ⟨hl, ho⟩]
section
variable {n : Nat}
theorem low_ok (hn : n ≤ 5) (S : Bxs) : sem_refuse_above [.dat (.int n), .dat (.int 5)] S = some (.dat .none, S) := by
  unfold sem_refuse_above
  rw [semOf_eq]
  show finOf S (g_refuse_above [some (.dat (.int n)), some (.dat (.int 5))] S) = _
  unfold g_refuse_above
  have c : fCmpT bGt (fVar 0) (fVar 1) [some (.dat (.int n)), some (.dat (.int 5))] S = some (decide ((5 : Int) < n), S) := cmT (vr (i := 0) (dv := .dat (.int n)) rfl) (vr (i := 1) (dv := .dat (.int 5)) rfl) (bGt_e _ _ _)
  rw [decide_eq_false (by omega)] at c
  rw [sIf_f c]
  unfold sNil finOf
  simp
def EW (n : Nat) (C : List TL) (x2 x3 x4 : Option DV) : DEnv := [some (.dat (.int n)), some (.dat (.list (C.map TW.tD))), x2, x3, x4]
def stepG : FS := (sSet 1 (fOp2 gCat (fVar 1) (fComp [4] (iD (fVar 1)) (hName 4) fYes (fOp2 gCatT (fVar 4) (fTup (fCons (fTup (fCons (fVar 2) (fCons (fVar 3) fNil))) fNil))))))
def innI : FI := (iRange2 (fCons (fOp2 gAdd (fVar 2) (fC (.int 1))) (fCons (fVar 0) fNil)))
def outF : FE := (fComp [4] (iD (fOpN (g1 (gSrtG TW.ST)) (fCons (fVar 1) fNil))) (hName 4) fYes (fTup (fCons (fVar 0) (fCons (fVar 4) fNil))))
theorem g_all_webs_eq : g_all_webs = sSeq (sExpr (fCall 2 sem_refuse_above (fCons (fVar 0) (fCons (fC (.int 5)) fNil)))) (sSeq (sSet 1 (fLst (fCons (fTup fNil) fNil))) (sSeq (sFor (iRange1 (fCons (fVar 0) fNil)) (hName 2) (sFor innI (hName 3) stepG)) (sRet outF))) := rfl
theorem step_ok {C : List TL} {a b : Int} (hC : C.length ≤ 1024) (hl : ∀ t ∈ C, t.length ≤ 100) (x4 : Option DV) (S : Bxs) : stepG (EW n C (some (.dat (.int a))) (some (.dat (.int b))) x4) S = some (.nx (EW n (C ++ C.map fun t => t ++ [[a, b]]) (some (.dat (.int a))) (some (.dat (.int b))) x4) S) := by
  have key := fComp_map (vs := [4]) (fi := iD (fVar 1)) (hg := hName 4) (ft := fYes) (fe := fOp2 gCatT (fVar 4) (fTup (fCons (fTup (fCons (fVar 2) (fCons (fVar 3) fNil))) fNil))) (ε := EW n C (some (.dat (.int a))) (some (.dat (.int b))) x4) (S := S) (S0 := S) TW.tD TW.tOf tD_tOf (l := C) (fun _ => true) (fun t => TW.tD (t ++ [[a, b]])) (it (vr (i := 1) (dv := .dat (.list (C.map TW.tD))) rfl) rfl rfl) (by omega) (by
    intro t ht
    refine ⟨[some (.dat (.int n)), some (.dat (.list (C.map TW.tD))), some (.dat (.int a)), some (.dat (.int b)), some (.dat (TW.tD t))], rfl, fun _ => rfl, fun _ acc => ⟨.dat (TW.tD (t ++ [[a, b]])), ?_, rfl⟩⟩
    have e : TW.tD (t ++ [[a, b]]) = .tuple (t.map dT ++ [dT [a, b]]) := by unfold TW.tD; rw [List.map_append]; rfl
    rw [e]
    exact op2 (vr (i := 4) (dv := .dat (TW.tD t)) rfl) (tp (ds := [dT [a, b]]) (cns (tp (ds := [.int a, .int b]) (cns (vr (i := 2) (dv := .dat (.int a)) rfl) (cns (vr (i := 3) (dv := .dat (.int b)) rfl) nl)) rfl (by simp)) nl) rfl (by simp)) (catT_e (by rw [List.length_map]; have := hl t ht; simp; omega)))
  rw [List.filter_eq_self.mpr (fun _ _ => rfl)] at key
  have c : gCat S (.dat (.list (C.map TW.tD))) (.lst (C.map fun t => TW.tD (t ++ [[a, b]]))) = some (.lst ((C ++ C.map fun t => t ++ [[a, b]]).map TW.tD)) := by
    unfold gCat
    simp only [rd_dat, rd_lst']
    rw [if_pos (small_of (by rw [List.length_map, List.length_map]; omega)), List.map_append, List.map_map]
    rfl
  exact sSet_to (dv := .lst ((C ++ C.map fun t => t ++ [[a, b]]).map TW.tD)) (op2 (vr (i := 1) (dv := .dat (.list (C.map TW.tD))) rfl) key c)
theorem sub_len {ps t : TL} (h : t ∈ chs ps) : t.length ≤ ps.length := ((chs_mem ps t).mp h).length_le
theorem rowP_get {m a j : Nat} (hj : j < m - (a + 1)) : (rowP m a)[j]? = some [(a : Int), (a : Int) + 1 + (j : Int)] := by
  unfold rowP
  rw [List.getElem?_map, List.getElem?_range hj]
  rfl
theorem take_snoc {l : TL} {j : Nat} {x : List Int} (h : l[j]? = some x) : l.take (j + 1) = l.take j ++ [x] := by
  rw [List.take_add_one, h]
  rfl
theorem pre_len {a j : Nat} (hn : n ≤ 5) (ha : a < n) : ((List.range a).flatMap (rowP n) ++ (rowP n a).take j).length ≤ 10 := by
  have : ∀ n, n ≤ 5 → ∀ a, a < n → ((List.range a).flatMap (rowP n)).length + (rowP n a).length ≤ 10 := by
    intro n hn a ha
    have : ∀ n, n < 6 → ∀ a, a < n → ((List.range a).flatMap (rowP n)).length + (rowP n a).length ≤ 10 := by decide
    exact this n (by omega) a ha
  have := this n hn a ha
  rw [List.length_append, List.length_take]
  omega
theorem all_webs_eq (h1 : 1 ≤ n) (hn : n ≤ 5) (S : Bxs) : sem_all_webs [.dat (.int n)] S = some (.lst ((allW n).map (webD n)), S) := by
  unfold sem_all_webs
  rw [semOf_eq, g_all_webs_eq]
  show finOf S ((sSeq (sExpr (fCall 2 sem_refuse_above (fCons (fVar 0) (fCons (fC (.int 5)) fNil)))) (sSeq (sSet 1 (fLst (fCons (fTup fNil) fNil))) (sSeq (sFor (iRange1 (fCons (fVar 0) fNil)) (hName 2) (sFor innI (hName 3) stepG)) (sRet outF)))) [some (.dat (.int n)), none, none, none, none] S) = _
  have s0 : sExpr (fCall 2 sem_refuse_above (fCons (fVar 0) (fCons (fC (.int 5)) fNil))) [some (.dat (.int n)), none, none, none, none] S = some (.nx [some (.dat (.int n)), none, none, none, none] S) := sExpr_eq (cl (n := 2) (cns (vr (i := 0) (dv := .dat (.int n)) rfl) (cns (fC_e (.int 5) _ _) nl)) rfl (low_ok hn S))
  have s1 : sSet 1 (fLst (fCons (fTup fNil) fNil)) [some (.dat (.int n)), none, none, none, none] S = some (.nx (EW n (chs []) none none none) S) := sSet_to (dv := .lst [.tuple []]) (ls (ds := [.tuple []]) (cns (tp (ds := []) nl rfl (by simp)) nl) rfl (by simp))
  have hr : iRange1 (fCons (fVar 0) fNil) (EW n (chs []) none none none) S = some (nums 0 (n : Int).toNat, S) := r1 (cns (vr (i := 0) (dv := .dat (.int n)) rfl) nl) (okI_of (by omega) (by omega))
  obtain ⟨ε', S', h3, x2, x3, rfl, rfl⟩ := sFor_inv (hg := hName 2) (gb := sFor innI (hName 3) stepG) (fun a ε S' => ∃ x2 x3, ε = EW n (chs ((List.range a).flatMap (rowP n))) x2 x3 none ∧ S' = S) hr ⟨none, none, rfl, rfl⟩ (by
    rintro a d ε' S' hd ⟨x2, x3, rfl, rfl⟩
    obtain ⟨rfl, ha⟩ := nums_get hd
    rw [Int.zero_add]
    have ha : a < n := by omega
    have hi : innI (EW n (chs ((List.range a).flatMap (rowP n))) (some (.dat (.int a))) x3 none) S' = some (nums ((a : Int) + 1) ((n : Int) - ((a : Int) + 1)).toNat, S') := r2 (cns (op2 (vr (i := 2) (dv := .dat (.int a)) rfl) (fC_e _ _ _) (gAdd_e _ _ _)) (cns (vr (i := 0) (dv := .dat (.int n)) rfl) nl)) (okI_of (by omega) (by omega)) (okI_of (by omega) (by omega))
    obtain ⟨ε2, S2, h4, y3, rfl, rfl⟩ := sFor_inv (hg := hName 3) (gb := stepG) (fun j ε S2 => ∃ x3, ε = EW n (chs ((List.range a).flatMap (rowP n) ++ (rowP n a).take j)) (some (.dat (.int a))) x3 none ∧ S2 = S') hi ⟨x3, by simp, rfl⟩ (by
      rintro j d ε' S2 hd ⟨x3, rfl, rfl⟩
      obtain ⟨rfl, hj⟩ := nums_get hd
      have pl := pre_len (j := j) hn ha
      have cl' := chs_len ((List.range a).flatMap (rowP n) ++ (rowP n a).take j)
      have c2 : (chs ((List.range a).flatMap (rowP n) ++ (rowP n a).take j)).length ≤ 1024 := by rw [cl']; exact Nat.pow_le_pow_right (n := 2) (by decide) pl
      refine ⟨EW n (chs ((List.range a).flatMap (rowP n) ++ (rowP n a).take j)) (some (.dat (.int a))) (some (.dat (.int ((a : Int) + 1 + j)))) none, _, _, rfl, step_ok c2 (fun t ht => by have := sub_len ht; omega) none S2, some (.dat (.int ((a : Int) + 1 + j))), ?_, rfl⟩
      rw [take_snoc (rowP_get (m := n) (a := a) (j := j) (by omega)), ← List.append_assoc, chs_snoc])
    refine ⟨EW n (chs ((List.range a).flatMap (rowP n))) (some (.dat (.int a))) x3 none, _, _, rfl, h4, some (.dat (.int a)), y3, ?_, rfl⟩
    rw [nums_len, show ((n : Int) - ((a : Int) + 1)).toNat = n - (a + 1) by omega, List.take_of_length_le (by unfold rowP; simp), List.range_succ, List.flatMap_append]
    simp)
  rw [nums_len, show (n : Int).toNat = n by omega] at h3
  have eP : (List.range n).flatMap (rowP n) = allPairs n := rfl
  rw [eP] at h3
  have cs := chs_small hn
  have k1 := srtG_e TW.ST tD_tOf (fa := fVar 1) (ε := EW n (chs (allPairs n)) x2 x3 none) (S := S') (S1 := S') (x := .dat (.list ((chs (allPairs n)).map TW.tD))) (ks := chs (allPairs n)) (vr (i := 1) rfl) rfl (by omega) (decide_eq_true (chs_head _))
  have k2 := fComp_map (vs := [4]) (hg := hName 4) (ft := fYes) (fe := fTup (fCons (fVar 0) (fCons (fVar 4) fNil))) (ε := EW n (chs (allPairs n)) x2 x3 none) (S := S') (S0 := S') TW.tD TW.tOf tD_tOf (l := allW n) (fun _ => true) (webD n) (it k1 rfl rfl) (by have := allW_len hn; omega) (by
    intro t ht
    exact ⟨[some (.dat (.int n)), some (.dat (.list ((chs (allPairs n)).map TW.tD))), x2, x3, some (.dat (TW.tD t))], rfl, fun _ => rfl, fun _ acc => ⟨.dat (webD n t), tp (ds := [.int n, TW.tD t]) (cns (vr (i := 0) (dv := .dat (.int n)) rfl) (cns (vr (i := 4) (dv := .dat (TW.tD t)) rfl) nl)) rfl (by simp), rfl⟩⟩)
  rw [List.filter_eq_self.mpr (fun _ _ => rfl)] at k2
  rw [sSeq_nx s0, sSeq_nx s1, sSeq_nx h3]
  show finOf S' (sRet outF (EW n (chs (allPairs n)) x2 x3 none) S') = _
  rw [sRet_eq (f := outF) k2]
  exact fin_lst rfl
end
/-! refused -/
theorem above_x {m : Int} {k : Int} (hf : fmtOk "more than " " places are not looked at" k = true) (h : k < m) (S : Bxs) : semx_refuse_above [.dat (.int m), .dat (.int k)] S = some (0, S) := by
  unfold semx_refuse_above
  rw [semX_eq]
  have c1 : fCmpT bGt (fVar 0) (fVar 1) [some (.dat (.int m)), some (.dat (.int k))] S = some (decide (k < m), S) := cmT (vr (i := 0) (dv := .dat (.int m)) rfl) (vr (i := 1) (dv := .dat (.int k)) rfl) (bGt_e _ _ _)
  rw [decide_eq_true h] at c1
  show Option.map _ (gx_refuse_above [some (.dat (.int m)), some (.dat (.int k))] S) = _
  unfold gx_refuse_above
  rw [xif_t c1]
  have hx : fOp1 (gFmt "more than " " places are not looked at") (fVar 1) [some (.dat (.int m)), some (.dat (.int k))] S = some (.dat (.str (fmtS "more than " " places are not looked at" k)), S) := by
    unfold fOp1 gFmt
    rw [vr (i := 1) (dv := .dat (.int k)) rfl]
    simp only [rd_dat]
    rw [if_pos hf]
  unfold xRaise
  rw [cns hx nl]
  simp
theorem all_webs_x {m : Int} (h : 5 < m) (S : Bxs) : semx_all_webs [.dat (.int m)] S = some (0, S) := by
  unfold semx_all_webs
  rw [semX_eq]
  show Option.map _ (gx_all_webs [some (.dat (.int m)), none, none, none, none] S) = _
  unfold gx_all_webs
  rw [xcl (n := 2) (xs := [.dat (.int m), .dat (.int 5)]) (cns (vr (i := 0) (dv := .dat (.int m)) rfl) (cns (fC_e (.int 5) _ _) nl)) rfl]
  show Option.map _ (semx_refuse_above [.dat (.int m), .dat (.int 5)] S) = _
  rw [above_x (by decide +kernel) h]
  simp
end AW
end DL

set_option linter.all false
set_option maxRecDepth 100000
set_option maxHeartbeats 0
namespace DL
open PySem PySem.Spec L2 PyProof.Rows XR
namespace K61
/-- the last row of the look -/
def g6_refused : FS := (sRet (fComp [4] (iRange1 (fCons (fC (.int 5)) fNil)) (hName 4) (fTru (fOp2 gIx (fVar 3) (fVar 4))) (fVar 4)))
/-- _law_same: ['_law_found', '_law_due'] kept: [] -/
def g__law_same : FS := (sRet (fOp2 (gB bEqS) (fOpN (g1 gReprL) (fCons (fVar 0) fNil)) (fOpN (g1 gReprL) (fCons (fVar 1) fNil))))
def sem__law_same : Sem0 := semOf 2 g__law_same
/-- _law_webs: ['_law_places', '_law_some', '_law_found', '_law_number', '_law_at', '_law_pair'] kept: ['_law_found'] -/
def g__law_webs : FS := (sSeq (sSet 1 (fCall 1 sem__law_pairs (fCons (fVar 0) fNil)))
  (sSeq (sSetB 2 (fLst fNil))
  (sSeq (sFor (iRange1 (fCons (fOp2 gShl (fC (.int 1)) (fOpN (g1 gLen) (fCons (fVar 1) fNil))) fNil)) (hName 3) (sExpr (fAppend (fVar 2) (fCons (fTup (fCons (fVar 0) (fCons (fOpN (g1 gTup1) (fCons (fComp [4, 5] (iEnumD (fCons (fVar 1) fNil)) (hTup 2 (hCons (hName 4) (hCons (hName 5) hNil))) (fCmpT bEq (fOp2 gMod (fOp2 gShr (fVar 3) (fVar 4)) (fC (.int 2))) (fC (.int 1))) (fVar 5)) fNil)) fNil))) fNil))))
  (sRet (fOpN (g1 (gSrtG TW.SW)) (fCons (fVar 2) fNil))))))
def sem__law_webs : Sem0 := semOf 6 g__law_webs
/-- _law_right: ['_law_places', '_law_due', '_law_turn', '_law_found'] kept: ['_law_found'] -/
def g__law_right : FS := (sSeq (sSet 1 (fCall 1 sem__law_webs (fCons (fVar 0) fNil)))
  (sSeq (sFor (iRange1 (fCons (fC (.int 2)) fNil)) (hName 2) (sSeq (sSetB 3 (fCall 1 sem_all_webs (fCons (fVar 0) fNil)))
  (sSeq (sIf (fNotT (fTru (fCall 2 sem__law_same (fCons (fVar 3) (fCons (fVar 1) fNil))))) (sRet (fC (.bool false))) sNil)
  (sExpr (fAppend (fVar 3) (fCons (fTup fNil) fNil))))))
  (sRet (fC (.bool true)))))
def sem__law_right : Sem0 := semOf 4 g__law_right
/-- law: ['_law_script', '_law_k', '_law_state_here', '_law_great'] kept: ['_law_state_here'] -/
def g_law : FS := (sSeq (sIf (fOrT (fNotT (fTru (fCall 1 sem__law_right (fCons (fC (.int 1)) fNil)))) (fNotT (fTru (fCall 1 sem__law_right (fCons (fC (.int 2)) fNil))))) (sRet (fC (.bool false))) sNil)
  (sSeq (sFor (iRange1 (fCons (fOpN (g2 gMax) (fCons (fC (.int 1)) (fCons (fOpN (g2 gMin) (fCons (fOpN (g1 gLen) (fCons (fVar 0) fNil)) (fCons (fC (.int 3)) fNil))) fNil))) fNil)) (hName 1) (sSeq (sSetB 2 (fCall 2 sem__law_state (fCons (fVar 0) (fCons (fVar 1) fNil))))
  (sSeq (sIf (fNotT (fTru (fCall 1 sem__law_right (fCons (fOp2 gIx (fLst (fCons (fC (.int 3)) (fCons (fC (.int 4)) (fCons (fC (.int 3)) (fCons (fC (.int 4)) (fCons (fC (.int 2)) (fCons (fC (.int 3)) (fCons (fC (.int 4)) (fCons (fC (.int 5)) fNil))))))))) (fCall 2 sem__law_take (fCons (fVar 2) (fCons (fC (.int 8)) fNil)))) fNil)))) (sRet (fC (.bool false))) sNil)
  (sSeq (sSet 3 (fOp2 gAdd (fC (.int 6)) (fCall 2 sem__law_take (fCons (fVar 2) (fCons (fOp2 gPow (fC (.int 10)) (fC (.int 6))) fNil)))))
  (sIf (fCmpT bNe (fRef (xCall 1 semx_all_webs (fCons (fVar 3) fNil)) (fCall 1 sem_all_webs (fCons (fVar 3) fNil))) (fLst (fCons (fC (.int 0)) fNil))) (sRet (fC (.bool false))) sNil)))))
  (sRet (fC (.bool true)))))
def sem_law : Sem0 := semOf 4 g_law
def top (i : Nat) : Stmt := PySem.Challenge.pw_nearturns_k61_all_webs.main.body.getD i (.Pass ⟨0, 0, 0, 0⟩)
structure Cs (K : PySem.W.Frag) (mg : Str → Option Value) : Prop where
  MOST_COUNTED : ∃ t, mg "MOST_COUNTED" = some (.int 5 t)
section
variable {P : Program} {w : World} {K : PySem.W.Frag} {mg : Str → Option Value} {base : Heap}
theorem sc_refuse_above : FnScope ["many", "most"] ["many", "most"] (defScope (top 9)) := ⟨rfl, rfl, rfl, by decide +kernel, rfl, by decide +kernel, by decide +kernel⟩
theorem ok_refuse_above {f : Addr} {fd : FuncData} (F : Fun K "refuse_above" "refuse_above" (top 9) f fd) (B : Bl mg) : FnOk P w K mg base CX0 1 f fd ["many", "most"] (spD K 2 sem_refuse_above) :=
  fn_data (N := ["many", "most"]) (g := g_refuse_above) F sc_refuse_above rfl fun cdv A outer s H E hr => by
  have hu := room80 hr
  exact (dss_one (ds_if (t_gt (de_var 0) (de_var 1)) (dss_one ds_never) dss_nil))
theorem okx_refuse_above {f : Addr} {fd : FuncData} {cls : Nat → Addr} {CT : Addr} (F : Fun K "refuse_above" "refuse_above" (top 9) f fd) (B : Bl mg) (KC : KitC K cls CT) (HCl : ∀ k, k < 5 → mg (clN k) = some (.ref (cls k))) : FnOk P w K mg base (XR.CXR P w) 1 f fd ["many", "most"] (spX K 2 semx_refuse_above cls) :=
  fnX_data (N := ["many", "most"]) (g := gx_refuse_above) F sc_refuse_above rfl fun cdv A outer s H E hr => by
  have hu := room80 hr
  exact (rss_head (rs_if (t_gt (de_var 0) (de_var 1)) (rss_head (rs_raise (k := 0) xc_of rfl (by rfl) (HCl 0 (by decide)) (KC.err 0 (by decide)).ex (da_cons (e_fmt (de_var 1)) da_nil))) rss_no))
theorem sc_all_webs : FnScope ["many", "choices", "low", "high", "ties"] ["many"] (defScope (top 10)) := ⟨rfl, rfl, rfl, by decide +kernel, rfl, by decide +kernel, by decide +kernel⟩
theorem ok_all_webs {f : Addr} {fd : FuncData} (F : Fun K "all_webs" "all_webs" (top 10) f fd) (B : Bl mg) (F_refuse_above : Fn P w K mg base 1 "refuse_above" ["many", "most"] 2 sem_refuse_above) (C : Cs K mg) : FnOk P w K mg base CX0 2 f fd ["many"] (spD K 1 sem_all_webs) :=
  fn_data (N := ["many", "choices", "low", "high", "ties"]) (g := g_all_webs) F sc_all_webs rfl fun cdv A outer s H E hr => by
  have hu := room80 hr
  exact (dss_cons (ds_expr (de_callF F_refuse_above hr (by decide) (by rfl) (da_cons (de_var 0) (da_cons (e_const C.MOST_COUNTED (by rfl)) da_nil))))
    (dss_cons (ds_set (i := 1) sc_all_webs.nd rfl (by first | exact Or.inl rfl | exact Or.inr rfl) (de_lst (da_cons (de_tup da_nil) da_nil)))
    (dss_cons (ds_for PassesOwn.never rfl (di_range1 (by rfl) B.range (da_cons (de_var 0) da_nil)) (dg_name (i := 2) sc_all_webs.nd rfl (by first | exact Or.inl rfl | exact Or.inr rfl)) (dss_one (ds_for PassesOwn.never rfl (di_range2 (by rfl) B.range (da_cons (e_add (de_var 2) de_int) (da_cons (de_var 0) da_nil))) (dg_name (i := 3) sc_all_webs.nd rfl (by first | exact Or.inl rfl | exact Or.inr rfl)) (dss_one (ds_set (i := 1) sc_all_webs.nd rfl (by first | exact Or.inl rfl | exact Or.inr rfl) (e_cat (de_var 1) (de_lc rfl sc_all_webs.nd (di_seq (de_var 1)) (blkOk_by (own := [("ties", 4)]) (by first | (show blkC ["many", "choices", "low", "high", "ties"] (defScope (top 10)) _ _ = true; decide +kernel) | rfl)) (fun _ _ _ _ _ => (dg_name (i := 4) sc_all_webs.nd rfl (by first | exact Or.inl rfl | exact Or.inr rfl))) (fun _ _ _ _ _ => dts_nil) (fun _ _ _ _ _ => (e_catT (de_var 4) (de_tup (da_cons (de_tup (da_cons (de_var 2) (da_cons (de_var 3) da_nil))) da_nil)))))))))))
    (dss_one (ds_ret (de_lc rfl sc_all_webs.nd (di_seq (e_srtG (T := TW.ST) hu B (by rfl) (da_cons (de_var 1) da_nil))) (blkOk_by (own := [("ties", 4)]) (by first | (show blkC ["many", "choices", "low", "high", "ties"] (defScope (top 10)) _ _ = true; decide +kernel) | rfl)) (fun _ _ _ _ _ => (dg_name (i := 4) sc_all_webs.nd rfl (by first | exact Or.inl rfl | exact Or.inr rfl))) (fun _ _ _ _ _ => dts_nil) (fun _ _ _ _ _ => (de_tup (da_cons (de_var 0) (da_cons (de_var 4) da_nil))))))))))
theorem okx_all_webs {f : Addr} {fd : FuncData} {cls : Nat → Addr} {CT : Addr} (F : Fun K "all_webs" "all_webs" (top 10) f fd) (B : Bl mg) (F_refuse_above : Fn P w K mg base 1 "refuse_above" ["many", "most"] 2 sem_refuse_above) (C : Cs K mg) (X_refuse_above : FnX P w K mg base cls 1 "refuse_above" ["many", "most"] 2 semx_refuse_above) (KC : KitC K cls CT) (HCl : ∀ k, k < 5 → mg (clN k) = some (.ref (cls k))) : FnOk P w K mg base (XR.CXR P w) 2 f fd ["many"] (spX K 1 semx_all_webs cls) :=
  fnX_data (N := ["many", "choices", "low", "high", "ties"]) (g := gx_all_webs) F sc_all_webs rfl fun cdv A outer s H E hr => by
  have hu := room80 hr
  exact (rss_head (rs_expr (re_call xc_of X_refuse_above hr (by decide) (by rfl) (da_cons (de_var 0) (da_cons (e_const C.MOST_COUNTED (by rfl)) da_nil)))))
theorem sc__law_cell_at : FnScope ["_law_script", "_law_k"] ["_law_script", "_law_k"] (defScope (top 12)) := ⟨rfl, rfl, rfl, by decide +kernel, rfl, by decide +kernel, by decide +kernel⟩
theorem ok__law_cell_at {f : Addr} {fd : FuncData} (F : Fun K "_law_cell_at" "_law_cell_at" (top 12) f fd) (B : Bl mg) : FnOk P w K mg base CX0 1 f fd ["_law_script", "_law_k"] (spD K 2 sem__law_cell_at) :=
  fn_data (N := ["_law_script", "_law_k"]) (g := g__law_cell_at) F sc__law_cell_at rfl fun cdv A outer s H E hr => by
  have hu := room80 hr
  exact (dss_cons (ds_if (t_lt (de_var 1) (e_len B (by rfl) (da_cons (de_var 0) da_nil))) (dss_one (ds_ret (e_ix (de_var 0) (de_var 1)))) dss_nil)
    (dss_one (ds_ret de_int)))
theorem sc__law_state : FnScope ["_law_script", "_law_k", "_law_cell"] ["_law_script", "_law_k"] (defScope (top 13)) := ⟨rfl, rfl, rfl, by decide +kernel, rfl, by decide +kernel, by decide +kernel⟩
theorem ok__law_state {f : Addr} {fd : FuncData} (F : Fun K "_law_state" "_law_state" (top 13) f fd) (B : Bl mg) (F__law_cell_at : Fn P w K mg base 1 "_law_cell_at" ["_law_script", "_law_k"] 2 sem__law_cell_at) : FnOk P w K mg base CX0 2 f fd ["_law_script", "_law_k"] (spD K 2 sem__law_state) :=
  fn_data (N := ["_law_script", "_law_k", "_law_cell"]) (g := g__law_state) F sc__law_state rfl fun cdv A outer s H E hr => by
  have hu := room80 hr
  exact (dss_cons (ds_set (i := 2) sc__law_state.nd rfl (by first | exact Or.inl rfl | exact Or.inr rfl) (de_callF F__law_cell_at hr (by decide) (by rfl) (da_cons (de_var 0) (da_cons (de_var 1) da_nil))))
    (dss_cons (ds_if (t_ge (de_var 2) (e_pow de_int de_int)) (dss_one (ds_ret (de_lst (da_cons (e_sub (de_var 2) (e_pow de_int de_int)) (da_cons de_bl da_nil))))) dss_nil)
    (dss_one (ds_ret (de_lst (da_cons (e_mod (de_var 2) de_int) (da_cons de_bl da_nil)))))))
theorem sc__law_take : FnScope ["_law_state_here", "_law_many", "_law_found", "_law_mixed"] ["_law_state_here", "_law_many"] (defScope (top 14)) := ⟨rfl, rfl, rfl, by decide +kernel, rfl, by decide +kernel, by decide +kernel⟩
theorem ok__law_take {f : Addr} {fd : FuncData} (F : Fun K "_law_take" "_law_take" (top 14) f fd) (B : Bl mg) : FnOk P w K mg base CX0 1 f fd ["_law_state_here", "_law_many"] (spD K 2 sem__law_take) :=
  fn_data (N := ["_law_state_here", "_law_many", "_law_found", "_law_mixed"]) (g := g__law_take) F sc__law_take rfl fun cdv A outer s H E hr => by
  have hu := room80 hr
  exact (dss_cons (ds_if (dt_truth (e_ix (de_var 0) de_int)) (dss_cons (ds_set (i := 2) sc__law_take.nd rfl (by first | exact Or.inl rfl | exact Or.inr rfl) (e_mod (e_ix (de_var 0) de_int) (de_var 1)))
    (dss_cons (ds_put (de_var 0) de_int (e_div (e_ix (de_var 0) de_int) (de_var 1)))
    (dss_one (ds_ret (de_var 2))))) dss_nil)
    (dss_cons (ds_put (de_var 0) de_int (e_mod (e_add (e_mul (e_ix (de_var 0) de_int) de_int) de_int) de_int))
    (dss_cons (ds_set (i := 3) sc__law_take.nd rfl (by first | exact Or.inl rfl | exact Or.inr rfl) (e_mod (e_add (e_add (e_mul (e_ix (de_var 0) de_int) (e_ix (de_var 0) de_int)) (e_mul de_int (e_ix (de_var 0) de_int))) de_int) de_int))
    (dss_cons (ds_set (i := 3) sc__law_take.nd rfl (by first | exact Or.inl rfl | exact Or.inr rfl) (e_mod (e_add (e_mul (de_var 3) (de_var 3)) (e_mul de_int (de_var 3))) de_int))
    (dss_one (ds_ret (e_mod (e_div (de_var 3) de_int) (de_var 1))))))))
theorem sc__law_pairs : FnScope ["_law_places", "_law_found", "_law_a", "_law_b"] ["_law_places"] (defScope (top 15)) := ⟨rfl, rfl, rfl, by decide +kernel, rfl, by decide +kernel, by decide +kernel⟩
theorem ok__law_pairs {f : Addr} {fd : FuncData} (F : Fun K "_law_pairs" "_law_pairs" (top 15) f fd) (B : Bl mg) : FnOk P w K mg base CX0 1 f fd ["_law_places"] (spD K 1 sem__law_pairs) :=
  fn_data (N := ["_law_places", "_law_found", "_law_a", "_law_b"]) (g := g__law_pairs) F sc__law_pairs rfl fun cdv A outer s H E hr => by
  have hu := room80 hr
  exact (dss_cons (ds_setB (i := 1) sc__law_pairs.nd rfl (by first | exact Or.inl rfl | exact Or.inr rfl) (de_lst da_nil))
    (dss_cons (ds_for PassesOwn.never rfl (di_range1 (by rfl) B.range (da_cons (de_var 0) da_nil)) (dg_name (i := 2) sc__law_pairs.nd rfl (by first | exact Or.inl rfl | exact Or.inr rfl)) (dss_one (ds_expr (de_extend (de_var 1) (da_cons (de_lc rfl sc__law_pairs.nd (di_range2 (by rfl) B.range (da_cons (e_add (de_var 2) de_int) (da_cons (de_var 0) da_nil))) (blkOk_by (own := [("_law_b", 3)]) (by first | (show blkC ["_law_places", "_law_found", "_law_a", "_law_b"] (defScope (top 15)) _ _ = true; decide +kernel) | rfl)) (fun _ _ _ _ _ => (dg_name (i := 3) sc__law_pairs.nd rfl (by first | exact Or.inl rfl | exact Or.inr rfl))) (fun _ _ _ _ _ => dts_nil) (fun _ _ _ _ _ => (de_tup (da_cons (de_var 2) (da_cons (de_var 3) da_nil))))) da_nil)))))
    (dss_one (ds_ret (de_var 1)))))
theorem sc__law_refused : FnScope N2 ["_law_call"] (defScope (top 16)) := ⟨rfl, rfl, rfl, by decide +kernel, rfl, by decide +kernel, by decide +kernel⟩
theorem rf6_ok : ∀ k, k < 5 → ∀ S, g6_refused (E6 k) S = some (.rt (.lst [.int k]) S) := rf6
theorem ok__law_refused {r : Addr} {fd : FuncData} {cls : Nat → Addr} {CT : Addr} (F : Fun K "_law_refused" "_law_refused" (top 16) r fd) (hm : mg "_law_refused" = some (.ref r)) (hb : Binds K fd ["_law_call"] []) (B : Bl mg) (KC : KitC K cls CT) (HCl : ∀ k, k < 5 → mg (clN k) = some (.ref (cls k))) (HCT : mg "TurnError" = some (.ref CT)) (HVE : mg "ValueError" = none) : Rfd P w K mg base cls CT :=
  ⟨⟨r, fd, top 16, g6_refused, F, sc__law_refused, hm, F.kp, hb, rf6_ok, fun cdv A outer s H E hr => by
  exact (pss_cons (ps_set (i := 1) sc__law_refused.nd rfl (by first | exact Or.inl rfl | exact Or.inr rfl) pe_non)
    (pss_cons (ps_try rfl rfl rfl rfl sc__law_refused.nd rfl (Or.inl rfl) rfl rfl rfl rfl (by decide) (by rfl) HCT KC.ct KC.cb (by decide) (by decide) (by decide) (by decide) (by decide))
    (pss_cons (ps_set (i := 3) sc__law_refused.nd rfl (by first | exact Or.inl rfl | exact Or.inr rfl) (pe_lst (pa_cons (pe_callB call_isi (by rfl) B.isinstance rfl (pa_cons (L2.pv 1) (pa_cons (pe_glob (by rfl) (HCl 0 (by decide)) rfl) pa_nil))) (pa_cons (pe_callB call_isi (by rfl) B.isinstance rfl (pa_cons (L2.pv 1) (pa_cons (pe_glob (by rfl) (HCl 1 (by decide)) rfl) pa_nil))) (pa_cons (pe_callB call_isi (by rfl) B.isinstance rfl (pa_cons (L2.pv 1) (pa_cons (pe_glob (by rfl) (HCl 2 (by decide)) rfl) pa_nil))) pa_nil)))))
    (pss_cons (ps_set (i := 3) sc__law_refused.nd rfl (by first | exact Or.inl rfl | exact Or.inr rfl) (pe_op op_catL (L2.pv 3) (pe_lst (pa_cons (pe_callB call_isi (by rfl) B.isinstance rfl (pa_cons (L2.pv 1) (pa_cons (pe_glob (by rfl) (HCl 3 (by decide)) rfl) pa_nil))) (pa_cons (pe_callB call_isi (by rfl) B.isinstance rfl (pa_cons (L2.pv 1) (pa_cons (pe_glob (by rfl) (HCl 4 (by decide)) rfl) pa_nil))) pa_nil)))))
    (pss_cons (ps_if (pt_not (pt_val (pe_callB call_isiT (by rfl) B.isinstance rfl (pa_cons (L2.pv 1) (pa_cons (pe_bltn (v := .ty "ValueError") (by rfl) HVE rfl rfl) pa_nil))))) (pss_one (ps_ret pe_non)) pss_nil)
    (pss_one (ds_ret (de_lc rfl sc__law_refused.nd (di_range1 (by rfl) B.range (da_cons de_int da_nil)) (blkOk_by (own := [("_law_k", 4)]) (by first | (show blkC ["_law_call", "_law_error", "e", "_law_sorts", "_law_k"] (defScope (top 16)) _ _ = true; decide +kernel) | rfl)) (fun _ _ _ _ _ => (dg_name (i := 4) sc__law_refused.nd rfl (by first | exact Or.inl rfl | exact Or.inr rfl))) (fun _ _ _ _ _ => (dts_one (dt_truth (e_ix (de_var 3) (de_var 4))))) (fun _ _ _ _ _ => (de_var 4)))).ps))))))⟩, KC⟩
theorem sc__law_same : FnScope ["_law_found", "_law_due"] ["_law_found", "_law_due"] (defScope (top 17)) := ⟨rfl, rfl, rfl, by decide +kernel, rfl, by decide +kernel, by decide +kernel⟩
theorem ok__law_same {f : Addr} {fd : FuncData} (F : Fun K "_law_same" "_law_same" (top 17) f fd) (B : Bl mg) (B_repr : mg "repr" = none) : FnOk P w K mg base CX0 1 f fd ["_law_found", "_law_due"] (spD K 2 sem__law_same) :=
  fn_data (N := ["_law_found", "_law_due"]) (g := g__law_same) F sc__law_same rfl fun cdv A outer s H E hr => by
  have hu := room80 hr
  exact (dss_one (ds_ret (e_eqS (e_reprL hr B_repr (by rfl) (da_cons (de_var 0) da_nil)) (e_reprL hr B_repr (by rfl) (da_cons (de_var 1) da_nil)))))
theorem sc__law_webs : FnScope ["_law_places", "_law_some", "_law_found", "_law_number", "_law_at", "_law_pair"] ["_law_places"] (defScope (top 18)) := ⟨rfl, rfl, rfl, by decide +kernel, rfl, by decide +kernel, by decide +kernel⟩
theorem ok__law_webs {f : Addr} {fd : FuncData} (F : Fun K "_law_webs" "_law_webs" (top 18) f fd) (B : Bl mg) (F__law_pairs : Fn P w K mg base 1 "_law_pairs" ["_law_places"] 1 sem__law_pairs) (B_enumerate : mg "enumerate" = none) : FnOk P w K mg base CX0 2 f fd ["_law_places"] (spD K 1 sem__law_webs) :=
  fn_data (N := ["_law_places", "_law_some", "_law_found", "_law_number", "_law_at", "_law_pair"]) (g := g__law_webs) F sc__law_webs rfl fun cdv A outer s H E hr => by
  have hu := room80 hr
  exact (dss_cons (ds_set (i := 1) sc__law_webs.nd rfl (by first | exact Or.inl rfl | exact Or.inr rfl) (de_callF F__law_pairs hr (by decide) (by rfl) (da_cons (de_var 0) da_nil)))
    (dss_cons (ds_setB (i := 2) sc__law_webs.nd rfl (by first | exact Or.inl rfl | exact Or.inr rfl) (de_lst da_nil))
    (dss_cons (ds_for PassesOwn.never rfl (di_range1 (by rfl) B.range (da_cons (e_shl de_int (e_len B (by rfl) (da_cons (de_var 1) da_nil))) da_nil)) (dg_name (i := 3) sc__law_webs.nd rfl (by first | exact Or.inl rfl | exact Or.inr rfl)) (dss_one (ds_expr (de_append (de_var 2) (da_cons (de_tup (da_cons (de_var 0) (da_cons (e_tuple B (by rfl) (da_cons (de_lcZ rfl sc__law_webs.nd (di_enum (by rfl) B_enumerate (da_cons (de_var 1) da_nil)) (blkOk_by (own := [("_law_at", 4), ("_law_pair", 5)]) (by first | (show blkC ["_law_places", "_law_some", "_law_found", "_law_number", "_law_at", "_law_pair"] (defScope (top 18)) _ _ = true; decide +kernel) | rfl)) (fun _ _ _ _ _ => (dg_tup rfl (dgs_cons (dg_name (i := 4) sc__law_webs.nd rfl (by first | exact Or.inl rfl | exact Or.inr rfl)) (dgs_cons (dg_name (i := 5) sc__law_webs.nd rfl (by first | exact Or.inl rfl | exact Or.inr rfl)) dgs_nil)))) (fun _ _ _ _ _ => (dts_one (t_eq hu (e_mod (e_shr (de_var 3) (de_var 4)) de_int) de_int))) (fun _ _ _ _ _ => (de_var 5))) da_nil)) da_nil))) da_nil)))))
    (dss_one (ds_ret (e_srtG (T := TW.SW) hu B (by rfl) (da_cons (de_var 2) da_nil)))))))
theorem sc__law_right : FnScope ["_law_places", "_law_due", "_law_turn", "_law_found"] ["_law_places"] (defScope (top 19)) := ⟨rfl, rfl, rfl, by decide +kernel, rfl, by decide +kernel, by decide +kernel⟩
theorem ok__law_right {f : Addr} {fd : FuncData} (F : Fun K "_law_right" "_law_right" (top 19) f fd) (B : Bl mg) (F_all_webs : Fn P w K mg base 2 "all_webs" ["many"] 1 sem_all_webs) (F__law_same : Fn P w K mg base 1 "_law_same" ["_law_found", "_law_due"] 2 sem__law_same) (F__law_webs : Fn P w K mg base 2 "_law_webs" ["_law_places"] 1 sem__law_webs) : FnOk P w K mg base CX0 3 f fd ["_law_places"] (spD K 1 sem__law_right) :=
  fn_data (N := ["_law_places", "_law_due", "_law_turn", "_law_found"]) (g := g__law_right) F sc__law_right rfl fun cdv A outer s H E hr => by
  have hu := room80 hr
  exact (dss_cons (ds_set (i := 1) sc__law_right.nd rfl (by first | exact Or.inl rfl | exact Or.inr rfl) (de_callF F__law_webs hr (by decide) (by rfl) (da_cons (de_var 0) da_nil)))
    (dss_cons (ds_for PassesOwn.never rfl (di_range1 (by rfl) B.range (da_cons de_int da_nil)) (dg_name (i := 2) sc__law_right.nd rfl (by first | exact Or.inl rfl | exact Or.inr rfl)) (dss_cons (ds_setB (i := 3) sc__law_right.nd rfl (by first | exact Or.inl rfl | exact Or.inr rfl) (de_callF F_all_webs hr (by decide) (by rfl) (da_cons (de_var 0) da_nil)))
    (dss_cons (ds_if (dt_not (dt_truth (de_callF F__law_same hr (by decide) (by rfl) (da_cons (de_var 3) (da_cons (de_var 1) da_nil))))) (dss_one (ds_ret de_bl)) dss_nil)
    (dss_one (ds_expr (de_append (de_var 3) (da_cons (de_tup da_nil) da_nil)))))))
    (dss_one (ds_ret de_bl))))
theorem sc_law : FnScope ["_law_script", "_law_k", "_law_state_here", "_law_great"] ["_law_script"] (defScope (top 20)) := ⟨rfl, rfl, rfl, by decide +kernel, rfl, by decide +kernel, by decide +kernel⟩
theorem ok_law {f : Addr} {oc kV doc pm ct : Value} {od an : Option Addr} {osl : Array (Option Value)} {cls : Nat → Addr} {CT c PT : Addr} (X_all_webs : FnX P w K mg base cls 2 "all_webs" ["many"] 1 semx_all_webs) (RF : Rfd P w K mg base cls CT) (HC : PySem.W.CodeHd base c PT) (HB : ∃ bm o, mg "__builtins__" = some (.ref bm) ∧ bm ≠ builtinsNs ∧ base.get? bm = some o ∧ o.cls = .type "module" ∧ o.dict = some builtinsNs ∧ o.data = .plain) (HT : TabAt K PT (qLam "law")) (HQ : ∀ q, TabAt K PT q → q = qLam "law") (lk : K.lookup f = some ⟨oc, od, .func (PySem.W.fnOf "law" "law" (defArgs (top 20)) (defBody (top 20)) (defScope (top 20)) .none kV doc pm an (.ref c) ct), osl⟩) (hcd : PySem.W.codeIn K (.ref c) "law" = true) (B : Bl mg) (F_all_webs : Fn P w K mg base 2 "all_webs" ["many"] 1 sem_all_webs) (F__law_state : Fn P w K mg base 2 "_law_state" ["_law_script", "_law_k"] 2 sem__law_state) (F__law_take : Fn P w K mg base 1 "_law_take" ["_law_state_here", "_law_many"] 2 sem__law_take) (F__law_right : Fn P w K mg base 3 "_law_right" ["_law_places"] 1 sem__law_right) : FnOk P w K mg base CX0 7 f (PySem.W.fnOf "law" "law" (defArgs (top 20)) (defBody (top 20)) (defScope (top 20)) .none kV doc pm an (.ref c) ct) ["_law_script"] (spD K 1 sem_law) :=
  fn_dataL (N := ["_law_script", "_law_k", "_law_state_here", "_law_great"]) (g := g_law) lk hcd sc_law rfl fun A outer s H E hr => by
  have hu := room80 hr
  exact (dss_cons (ds_if (DW.dt (dw_or (dt_not (dt_truth (de_callF F__law_right hr (by decide) (by rfl) (da_cons de_int da_nil)))) (dw_or1 (dt_not (dt_truth (de_callF F__law_right hr (by decide) (by rfl) (da_cons de_int da_nil))))))) (dss_one (ds_ret de_bl)) dss_nil)
    (dss_cons (ds_for PassesOwn.never rfl (di_range1 (by rfl) B.range (da_cons (e_max B rfl (by rfl) (da_cons de_int (da_cons (e_min B rfl (by rfl) (da_cons (e_len B (by rfl) (da_cons (de_var 0) da_nil)) (da_cons de_int da_nil))) da_nil))) da_nil)) (dg_name (i := 1) sc_law.nd rfl (by first | exact Or.inl rfl | exact Or.inr rfl)) (dss_cons (ds_setB (i := 2) sc_law.nd rfl (by first | exact Or.inl rfl | exact Or.inr rfl) (de_callF F__law_state hr (by decide) (by rfl) (da_cons (de_var 0) (da_cons (de_var 1) da_nil))))
    (dss_cons (ds_if (dt_not (dt_truth (de_callF F__law_right hr (by decide) (by rfl) (da_cons (e_ix (de_lst (da_cons de_int (da_cons de_int (da_cons de_int (da_cons de_int (da_cons de_int (da_cons de_int (da_cons de_int (da_cons de_int da_nil))))))))) (de_callF F__law_take hr (by decide) (by rfl) (da_cons (de_var 2) (da_cons de_int da_nil)))) da_nil)))) (dss_one (ds_ret de_bl)) dss_nil)
    (dss_cons (ds_set (i := 3) sc_law.nd rfl (by first | exact Or.inl rfl | exact Or.inr rfl) (e_add de_int (de_callF F__law_take hr (by decide) (by rfl) (da_cons (de_var 2) (da_cons (e_pow de_int de_int) da_nil)))))
    (dss_one (ds_if (t_ne hu (de_refused (k := 2) RF rfl (fun _ => rfl) (hr.mono (by decide)) (by rfl) ⟨rfl, HC, rfl, HB⟩ HT HQ (lamS_by (by show lamC (defScope (top 20)) _ = true; decide +kernel)) (fun _ _ _ _ => rfl) (fun _ _ _ _ _ _ _ _ hr2 => by exact (re_call xc_lam X_all_webs hr2 (by decide) (by rfl) (da_cons (de_var 3) da_nil))) (fun _ _ _ _ _ _ _ _ hr2 => by exact (de_callF F_all_webs hr2 (by decide) (by rfl) (da_cons (de_var 3) da_nil)))) (de_lst (da_cons de_int da_nil))) (dss_one (ds_ret de_bl)) dss_nil))))))
    (dss_one (ds_ret de_bl))))
end
end K61
end DL

set_option linter.all false
set_option maxRecDepth 100000
namespace DL
open PySem PySem.Spec L2
namespace K61
open AW
/-! the law's webs, by numbers -/
def enP : Nat → TL → List (Nat × List Int)
  | _, [] => []
  | k, x :: xs => (k, x) :: enP (k + 1) xs
def enD (q : Nat × List Int) : D := .tuple [.int q.1, dT q.2]
def enOf : D → Option (Nat × List Int)
  | .tuple [.int k, d] => (tupD d).map fun x => (k.toNat, x)
  | _ => none
theorem enOf_enD (q : Nat × List Int) : enOf (enD q) = some q := by
  unfold enOf enD
  simp only [tupD_dT, Option.map_some, Int.toNat_natCast]
theorem en_map : ∀ (ps : TL) (k : Nat), enumD k (ps.map dT) = (enP k ps).map enD
  | [], _ => rfl
  | x :: xs, k => by rw [List.map_cons, enumD, enP, List.map_cons, en_map xs (k + 1)]; rfl
theorem enP_len : ∀ (ps : TL) (k : Nat), (enP k ps).length = ps.length
  | [], _ => rfl
  | x :: xs, k => by rw [enP, List.length_cons, List.length_cons, enP_len xs]
theorem enP_snoc : ∀ (ps : TL) (k : Nat) (p : List Int), enP k (ps ++ [p]) = enP k ps ++ [(k + ps.length, p)]
  | [], k, p => rfl
  | x :: xs, k, p => by
    rw [List.cons_append, enP, enP, enP_snoc xs (k + 1) p, List.cons_append, List.length_cons]
    rw [show k + 1 + xs.length = k + (xs.length + 1) by omega]
theorem enP_lt : ∀ (ps : TL) (k : Nat) (q : Nat × List Int), q ∈ enP k ps → k ≤ q.1 ∧ q.1 < k + ps.length
  | [], _, _, h => by cases h
  | x :: xs, k, q, h => by
    rw [enP] at h
    rw [List.length_cons]
    rcases List.mem_cons.mp h with rfl | h
    · exact ⟨Nat.le_refl _, by show k < _; omega⟩
    · have := enP_lt xs (k + 1) q h
      omega
def bitsP (ps : TL) (n : Nat) : TL := ((enP 0 ps).filter fun q => n.testBit q.1).map (·.2)
theorem bits_snoc (ps : TL) (p : List Int) (n : Nat) : bitsP (ps ++ [p]) n = bitsP ps n ++ if n.testBit ps.length = true then [p] else [] := by
  unfold bitsP
  rw [enP_snoc, List.filter_append, List.map_append, Nat.zero_add]
  congr 1
  by_cases h : n.testBit ps.length = true <;> simp [h]
theorem chs_bits (ps : TL) : chs ps = (List.range (2 ^ ps.length)).map (bitsP ps) := by
  refine snoc_ind (P := fun ps => chs ps = (List.range (2 ^ ps.length)).map (bitsP ps)) rfl (fun ps p ih => ?_) ps
  rw [chs_snoc, List.length_append, List.length_singleton, Nat.pow_succ, Nat.mul_two, List.range_add, List.map_append, List.map_map, ih, List.map_map]
  congr 1
  · refine List.map_congr_left fun n hn => ?_
    rw [bits_snoc, Nat.testBit_lt_two_pow (List.mem_range.mp hn)]
    simp
  · refine List.map_congr_left fun n hn => ?_
    simp only [Function.comp]
    rw [bits_snoc, Nat.testBit_two_pow_add_eq, Nat.testBit_lt_two_pow (List.mem_range.mp hn)]
    have : bitsP ps (2 ^ ps.length + n) = bitsP ps n := by
      unfold bitsP
      congr 1
      refine List.filter_congr fun q hq => ?_
      have := enP_lt ps 0 q hq
      rw [Nat.testBit_two_pow_add_gt (by omega)]
    rw [this]
    rfl
theorem webs_srt (n : Nat) (L : List TL) : TW.srtG TW.SW (L.map fun t => ((n : Int), t)) = (TW.srtG TW.ST L).map fun t => ((n : Int), t) := by
  refine (TW.srtG_of ((TW.srtG_perm (K := TW.ST) L).map _) ?_).symm
  have := TW.srtG_up (K := TW.ST) L
  unfold TW.UpG at this ⊢
  rw [List.pairwise_map]
  refine this.imp fun {a b} h => ?_
  show TW.wlt ((n : Int), b) ((n : Int), a) = false
  unfold TW.wlt
  rw [if_pos rfl]
  exact h
section
variable {n : Nat}
def EL (n : Nat) (b : Nat) (x3 x4 x5 : Option DV) : DEnv := [some (.dat (.int n)), some (.dat (.list ((allPairs n).map dT))), some (.box b), x3, x4, x5]
def oneF : FE := (fTup (fCons (fVar 0) (fCons (fOpN (g1 gTup1) (fCons (fComp [4, 5] (iEnumD (fCons (fVar 1) fNil)) (hTup 2 (hCons (hName 4) (hCons (hName 5) hNil))) (fCmpT bEq (fOp2 gMod (fOp2 gShr (fVar 3) (fVar 4)) (fC (.int 2))) (fC (.int 1))) (fVar 5)) fNil)) fNil)))
def numI : FI := (iRange1 (fCons (fOp2 gShl (fC (.int 1)) (fOpN (g1 gLen) (fCons (fVar 1) fNil))) fNil))
theorem g_law_webs_eq : g__law_webs = sSeq (sSet 1 (fCall 1 sem__law_pairs (fCons (fVar 0) fNil))) (sSeq (sSetB 2 (fLst fNil)) (sSeq (sFor numI (hName 3) (sExpr (fAppend (fVar 2) (fCons oneF fNil)))) (sRet (fOpN (g1 (gSrtG TW.SW)) (fCons (fVar 2) fNil))))) := rfl
theorem one_e (hn : n ≤ 5) (k b : Nat) (S : Bxs) : oneF (EL n b (some (.dat (.int k))) none none) S = some (.dat (webD n (bitsP (allPairs n) k)), S) := by
  have key := fComp_map (vs := [4, 5]) (fi := iEnumD (fCons (fVar 1) fNil)) (hg := hTup 2 (hCons (hName 4) (hCons (hName 5) hNil))) (ft := fCmpT bEq (fOp2 gMod (fOp2 gShr (fVar 3) (fVar 4)) (fC (.int 2))) (fC (.int 1))) (fe := fVar 5) (ε := EL n b (some (.dat (.int k))) none none) (S := S) (S0 := S) enD enOf enOf_enD (l := enP 0 (allPairs n)) (fun q => k.testBit q.1) (fun q => dT q.2) (by
      unfold iEnumD
      rw [cns (vr (i := 1) (dv := .dat (.list ((allPairs n).map dT))) rfl) nl]
      simp only
      rw [en_map]) (by rw [enP_len]; have := pairs5 hn; omega) (by
    intro q hq
    refine ⟨EL n b (some (.dat (.int k))) (some (.dat (.int q.1))) (some (.dat (dT q.2))), rfl, fun acc => ?_, fun _ acc => ⟨.dat (dT q.2), vr (i := 5) rfl, rfl⟩⟩
    have sh : gShr (S ++ [acc]) (.dat (.int k)) (.dat (.int q.1)) = some (.dat (.int ((k : Int) / 2 ^ q.1))) := by
      unfold gShr gI
      simp only [rd_dat]
      rw [if_pos (decide_eq_true (by omega)), Int.toNat_natCast]
    have c := cmT (op2 (op2 (vr (ε := EL n b (some (.dat (.int k))) (some (.dat (.int q.1))) (some (.dat (dT q.2)))) (i := 3) (dv := .dat (.int k)) rfl) (vr (i := 4) (dv := .dat (.int q.1)) rfl) sh) (fC_e (.int 2) _ _) (gMod_e _ _ 2 (by decide))) (fC_e (.int 1) _ _) (bEq_int _ _ _)
    rw [c]
    have e : decide ((k : Int) / 2 ^ q.1 % 2 = 1) = k.testBit q.1 := by
      rw [Nat.testBit_eq_decide_div_mod_eq, decide_eq_decide]
      have : ((k / 2 ^ q.1 % 2 : Nat) : Int) = (k : Int) / 2 ^ q.1 % 2 := by simp
      omega
    rw [e])
  have e : ((enP 0 (allPairs n)).filter fun q => k.testBit q.1).map (fun q => dT q.2) = (bitsP (allPairs n) k).map dT := by unfold bitsP; rw [List.map_map]; rfl
  rw [e] at key
  exact tp (ds := [.int n, .tuple ((bitsP (allPairs n) k).map dT)]) (cns (vr (i := 0) (dv := .dat (.int n)) rfl) (cns (opN (cns key nl) rfl) nl)) rfl (by simp)
theorem law_webs_eq (hn : n ≤ 5) (S : Bxs) : sem__law_webs [.dat (.int n)] S = some (.lst ((allW n).map (webD n)), S) := by
  unfold sem__law_webs
  rw [semOf_eq, g_law_webs_eq]
  show finOf S ((sSeq (sSet 1 (fCall 1 sem__law_pairs (fCons (fVar 0) fNil))) (sSeq (sSetB 2 (fLst fNil)) (sSeq (sFor numI (hName 3) (sExpr (fAppend (fVar 2) (fCons oneF fNil)))) (sRet (fOpN (g1 (gSrtG TW.SW)) (fCons (fVar 2) fNil)))))) [some (.dat (.int n)), none, none, none, none, none] S) = _
  have p5 := pairs5 hn
  have s1 : sSet 1 (fCall 1 sem__law_pairs (fCons (fVar 0) fNil)) [some (.dat (.int n)), none, none, none, none, none] S = some (.nx [some (.dat (.int n)), some (.dat (.list ((allPairs n).map dT))), none, none, none, none] S) := sSet_to (dv := .lst ((allPairs n).map dT)) (cl (n := 1) (cns (vr (i := 0) (dv := .dat (.int n)) rfl) nl) rfl (pairs_eq n (by omega) S))
  have s2 : sSetB 2 (fLst fNil) [some (.dat (.int n)), some (.dat (.list ((allPairs n).map dT))), none, none, none, none] S = some (.nx (EL n S.length none none none) (S ++ [[]])) := sSetB_to (ds := []) (ls (ds := []) nl rfl (Nat.zero_le _))
  obtain ⟨N, hN⟩ : ∃ N : Nat, 2 ^ (allPairs n).length = N := ⟨_, rfl⟩
  have pw : N ≤ 1024 := by rw [← hN]; exact Nat.pow_le_pow_right (n := 2) (by decide) p5
  have hr : numI (EL n S.length none none none) (S ++ [[]]) = some (nums 0 N, S ++ [[]]) := by
    have ln := opN (cns (vr (ε := EL n S.length none none none) (S := S ++ [[]]) (i := 1) (dv := .dat (.list ((allPairs n).map dT))) rfl) nl) (len_e (S := S ++ [[]]) (x := .dat (.list ((allPairs n).map dT))) (ds := (allPairs n).map dT) rfl)
    rw [List.length_map] at ln
    have sh : gShl (S ++ [[]]) (.dat (.int 1)) (.dat (.int (allPairs n).length)) = some (.dat (.int (N : Int))) := by
      rw [RK.shl_e (S ++ [[]]) (j := (allPairs n).length) (by omega) (by omega), ← hN]
      simp
    have := r1 (ε := EL n S.length none none none) (S := S ++ [[]]) (fr := fCons (fOp2 gShl (fC (.int 1)) (fOpN (g1 gLen) (fCons (fVar 1) fNil))) fNil) (j := (N : Int)) (cns (op2 (fC_e (.int 1) _ _) ln sh) nl) (okI_of (by omega) (by omega))
    unfold numI
    simpa using this
  obtain ⟨ε', S', h2, x3, rfl, e2⟩ := sFor_inv (hg := hName 3) (gb := sExpr (fAppend (fVar 2) (fCons oneF fNil))) (fun j ε S' => ∃ x3, ε = EL n S.length x3 none none ∧ S' = S ++ [((List.range j).map (bitsP (allPairs n))).map (webD n)]) hr ⟨none, rfl, by simp⟩ (by
    rintro j d ε' S' hd ⟨x3, rfl, rfl⟩
    obtain ⟨rfl, hj⟩ := nums_get hd
    rw [Int.zero_add]
    have u := sExpr_eq (apd (d := webD n (bitsP (allPairs n) j)) (vr (ε := EL n S.length (some (.dat (.int j))) none none) (S := S ++ [((List.range j).map (bitsP (allPairs n))).map (webD n)]) (i := 2) (dv := .box S.length) rfl) (cns (one_e hn j S.length _) nl) rfl (get_end _ _) (small_of (by simp; omega)))
    rw [set_end] at u
    refine ⟨_, _, _, rfl, u, some (.dat (.int j)), rfl, ?_⟩
    rw [List.range_succ, List.map_append, List.map_append]; rfl)
  rw [nums_len] at e2
  subst e2
  have ek : ((List.range N).map (bitsP (allPairs n))).map (webD n) = (((chs (allPairs n)).map fun t => ((n : Int), t))).map TW.SW.D := by
    rw [chs_bits, hN, List.map_map, List.map_map, List.map_map]; rfl
  have k1 := srtG_e TW.SW wkOf_self (fa := fVar 2) (ε := EL n S.length x3 none none) (S := S ++ [((List.range N).map (bitsP (allPairs n))).map (webD n)]) (S1 := S ++ [((List.range N).map (bitsP (allPairs n))).map (webD n)]) (x := .box S.length) (ks := (chs (allPairs n)).map fun t => ((n : Int), t)) (vr (i := 2) rfl) (by rw [sq_box (get_end _ _), ek]) (by rw [List.length_map]; have := chs_small hn; omega) rfl
  rw [webs_srt] at k1
  have ee : ((TW.srtG TW.ST (chs (allPairs n))).map fun t => ((n : Int), t)).map TW.SW.D = (allW n).map (webD n) := by rw [List.map_map]; rfl
  rw [ee] at k1
  rw [sSeq_nx s1, sSeq_nx s2, sSeq_nx h2, sRet_eq k1]
  simp only [finOf, fin]
  simp
end
end K61
end DL

set_option linter.all false
set_option maxRecDepth 100000
namespace DL
open PySem PySem.Spec L2
namespace K61
open AW
theorem same_g {S : Bxs} {x y : DV} {d : D} {w k : Nat} (h : Sh d w k) (hk : k ≤ 60) (hb : d.bulk ≤ 1600000) (hx : rd S x = some d) (hy : rd S y = some d) : sem__law_same [x, y] S = some (.dat (.bool true), S) := by
  have hsz := PyData.shown_le_bulk 8 (Nat.le_refl _) d h.ls
  have hdp := h.dp
  have ln : d.shown.length ≤ sizeLine := by rw [sizeLine_eq]; omega
  have rp : ∀ z, rd S z = some d → g1 gReprL S [z] = some (.dat (.str d.shown)) := fun z hz => by
    unfold g1 gReprL
    simp only [hz]
    rw [if_pos]
    rw [h.cl, h.sh, decide_eq_true ln, decide_eq_true (by omega)]; rfl
  unfold sem__law_same
  rw [semOf_eq]
  show finOf S (g__law_same [some x, some y] S) = _
  unfold g__law_same
  exact fin_ret (cmE (opN (cns (vr rfl) nl) (rp x hx)) (opN (cns (vr rfl) nl) (rp y hy)) (bEq_str S _)) rfl
theorem bulk_ties {n : Int} : ∀ {l : TL}, (∀ x ∈ l, TieIn n x) → PyData.bulkAll (l.map dT) = 3 * l.length
  | [], _ => rfl
  | x :: l, h => by
    obtain ⟨a, b, rfl, _⟩ := h x List.mem_cons_self
    have ih := bulk_ties (l := l) fun y hy => h y (List.mem_cons_of_mem _ hy)
    rw [List.map_cons, List.length_cons]
    show (PyData.bulkAll [.int a, .int b]) + 1 + PyData.bulkAll (l.map dT) = _
    rw [ih]
    show 2 + 1 + _ = _
    omega
theorem bulk_webs {n : Int} : ∀ {L : List TL}, (∀ x ∈ L, (∀ y ∈ x, TieIn n y) ∧ x.length ≤ 10) → PyData.bulkAll (L.map (webD n)) ≤ L.length * 40
  | [], _ => Nat.le_refl _
  | x :: L, h => by
    obtain ⟨h1, h2⟩ := h x List.mem_cons_self
    have ih := bulk_webs (L := L) fun y hy => h y (List.mem_cons_of_mem _ hy)
    have e := bulk_ties h1
    rw [List.map_cons, List.length_cons]
    show (0 + 1 + (PyData.bulkAll (x.map dT) + 1 + 0)) + 1 + PyData.bulkAll (L.map (webD n)) ≤ _
    omega
section
variable {n : Nat}
theorem allW_mem {t : TL} : t ∈ allW n ↔ t.Sublist (allPairs n) := (allW_perm n).mem_iff.trans (chs_mem _ _)
theorem allW_tie {t : TL} (h : t ∈ allW n) : ∀ y ∈ t, TieIn n y := fun y hy => mem_allPairs.mp ((allW_mem.mp h).subset hy)
def turnG : FS := (sSeq (sSetB 3 (fCall 1 sem_all_webs (fCons (fVar 0) fNil)))
  (sSeq (sIf (fNotT (fTru (fCall 2 sem__law_same (fCons (fVar 3) (fCons (fVar 1) fNil))))) (sRet (fC (.bool false))) sNil)
  (sExpr (fAppend (fVar 3) (fCons (fTup fNil) fNil)))))
theorem g_right_eq : g__law_right = sSeq (sSet 1 (fCall 1 sem__law_webs (fCons (fVar 0) fNil))) (sSeq (sFor (iRange1 (fCons (fC (.int 2)) fNil)) (hName 2) turnG) (sRet (fC (.bool true)))) := rfl
theorem sh_web (t : TL) (h : ∀ y ∈ t, TieIn n y) (hn : n ≤ 5) : Sh (webD n t) (4 + 1 + (t.length * 11 + 1 + 0)) 3 := Sh.tup (ShA.cons ((Sh.int (by omega) (by omega)).more (Nat.le_refl _) (by omega)) (ShA.cons (Sh.tup (ShA.map fun x hx => Sh.tie (h x hx) (by omega))) ⟨rfl, rfl, rfl, Nat.le_refl _, Nat.zero_le _⟩))
theorem right_ok (h1 : 1 ≤ n) (hn : n ≤ 5) (S : Bxs) : sem__law_right [.dat (.int n)] S = some (.dat (.bool true), S) := by
  unfold sem__law_right
  rw [semOf_eq, g_right_eq]
  show finOf S ((sSeq (sSet 1 (fCall 1 sem__law_webs (fCons (fVar 0) fNil))) (sSeq (sFor (iRange1 (fCons (fC (.int 2)) fNil)) (hName 2) turnG) (sRet (fC (.bool true))))) [some (.dat (.int n)), none, none, none] S) = _
  have al := allW_len hn
  have p5 := pairs5 hn
  have t10 : ∀ u ∈ allW n, u.length ≤ 10 := fun u hu => by have := (allW_mem.mp hu).length_le; omega
  have sh : Sh (.list ((allW n).map (webD n))) ((allW n).length * (4 + 1 + (10 * 11 + 1 + 0) + 1)) 4 := Sh.lst (ShA.map fun u hu => (sh_web u (allW_tie hu) hn).more (by have := t10 u hu; omega) (Nat.le_refl _))
  have bk : (PyData.list ((allW n).map (webD n))).bulk ≤ 1600000 := by
    have := bulk_webs (n := n) (L := allW n) fun u hu => ⟨allW_tie hu, t10 u hu⟩
    show PyData.bulkAll _ ≤ _
    omega
  have s1 : sSet 1 (fCall 1 sem__law_webs (fCons (fVar 0) fNil)) [some (.dat (.int n)), none, none, none] S = some (.nx [some (.dat (.int n)), some (.dat (.list ((allW n).map (webD n)))), none, none] S) := sSet_to (dv := .lst ((allW n).map (webD n))) (cl (n := 1) (cns (vr (i := 0) (dv := .dat (.int n)) rfl) nl) rfl (law_webs_eq hn S))
  have hr : iRange1 (fCons (fC (.int 2)) fNil) [some (.dat (.int n)), some (.dat (.list ((allW n).map (webD n)))), none, none] S = some (nums 0 (2 : Int).toNat, S) := r1 (cns (fC_e _ _ _) nl) (okI_of (by decide) (by decide))
  obtain ⟨ε', S', h3, y2, y3, rfl, more, rfl⟩ := sFor_inv (hg := hName 2) (gb := turnG) (fun _ ε S' => ∃ y2 y3, ε = [some (.dat (.int n)), some (.dat (.list ((allW n).map (webD n)))), y2, y3] ∧ ∃ more, S' = S ++ more) hr ⟨none, none, rfl, [], by simp⟩ (by
    rintro k d ε' S' hd ⟨y2, y3, rfl, more, rfl⟩
    have u1 : sSetB 3 (fCall 1 sem_all_webs (fCons (fVar 0) fNil)) [some (.dat (.int n)), some (.dat (.list ((allW n).map (webD n)))), some (.dat d), y3] (S ++ more) = some (.nx [some (.dat (.int n)), some (.dat (.list ((allW n).map (webD n)))), some (.dat d), some (.box (S ++ more).length)] (S ++ more ++ [(allW n).map (webD n)])) := sSetB_to (cl (n := 1) (cns (vr (i := 0) (dv := .dat (.int n)) rfl) nl) rfl (all_webs_eq h1 hn _))
    have g := get_end (S ++ more) ((allW n).map (webD n))
    have c : fNotT (fTru (fCall 2 sem__law_same (fCons (fVar 3) (fCons (fVar 1) fNil)))) [some (.dat (.int n)), some (.dat (.list ((allW n).map (webD n)))), some (.dat d), some (.box (S ++ more).length)] (S ++ more ++ [(allW n).map (webD n)]) = some (false, S ++ more ++ [(allW n).map (webD n)]) :=
      not_e (b := true) (tru_b (cl (n := 2) (cns (vr (i := 3) (dv := .box (S ++ more).length) rfl) (cns (vr (i := 1) (dv := .dat (.list ((allW n).map (webD n)))) rfl) nl)) rfl (same_g sh (by omega) bk (rd_box g) rfl)))
    have u3 := sExpr_eq (apd (d := .tuple []) (vr (ε := [some (.dat (.int n)), some (.dat (.list ((allW n).map (webD n)))), some (.dat d), some (.box (S ++ more).length)]) (S := S ++ more ++ [(allW n).map (webD n)]) (i := 3) (dv := .box (S ++ more).length) rfl) (cns (tp (ds := []) nl rfl (by simp)) nl) rfl g (small_of (by rw [List.length_map]; omega)))
    rw [set_end] at u3
    refine ⟨_, _, _, rfl, ((sSeq_nx u1).trans ((sSeq_nx ((sIf_f c).trans rfl)).trans u3)), _, _, rfl, _, List.append_assoc _ _ _⟩)
  rw [sSeq_nx s1, sSeq_nx h3, sRet_eq (fC_e _ _ _)]
  exact fin_dat' rfl
end
theorem ref_t {gx : FX} {f : FE} {ε : DEnv} {X : Bxs} (h : gx ε X = some (0, X)) : fCmpT bNe (fRef gx f) (fLst (fCons (fC (.int 0)) fNil)) ε X = some (false, X) := by
  have c1 : fRef gx f ε X = some (.lst [.int (0 : Nat)], X) := ref_x h (by decide) rfl
  exact cmT (g := bNe) (b := false) c1 (ls (ds := [.int 0]) (cns (fC_e (.int 0) _ _) nl) rfl (by simp)) ((ne_lk X 0 0).trans rfl)
section
variable {S : Bxs} {v : List D}
theorem take_at (hv : StV v) {k : Int} (h1 : 0 < k) (h2 : k < 1073741824) {ε : DEnv} (he : ε[2]? = some (some (.box S.length))) {f : FE} (hf : ∀ X, f ε X = some (.dat (.int k), X)) : ∃ r v', fCall 2 sem__law_take (fCons (fVar 2) (fCons f fNil)) ε (S ++ [v]) = some (.dat (.int r), S ++ [v']) ∧ 0 ≤ r ∧ r < k ∧ StV v' := by
  obtain ⟨r, v', t1, a1, b1, hv'⟩ := take_ok (S := S ++ [v]) (i := S.length) (many := k) (get_end _ _) hv h1 h2
  rw [set_end] at t1
  exact ⟨r, v', cl (n := 2) (cns (vr (dv := .box S.length) he) (cns (hf _) nl)) rfl t1, a1, b1, hv'⟩
end
def headT : FT := (fOrT (fNotT (fTru (fCall 1 sem__law_right (fCons (fC (.int 1)) fNil)))) (fNotT (fTru (fCall 1 sem__law_right (fCons (fC (.int 2)) fNil)))))
def pickF : FE := (fOp2 gIx (fLst (fCons (fC (.int 3)) (fCons (fC (.int 4)) (fCons (fC (.int 3)) (fCons (fC (.int 4)) (fCons (fC (.int 2)) (fCons (fC (.int 3)) (fCons (fC (.int 4)) (fCons (fC (.int 5)) fNil))))))))) (fCall 2 sem__law_take (fCons (fVar 2) (fCons (fC (.int 8)) fNil))))
def greatF : FE := (fOp2 gAdd (fC (.int 6)) (fCall 2 sem__law_take (fCons (fVar 2) (fCons (fOp2 gPow (fC (.int 10)) (fC (.int 6))) fNil))))
def refT : FT := (fCmpT bNe (fRef (xCall 1 semx_all_webs (fCons (fVar 3) fNil)) (fCall 1 sem_all_webs (fCons (fVar 3) fNil))) (fLst (fCons (fC (.int 0)) fNil)))
def rangeI : FI := (iRange1 (fCons (fOpN (g2 gMax) (fCons (fC (.int 1)) (fCons (fOpN (g2 gMin) (fCons (fOpN (g1 gLen) (fCons (fVar 0) fNil)) (fCons (fC (.int 3)) fNil))) fNil))) fNil))
def bodyG : FS := (sSeq (sSetB 2 (fCall 2 sem__law_state (fCons (fVar 0) (fCons (fVar 1) fNil))))
  (sSeq (sIf (fNotT (fTru (fCall 1 sem__law_right (fCons pickF fNil)))) (sRet (fC (.bool false))) sNil)
  (sSeq (sSet 3 greatF) (sIf refT (sRet (fC (.bool false))) sNil))))
theorem g_law_eq : g_law = sSeq (sIf headT (sRet (fC (.bool false))) sNil) (sSeq (sFor rangeI (hName 1) bodyG) (sRet (fC (.bool true)))) := rfl
theorem head_ok (ε : DEnv) (S : Bxs) : headT ε S = some (false, S) :=
  or_f (not_e (b := true) (tru_b (cl (n := 1) (cns (fC_e (.int 1) _ _) nl) rfl (right_ok (n := 1) (by omega) (by omega) S)))) (not_e (b := true) (tru_b (cl (n := 1) (cns (fC_e (.int 2) _ _) nl) rfl (right_ok (n := 2) (by omega) (by omega) S))))
theorem pow6 (ε : DEnv) (S : Bxs) : fOp2 gPow (fC (.int 10)) (fC (.int 6)) ε S = some (.dat (.int 1000000), S) := op2 (fC_e (.int 10) _ _) (fC_e (.int 6) _ _) rfl
theorem pick_ok {S : Bxs} {v : List D} (hv : StV v) {ε : DEnv} (he : ε[2]? = some (some (.box S.length))) : ∃ (n : Nat) (v' : List D), pickF ε (S ++ [v]) = some (.dat (.int n), S ++ [v']) ∧ StV v' ∧ 1 ≤ n ∧ n ≤ 5 := by
  obtain ⟨r, v', t, a, b, hv'⟩ := take_at (S := S) hv (k := 8) (by decide) (by decide) he (f := fC (.int 8)) fun X => fC_e _ _ _
  have L : fLst (fCons (fC (.int 3)) (fCons (fC (.int 4)) (fCons (fC (.int 3)) (fCons (fC (.int 4)) (fCons (fC (.int 2)) (fCons (fC (.int 3)) (fCons (fC (.int 4)) (fCons (fC (.int 5)) fNil)))))))) ε (S ++ [v]) = some (.lst [.int 3, .int 4, .int 3, .int 4, .int 2, .int 3, .int 4, .int 5], S ++ [v]) := ls (ds := [.int 3, .int 4, .int 3, .int 4, .int 2, .int 3, .int 4, .int 5]) (cns (fC_e _ _ _) (cns (fC_e _ _ _) (cns (fC_e _ _ _) (cns (fC_e _ _ _) (cns (fC_e _ _ _) (cns (fC_e _ _ _) (cns (fC_e _ _ _) (cns (fC_e _ _ _) nl)))))))) rfl (by simp)
  have go : ∀ n : Nat, 1 ≤ n → n ≤ 5 → [(.int 3 : D), .int 4, .int 3, .int 4, .int 2, .int 3, .int 4, .int 5][r.toNat]? = some (.int n) → ∃ (n : Nat) (v' : List D), pickF ε (S ++ [v]) = some (.dat (.int n), S ++ [v']) ∧ StV v' ∧ 1 ≤ n ∧ n ≤ 5 := fun n h1 h2 h3 => ⟨n, v', op2 L t (gIx_e (ds := [.int 3, .int 4, .int 3, .int 4, .int 2, .int 3, .int 4, .int 5]) (d := .int n) rfl a h3), hv', h1, h2⟩
  have : r = 0 ∨ r = 1 ∨ r = 2 ∨ r = 3 ∨ r = 4 ∨ r = 5 ∨ r = 6 ∨ r = 7 := by omega
  rcases this with rfl | rfl | rfl | rfl | rfl | rfl | rfl | rfl
  · exact go 3 (by decide) (by decide) rfl
  · exact go 4 (by decide) (by decide) rfl
  · exact go 3 (by decide) (by decide) rfl
  · exact go 4 (by decide) (by decide) rfl
  · exact go 2 (by decide) (by decide) rfl
  · exact go 3 (by decide) (by decide) rfl
  · exact go 4 (by decide) (by decide) rfl
  · exact go 5 (by decide) (by decide) rfl
theorem cell_ok (ns : List Int) {sc : D} (hs : PyData.list (ns.map .int) = sc) (j : Nat) (x2 x3 : Option DV) (S : Bxs) : ∃ (y2 y3 : Option DV) (S2 : Bxs), bodyG [some (.dat sc), some (.dat (.int j)), x2, x3] S = some (.nx [some (.dat sc), some (.dat (.int j)), y2, y3] S2) := by
  obtain ⟨v, t1, hv⟩ := state_ok ns j S
  rw [hs] at t1
  have s1 : sSetB 2 (fCall 2 sem__law_state (fCons (fVar 0) (fCons (fVar 1) fNil))) [some (.dat sc), some (.dat (.int j)), x2, x3] S = some (.nx [some (.dat sc), some (.dat (.int j)), some (.box S.length), x3] (S ++ [v])) := sSetB_to (cl (cns (vr (dv := .dat sc) rfl) (cns (vr (dv := .dat (.int j)) rfl) nl)) rfl t1)
  obtain ⟨n, v1, t2, hv1, n1, n5⟩ := pick_ok (S := S) hv (ε := [some (.dat sc), some (.dat (.int j)), some (.box S.length), x3]) rfl
  have c2 := not_e (b := true) (tru_b (cl (n := 1) (cns t2 nl) rfl (right_ok n1 n5 (S ++ [v1]))))
  obtain ⟨r, v2, t3, r0, r1', hv2⟩ := take_at (S := S) hv1 (k := 1000000) (by decide) (by decide) (ε := [some (.dat sc), some (.dat (.int j)), some (.box S.length), x3]) rfl (f := fOp2 gPow (fC (.int 10)) (fC (.int 6))) fun X => pow6 _ _
  have s3 : sSet 3 greatF [some (.dat sc), some (.dat (.int j)), some (.box S.length), x3] (S ++ [v1]) = some (.nx [some (.dat sc), some (.dat (.int j)), some (.box S.length), some (.dat (.int (6 + r)))] (S ++ [v2])) := sSet_to (dv := .dat (.int (6 + r))) (op2 (fC_e (.int 6) _ _) t3 (gAdd_e _ _ _))
  have c4 : refT [some (.dat sc), some (.dat (.int j)), some (.box S.length), some (.dat (.int (6 + r)))] (S ++ [v2]) = some (false, S ++ [v2]) := ref_t ((xcl (n := 1) (xs := [.dat (.int (6 + r))]) (cns (vr (i := 3) (dv := .dat (.int (6 + r))) rfl) nl) rfl).trans (all_webs_x (by omega) _))
  refine ⟨some (.box S.length), some (.dat (.int (6 + r))), S ++ [v2], ?_⟩
  unfold bodyG
  rw [sSeq_nx s1, sSeq_nx ((sIf_f c2).trans rfl), sSeq_nx s3, sIf_f c4]
  rfl
theorem law_sem (ns : List Int) (hl : ns.length ≤ 63) : sem_law [.dat (.list (ns.map .int))] [] = some (.dat (.bool true), []) := by
  unfold sem_law
  rw [semOf_eq]
  show finOf [] (g_law [some (.dat (.list (ns.map .int))), none, none, none] []) = _
  rw [g_law_eq]
  generalize hs : (PyData.list (ns.map .int)) = sc
  obtain ⟨c, hc0, hc1, hi⟩ : ∃ c : Int, 0 ≤ c ∧ c ≤ 3 ∧ rangeI [some (.dat sc), none, none, none] [] = some (nums 0 c.toNat, []) := by
    subst hs
    exact cells_e (k := 3) ns (by decide) (by decide) rfl
  obtain ⟨ε', S', h1, x1, x2, x3, e1⟩ := sFor_inv (hg := hName 1) (gb := bodyG)
    (fun j ε S' => ∃ x1 x2 x3, ε = [some (.dat sc), x1, x2, x3]) hi ⟨none, none, none, rfl⟩ (by
    rintro j dd ε' S' hd ⟨x1, x2, x3, rfl⟩
    obtain ⟨rfl, hj⟩ := nums_get hd
    rw [Int.zero_add]
    obtain ⟨y2, y3, S2, h⟩ := cell_ok ns hs j x2 x3 S'
    exact ⟨_, _, S2, rfl, h, _, _, _, rfl⟩)
  subst e1
  rw [sSeq_nx ((sIf_f (head_ok _ _)).trans rfl), sSeq_nx h1, sRet_eq (fC_e _ _ _)]
  exact fin_dat' (S := []) (S' := []) rfl
end K61
end DL

set_option linter.all false
set_option maxRecDepth 100000
set_option maxHeartbeats 0
namespace DL
open PySem PySem.Spec L2 PyProof.Rows XR
namespace K61
theorem all_mk {l : PySem.W.OpenLaw} {w : World} {K : PySem.W.Frag} {h : Heap} {mg : Str → Option Value} {fa : Addr} (X : K.In h) (G : h.Ns mainGlobals mg) (hfa : mg "law" = some (.ref fa)) (hTab : tabsOf K = [])
    {f0 : Addr} {od0 an0 : Option Addr} {sl0 : Array (Option Value)} {oc0 kV0 dc0 pm0 cd0 ct0 : Value}
    {f1 : Addr} {od1 an1 : Option Addr} {sl1 : Array (Option Value)} {oc1 kV1 dc1 pm1 cd1 ct1 : Value}
    {f2 : Addr} {od2 an2 : Option Addr} {sl2 : Array (Option Value)} {oc2 kV2 dc2 pm2 cd2 ct2 : Value}
    {f3 : Addr} {od3 an3 : Option Addr} {sl3 : Array (Option Value)} {oc3 kV3 dc3 pm3 cd3 ct3 : Value}
    {f4 : Addr} {od4 an4 : Option Addr} {sl4 : Array (Option Value)} {oc4 kV4 dc4 pm4 cd4 ct4 : Value}
    {f5 : Addr} {od5 an5 : Option Addr} {sl5 : Array (Option Value)} {oc5 kV5 dc5 pm5 cd5 ct5 : Value}
    {f6 : Addr} {od6 an6 : Option Addr} {sl6 : Array (Option Value)} {oc6 kV6 dc6 pm6 cd6 ct6 : Value}
    {f7 : Addr} {od7 an7 : Option Addr} {sl7 : Array (Option Value)} {oc7 kV7 dc7 pm7 cd7 ct7 : Value}
    {f8 : Addr} {od8 an8 : Option Addr} {sl8 : Array (Option Value)} {oc8 kV8 dc8 pm8 cd8 ct8 : Value}
    {f9 : Addr} {od9 an9 : Option Addr} {sl9 : Array (Option Value)} {oc9 kV9 dc9 pm9 cd9 ct9 : Value}
    {f10 : Addr} {od10 an10 : Option Addr} {sl10 : Array (Option Value)} {oc10 kV10 dc10 pm10 ct10 : Value}
    {cL PT C0 C1 C2 C3 C4 CT : Addr}
    {t_MOST_COUNTED : Tok}
    (a0 : PySem.W.nsIn K mainGlobals "refuse_above" = some (some (.ref f0))) (l0 : K.lookup f0 = some ⟨oc0, od0, .func (PySem.W.fnOf "refuse_above" "refuse_above" (defArgs (top 9)) (defBody (top 9)) (defScope (top 9)) .none kV0 dc0 pm0 an0 cd0 ct0), sl0⟩) (c0 : PySem.W.codeIn K cd0 "refuse_above" = true) (k0 : PySem.W.keepIn K (.ref f0) = true)
    (a1 : PySem.W.nsIn K mainGlobals "all_webs" = some (some (.ref f1))) (l1 : K.lookup f1 = some ⟨oc1, od1, .func (PySem.W.fnOf "all_webs" "all_webs" (defArgs (top 10)) (defBody (top 10)) (defScope (top 10)) .none kV1 dc1 pm1 an1 cd1 ct1), sl1⟩) (c1 : PySem.W.codeIn K cd1 "all_webs" = true) (k1 : PySem.W.keepIn K (.ref f1) = true)
    (a2 : PySem.W.nsIn K mainGlobals "_law_cell_at" = some (some (.ref f2))) (l2 : K.lookup f2 = some ⟨oc2, od2, .func (PySem.W.fnOf "_law_cell_at" "_law_cell_at" (defArgs (top 12)) (defBody (top 12)) (defScope (top 12)) .none kV2 dc2 pm2 an2 cd2 ct2), sl2⟩) (c2 : PySem.W.codeIn K cd2 "_law_cell_at" = true) (k2 : PySem.W.keepIn K (.ref f2) = true)
    (a3 : PySem.W.nsIn K mainGlobals "_law_state" = some (some (.ref f3))) (l3 : K.lookup f3 = some ⟨oc3, od3, .func (PySem.W.fnOf "_law_state" "_law_state" (defArgs (top 13)) (defBody (top 13)) (defScope (top 13)) .none kV3 dc3 pm3 an3 cd3 ct3), sl3⟩) (c3 : PySem.W.codeIn K cd3 "_law_state" = true) (k3 : PySem.W.keepIn K (.ref f3) = true)
    (a4 : PySem.W.nsIn K mainGlobals "_law_take" = some (some (.ref f4))) (l4 : K.lookup f4 = some ⟨oc4, od4, .func (PySem.W.fnOf "_law_take" "_law_take" (defArgs (top 14)) (defBody (top 14)) (defScope (top 14)) .none kV4 dc4 pm4 an4 cd4 ct4), sl4⟩) (c4 : PySem.W.codeIn K cd4 "_law_take" = true) (k4 : PySem.W.keepIn K (.ref f4) = true)
    (a5 : PySem.W.nsIn K mainGlobals "_law_pairs" = some (some (.ref f5))) (l5 : K.lookup f5 = some ⟨oc5, od5, .func (PySem.W.fnOf "_law_pairs" "_law_pairs" (defArgs (top 15)) (defBody (top 15)) (defScope (top 15)) .none kV5 dc5 pm5 an5 cd5 ct5), sl5⟩) (c5 : PySem.W.codeIn K cd5 "_law_pairs" = true) (k5 : PySem.W.keepIn K (.ref f5) = true)
    (a6 : PySem.W.nsIn K mainGlobals "_law_refused" = some (some (.ref f6))) (l6 : K.lookup f6 = some ⟨oc6, od6, .func (PySem.W.fnOf "_law_refused" "_law_refused" (defArgs (top 16)) (defBody (top 16)) (defScope (top 16)) .none kV6 dc6 pm6 an6 cd6 ct6), sl6⟩) (c6 : PySem.W.codeIn K cd6 "_law_refused" = true) (k6 : PySem.W.keepIn K (.ref f6) = true)
    (a7 : PySem.W.nsIn K mainGlobals "_law_same" = some (some (.ref f7))) (l7 : K.lookup f7 = some ⟨oc7, od7, .func (PySem.W.fnOf "_law_same" "_law_same" (defArgs (top 17)) (defBody (top 17)) (defScope (top 17)) .none kV7 dc7 pm7 an7 cd7 ct7), sl7⟩) (c7 : PySem.W.codeIn K cd7 "_law_same" = true) (k7 : PySem.W.keepIn K (.ref f7) = true)
    (a8 : PySem.W.nsIn K mainGlobals "_law_webs" = some (some (.ref f8))) (l8 : K.lookup f8 = some ⟨oc8, od8, .func (PySem.W.fnOf "_law_webs" "_law_webs" (defArgs (top 18)) (defBody (top 18)) (defScope (top 18)) .none kV8 dc8 pm8 an8 cd8 ct8), sl8⟩) (c8 : PySem.W.codeIn K cd8 "_law_webs" = true) (k8 : PySem.W.keepIn K (.ref f8) = true)
    (a9 : PySem.W.nsIn K mainGlobals "_law_right" = some (some (.ref f9))) (l9 : K.lookup f9 = some ⟨oc9, od9, .func (PySem.W.fnOf "_law_right" "_law_right" (defArgs (top 19)) (defBody (top 19)) (defScope (top 19)) .none kV9 dc9 pm9 an9 cd9 ct9), sl9⟩) (c9 : PySem.W.codeIn K cd9 "_law_right" = true) (k9 : PySem.W.keepIn K (.ref f9) = true)
    (a10 : PySem.W.nsIn K mainGlobals "law" = some (some (.ref f10))) (l10 : K.lookup f10 = some ⟨oc10, od10, .func (PySem.W.fnOf "law" "law" (defArgs (top 20)) (defBody (top 20)) (defScope (top 20)) .none kV10 dc10 pm10 an10 (.ref cL) ct10), sl10⟩) (c10 : PySem.W.codeIn K (.ref cL) "law" = true) (k10 : PySem.W.keepIn K (.ref f10) = true)
    (z_len : PySem.W.nsIn K mainGlobals "len" = some none)
    (z_tuple : PySem.W.nsIn K mainGlobals "tuple" = some none)
    (z_list : PySem.W.nsIn K mainGlobals "list" = some none)
    (z_range : PySem.W.nsIn K mainGlobals "range" = some none)
    (z_sorted : PySem.W.nsIn K mainGlobals "sorted" = some none)
    (z_set : PySem.W.nsIn K mainGlobals "set" = some none)
    (z_min : PySem.W.nsIn K mainGlobals "min" = some none)
    (z_max : PySem.W.nsIn K mainGlobals "max" = some none)
    (z_all : PySem.W.nsIn K mainGlobals "all" = some none)
    (z_any : PySem.W.nsIn K mainGlobals "any" = some none)
    (z_isinstance : PySem.W.nsIn K mainGlobals "isinstance" = some none)
    (z_int : PySem.W.nsIn K mainGlobals "int" = some none)
    (z_bool : PySem.W.nsIn K mainGlobals "bool" = some none)
    (z_str : PySem.W.nsIn K mainGlobals "str" = some none)
    (z_ValueError : PySem.W.nsIn K mainGlobals "ValueError" = some none)
    (z_enumerate : PySem.W.nsIn K mainGlobals "enumerate" = some none)
    (z_repr : PySem.W.nsIn K mainGlobals "repr" = some none)
    (y_MOST_COUNTED : PySem.W.nsIn K mainGlobals "MOST_COUNTED" = some (some (.int 5 t_MOST_COUNTED)))
    (n0 : PySem.W.nsIn K mainGlobals "TooMany" = some (some (.ref C0)))
    (n1 : PySem.W.nsIn K mainGlobals "NoTie" = some (some (.ref C1)))
    (n2 : PySem.W.nsIn K mainGlobals "NoPlaces" = some (some (.ref C2)))
    (n3 : PySem.W.nsIn K mainGlobals "NoName" = some (some (.ref C3)))
    (n4 : PySem.W.nsIn K mainGlobals "BadNote" = some (some (.ref C4)))
    (eT : PySem.W.nsIn K mainGlobals "TurnError" = some (some (.ref CT)))
    (w_x0 : PySem.W.excIn K C0 [.type "ValueError", .type "Exception", .type "BaseException", .type "object"] "ValueError.__new__" = true)
    (w_a0 : PySem.W.findIn K (.ref C0) "__getattribute__" = some (some (.builtin "BaseException.__getattribute__")))
    (w_n0 : PySem.W.findIn K (.ref C0) "__getattr__" = some none)
    (w_d0 : PySem.W.findIn K (.ref C0) "__class__" = some (some (.builtin "object.__class__")))
    (w_m0 : PySem.W.mroIn K C0 (.type "object") = some true)
    (w_b0 : PySem.W.mroIn K C0 (.type "BaseException") = some true)
    (w_s0 : PySem.W.mroIn K C0 (.ref CT) = some true)
    (w_v0 : PySem.W.mroIn K C0 (.type "ValueError") = some true)
    (w_t0 : PySem.W.typeIn K (.ref C0) = some (.type "type"))
    (w_q01 : PySem.W.mroIn K C0 (.ref C1) = some false) (w_e01 : C0 ≠ C1)
    (w_q02 : PySem.W.mroIn K C0 (.ref C2) = some false) (w_e02 : C0 ≠ C2)
    (w_q03 : PySem.W.mroIn K C0 (.ref C3) = some false) (w_e03 : C0 ≠ C3)
    (w_q04 : PySem.W.mroIn K C0 (.ref C4) = some false) (w_e04 : C0 ≠ C4)
    (w_x1 : PySem.W.excIn K C1 [.type "ValueError", .type "Exception", .type "BaseException", .type "object"] "ValueError.__new__" = true)
    (w_a1 : PySem.W.findIn K (.ref C1) "__getattribute__" = some (some (.builtin "BaseException.__getattribute__")))
    (w_n1 : PySem.W.findIn K (.ref C1) "__getattr__" = some none)
    (w_d1 : PySem.W.findIn K (.ref C1) "__class__" = some (some (.builtin "object.__class__")))
    (w_m1 : PySem.W.mroIn K C1 (.type "object") = some true)
    (w_b1 : PySem.W.mroIn K C1 (.type "BaseException") = some true)
    (w_s1 : PySem.W.mroIn K C1 (.ref CT) = some true)
    (w_v1 : PySem.W.mroIn K C1 (.type "ValueError") = some true)
    (w_t1 : PySem.W.typeIn K (.ref C1) = some (.type "type"))
    (w_q10 : PySem.W.mroIn K C1 (.ref C0) = some false) (w_e10 : C1 ≠ C0)
    (w_q12 : PySem.W.mroIn K C1 (.ref C2) = some false) (w_e12 : C1 ≠ C2)
    (w_q13 : PySem.W.mroIn K C1 (.ref C3) = some false) (w_e13 : C1 ≠ C3)
    (w_q14 : PySem.W.mroIn K C1 (.ref C4) = some false) (w_e14 : C1 ≠ C4)
    (w_x2 : PySem.W.excIn K C2 [.type "ValueError", .type "Exception", .type "BaseException", .type "object"] "ValueError.__new__" = true)
    (w_a2 : PySem.W.findIn K (.ref C2) "__getattribute__" = some (some (.builtin "BaseException.__getattribute__")))
    (w_n2 : PySem.W.findIn K (.ref C2) "__getattr__" = some none)
    (w_d2 : PySem.W.findIn K (.ref C2) "__class__" = some (some (.builtin "object.__class__")))
    (w_m2 : PySem.W.mroIn K C2 (.type "object") = some true)
    (w_b2 : PySem.W.mroIn K C2 (.type "BaseException") = some true)
    (w_s2 : PySem.W.mroIn K C2 (.ref CT) = some true)
    (w_v2 : PySem.W.mroIn K C2 (.type "ValueError") = some true)
    (w_t2 : PySem.W.typeIn K (.ref C2) = some (.type "type"))
    (w_q20 : PySem.W.mroIn K C2 (.ref C0) = some false) (w_e20 : C2 ≠ C0)
    (w_q21 : PySem.W.mroIn K C2 (.ref C1) = some false) (w_e21 : C2 ≠ C1)
    (w_q23 : PySem.W.mroIn K C2 (.ref C3) = some false) (w_e23 : C2 ≠ C3)
    (w_q24 : PySem.W.mroIn K C2 (.ref C4) = some false) (w_e24 : C2 ≠ C4)
    (w_x3 : PySem.W.excIn K C3 [.type "ValueError", .type "Exception", .type "BaseException", .type "object"] "ValueError.__new__" = true)
    (w_a3 : PySem.W.findIn K (.ref C3) "__getattribute__" = some (some (.builtin "BaseException.__getattribute__")))
    (w_n3 : PySem.W.findIn K (.ref C3) "__getattr__" = some none)
    (w_d3 : PySem.W.findIn K (.ref C3) "__class__" = some (some (.builtin "object.__class__")))
    (w_m3 : PySem.W.mroIn K C3 (.type "object") = some true)
    (w_b3 : PySem.W.mroIn K C3 (.type "BaseException") = some true)
    (w_s3 : PySem.W.mroIn K C3 (.ref CT) = some true)
    (w_v3 : PySem.W.mroIn K C3 (.type "ValueError") = some true)
    (w_t3 : PySem.W.typeIn K (.ref C3) = some (.type "type"))
    (w_q30 : PySem.W.mroIn K C3 (.ref C0) = some false) (w_e30 : C3 ≠ C0)
    (w_q31 : PySem.W.mroIn K C3 (.ref C1) = some false) (w_e31 : C3 ≠ C1)
    (w_q32 : PySem.W.mroIn K C3 (.ref C2) = some false) (w_e32 : C3 ≠ C2)
    (w_q34 : PySem.W.mroIn K C3 (.ref C4) = some false) (w_e34 : C3 ≠ C4)
    (w_x4 : PySem.W.excIn K C4 [.type "ValueError", .type "Exception", .type "BaseException", .type "object"] "ValueError.__new__" = true)
    (w_a4 : PySem.W.findIn K (.ref C4) "__getattribute__" = some (some (.builtin "BaseException.__getattribute__")))
    (w_n4 : PySem.W.findIn K (.ref C4) "__getattr__" = some none)
    (w_d4 : PySem.W.findIn K (.ref C4) "__class__" = some (some (.builtin "object.__class__")))
    (w_m4 : PySem.W.mroIn K C4 (.type "object") = some true)
    (w_b4 : PySem.W.mroIn K C4 (.type "BaseException") = some true)
    (w_s4 : PySem.W.mroIn K C4 (.ref CT) = some true)
    (w_v4 : PySem.W.mroIn K C4 (.type "ValueError") = some true)
    (w_t4 : PySem.W.typeIn K (.ref C4) = some (.type "type"))
    (w_q40 : PySem.W.mroIn K C4 (.ref C0) = some false) (w_e40 : C4 ≠ C0)
    (w_q41 : PySem.W.mroIn K C4 (.ref C1) = some false) (w_e41 : C4 ≠ C1)
    (w_q42 : PySem.W.mroIn K C4 (.ref C2) = some false) (w_e42 : C4 ≠ C2)
    (w_q43 : PySem.W.mroIn K C4 (.ref C3) = some false) (w_e43 : C4 ≠ C3)
    (w_sp : PySem.W.specialIn K (.builtin "object.__class__") "__get__" = some (some (.builtin "getset_descriptor.__get__")))
    (w_tk : PySem.W.takesIn K (.builtin "object.__class__") = some true)
    (w_xT : PySem.W.excIn K CT [.type "ValueError", .type "Exception", .type "BaseException", .type "object"] "ValueError.__new__" = true)
    (w_bT : PySem.W.mroIn K CT (.type "BaseException") = some true)
    (ec : codeHdIn K (.ref cL) PT = true) (e3 : (K.lookup mainGlobals).isSome = true) :
    ∃ fd : FuncData, (∃ cd, codeHdIn K cd PT = true) ∧ (∀ (s : Shared) (v : Value), BindsTo s fd ⟨[v], []⟩ [("_law_script", v)]) ∧ ∀ base : Heap, (KT K PT (qLam "law")).In base → BMk mg base → FnOk l.prog w (KT K PT (qLam "law")) mg base CX0 7 fa fd ["_law_script"] (spD (KT K PT (qLam "law")) 1 sem_law) := by
  have e := hfa.symm.trans (PySem.W.mg_of X G a10)
  cases e
  have B : Bl mg := ⟨PySem.W.mg_none_of X G z_len, PySem.W.mg_none_of X G z_tuple, PySem.W.mg_none_of X G z_list, PySem.W.mg_none_of X G z_range, PySem.W.mg_none_of X G z_sorted, PySem.W.mg_none_of X G z_set, PySem.W.mg_none_of X G z_min, PySem.W.mg_none_of X G z_max, PySem.W.mg_none_of X G z_all, PySem.W.mg_none_of X G z_any, PySem.W.mg_none_of X G z_isinstance, PySem.W.mg_none_of X G z_int, PySem.W.mg_none_of X G z_bool, PySem.W.mg_none_of X G z_str⟩
  have KC : KitC (KT K PT (qLam "law")) (clsF C0 C1 C2 C3 C4) CT := kitC_of e3 ⟨w_x0, w_a0, w_n0, w_d0, w_m0, w_b0, w_s0, w_v0, w_t0⟩ ⟨w_x1, w_a1, w_n1, w_d1, w_m1, w_b1, w_s1, w_v1, w_t1⟩ ⟨w_x2, w_a2, w_n2, w_d2, w_m2, w_b2, w_s2, w_v2, w_t2⟩ ⟨w_x3, w_a3, w_n3, w_d3, w_m3, w_b3, w_s3, w_v3, w_t3⟩ ⟨w_x4, w_a4, w_n4, w_d4, w_m4, w_b4, w_s4, w_v4, w_t4⟩ (fun k j hk hj => match k, hk, j, hj with
    | 0, _, 0, _ => fun z => absurd rfl z
    | 0, _, 1, _ => fun z => ⟨w_e01, w_q01⟩
    | 0, _, 2, _ => fun z => ⟨w_e02, w_q02⟩
    | 0, _, 3, _ => fun z => ⟨w_e03, w_q03⟩
    | 0, _, 4, _ => fun z => ⟨w_e04, w_q04⟩
    | 1, _, 0, _ => fun z => ⟨w_e10, w_q10⟩
    | 1, _, 1, _ => fun z => absurd rfl z
    | 1, _, 2, _ => fun z => ⟨w_e12, w_q12⟩
    | 1, _, 3, _ => fun z => ⟨w_e13, w_q13⟩
    | 1, _, 4, _ => fun z => ⟨w_e14, w_q14⟩
    | 2, _, 0, _ => fun z => ⟨w_e20, w_q20⟩
    | 2, _, 1, _ => fun z => ⟨w_e21, w_q21⟩
    | 2, _, 2, _ => fun z => absurd rfl z
    | 2, _, 3, _ => fun z => ⟨w_e23, w_q23⟩
    | 2, _, 4, _ => fun z => ⟨w_e24, w_q24⟩
    | 3, _, 0, _ => fun z => ⟨w_e30, w_q30⟩
    | 3, _, 1, _ => fun z => ⟨w_e31, w_q31⟩
    | 3, _, 2, _ => fun z => ⟨w_e32, w_q32⟩
    | 3, _, 3, _ => fun z => absurd rfl z
    | 3, _, 4, _ => fun z => ⟨w_e34, w_q34⟩
    | 4, _, 0, _ => fun z => ⟨w_e40, w_q40⟩
    | 4, _, 1, _ => fun z => ⟨w_e41, w_q41⟩
    | 4, _, 2, _ => fun z => ⟨w_e42, w_q42⟩
    | 4, _, 3, _ => fun z => ⟨w_e43, w_q43⟩
    | 4, _, 4, _ => fun z => absurd rfl z
    | n + 5, z, _, _ => absurd z (by omega)
    | _, _, n + 5, z => absurd z (by omega)) w_sp w_tk w_xT w_bT
  have HCl : ∀ k, k < 5 → mg (clN k) = some (.ref (clsF C0 C1 C2 C3 C4 k)) := fun k hk => match k, hk with
    | 0, _ => PySem.W.mg_of X G n0
    | 1, _ => PySem.W.mg_of X G n1
    | 2, _ => PySem.W.mg_of X G n2
    | 3, _ => PySem.W.mg_of X G n3
    | 4, _ => PySem.W.mg_of X G n4
    | n + 5, z => absurd z (by omega)
  have HT : TabAt (KT K PT (qLam "law")) PT (qLam "law") := by unfold TabAt; rw [tabs_mark hTab]; exact List.mem_singleton.mpr rfl
  have HQ : ∀ q, TabAt (KT K PT (qLam "law")) PT q → q = (qLam "law") := fun q t => by unfold TabAt at t; rw [tabs_mark hTab] at t; cases List.mem_singleton.mp t; rfl
  have C : Cs (KT K PT (qLam "law")) mg := ⟨⟨_, PySem.W.mg_of X G y_MOST_COUNTED⟩⟩
  have L0 : (KT K PT (qLam "law")).lookup f0 = some ⟨oc0, od0, .func (PySem.W.fnOf "refuse_above" "refuse_above" (defArgs (top 9)) (defBody (top 9)) (defScope (top 9)) .none kV0 dc0 pm0 an0 cd0 ct0), sl0⟩ := by rw [look_mark e3]; exact l0
  have D0 : PySem.W.codeIn (KT K PT (qLam "law")) cd0 "refuse_above" = true := by rw [codeIn_mark e3]; exact c0
  have K0 : PySem.W.keepIn (KT K PT (qLam "law")) (.ref f0) = true := by rw [keep_mark e3]; exact k0
  have F0 := fun_mk (st := top 9) L0 D0 K0
  have b0 := F0.binds (ps := ["many", "most"]) fun _ _ _ _ _ _ us hl => match us, hl with | [_, _], _ => rfl
  have L1 : (KT K PT (qLam "law")).lookup f1 = some ⟨oc1, od1, .func (PySem.W.fnOf "all_webs" "all_webs" (defArgs (top 10)) (defBody (top 10)) (defScope (top 10)) .none kV1 dc1 pm1 an1 cd1 ct1), sl1⟩ := by rw [look_mark e3]; exact l1
  have D1 : PySem.W.codeIn (KT K PT (qLam "law")) cd1 "all_webs" = true := by rw [codeIn_mark e3]; exact c1
  have K1 : PySem.W.keepIn (KT K PT (qLam "law")) (.ref f1) = true := by rw [keep_mark e3]; exact k1
  have F1 := fun_mk (st := top 10) L1 D1 K1
  have b1 := F1.binds (ps := ["many"]) fun _ _ _ _ _ _ us hl => match us, hl with | [_], _ => rfl
  have L2 : (KT K PT (qLam "law")).lookup f2 = some ⟨oc2, od2, .func (PySem.W.fnOf "_law_cell_at" "_law_cell_at" (defArgs (top 12)) (defBody (top 12)) (defScope (top 12)) .none kV2 dc2 pm2 an2 cd2 ct2), sl2⟩ := by rw [look_mark e3]; exact l2
  have D2 : PySem.W.codeIn (KT K PT (qLam "law")) cd2 "_law_cell_at" = true := by rw [codeIn_mark e3]; exact c2
  have K2 : PySem.W.keepIn (KT K PT (qLam "law")) (.ref f2) = true := by rw [keep_mark e3]; exact k2
  have F2 := fun_mk (st := top 12) L2 D2 K2
  have b2 := F2.binds (ps := ["_law_script", "_law_k"]) fun _ _ _ _ _ _ us hl => match us, hl with | [_, _], _ => rfl
  have L3 : (KT K PT (qLam "law")).lookup f3 = some ⟨oc3, od3, .func (PySem.W.fnOf "_law_state" "_law_state" (defArgs (top 13)) (defBody (top 13)) (defScope (top 13)) .none kV3 dc3 pm3 an3 cd3 ct3), sl3⟩ := by rw [look_mark e3]; exact l3
  have D3 : PySem.W.codeIn (KT K PT (qLam "law")) cd3 "_law_state" = true := by rw [codeIn_mark e3]; exact c3
  have K3 : PySem.W.keepIn (KT K PT (qLam "law")) (.ref f3) = true := by rw [keep_mark e3]; exact k3
  have F3 := fun_mk (st := top 13) L3 D3 K3
  have b3 := F3.binds (ps := ["_law_script", "_law_k"]) fun _ _ _ _ _ _ us hl => match us, hl with | [_, _], _ => rfl
  have L4 : (KT K PT (qLam "law")).lookup f4 = some ⟨oc4, od4, .func (PySem.W.fnOf "_law_take" "_law_take" (defArgs (top 14)) (defBody (top 14)) (defScope (top 14)) .none kV4 dc4 pm4 an4 cd4 ct4), sl4⟩ := by rw [look_mark e3]; exact l4
  have D4 : PySem.W.codeIn (KT K PT (qLam "law")) cd4 "_law_take" = true := by rw [codeIn_mark e3]; exact c4
  have K4 : PySem.W.keepIn (KT K PT (qLam "law")) (.ref f4) = true := by rw [keep_mark e3]; exact k4
  have F4 := fun_mk (st := top 14) L4 D4 K4
  have b4 := F4.binds (ps := ["_law_state_here", "_law_many"]) fun _ _ _ _ _ _ us hl => match us, hl with | [_, _], _ => rfl
  have L5 : (KT K PT (qLam "law")).lookup f5 = some ⟨oc5, od5, .func (PySem.W.fnOf "_law_pairs" "_law_pairs" (defArgs (top 15)) (defBody (top 15)) (defScope (top 15)) .none kV5 dc5 pm5 an5 cd5 ct5), sl5⟩ := by rw [look_mark e3]; exact l5
  have D5 : PySem.W.codeIn (KT K PT (qLam "law")) cd5 "_law_pairs" = true := by rw [codeIn_mark e3]; exact c5
  have K5 : PySem.W.keepIn (KT K PT (qLam "law")) (.ref f5) = true := by rw [keep_mark e3]; exact k5
  have F5 := fun_mk (st := top 15) L5 D5 K5
  have b5 := F5.binds (ps := ["_law_places"]) fun _ _ _ _ _ _ us hl => match us, hl with | [_], _ => rfl
  have L6 : (KT K PT (qLam "law")).lookup f6 = some ⟨oc6, od6, .func (PySem.W.fnOf "_law_refused" "_law_refused" (defArgs (top 16)) (defBody (top 16)) (defScope (top 16)) .none kV6 dc6 pm6 an6 cd6 ct6), sl6⟩ := by rw [look_mark e3]; exact l6
  have D6 : PySem.W.codeIn (KT K PT (qLam "law")) cd6 "_law_refused" = true := by rw [codeIn_mark e3]; exact c6
  have K6 : PySem.W.keepIn (KT K PT (qLam "law")) (.ref f6) = true := by rw [keep_mark e3]; exact k6
  have F6 := fun_mk (st := top 16) L6 D6 K6
  have b6 := F6.binds (ps := ["_law_call"]) fun _ _ _ _ _ _ us hl => match us, hl with | [_], _ => rfl
  have L7 : (KT K PT (qLam "law")).lookup f7 = some ⟨oc7, od7, .func (PySem.W.fnOf "_law_same" "_law_same" (defArgs (top 17)) (defBody (top 17)) (defScope (top 17)) .none kV7 dc7 pm7 an7 cd7 ct7), sl7⟩ := by rw [look_mark e3]; exact l7
  have D7 : PySem.W.codeIn (KT K PT (qLam "law")) cd7 "_law_same" = true := by rw [codeIn_mark e3]; exact c7
  have K7 : PySem.W.keepIn (KT K PT (qLam "law")) (.ref f7) = true := by rw [keep_mark e3]; exact k7
  have F7 := fun_mk (st := top 17) L7 D7 K7
  have b7 := F7.binds (ps := ["_law_found", "_law_due"]) fun _ _ _ _ _ _ us hl => match us, hl with | [_, _], _ => rfl
  have L8 : (KT K PT (qLam "law")).lookup f8 = some ⟨oc8, od8, .func (PySem.W.fnOf "_law_webs" "_law_webs" (defArgs (top 18)) (defBody (top 18)) (defScope (top 18)) .none kV8 dc8 pm8 an8 cd8 ct8), sl8⟩ := by rw [look_mark e3]; exact l8
  have D8 : PySem.W.codeIn (KT K PT (qLam "law")) cd8 "_law_webs" = true := by rw [codeIn_mark e3]; exact c8
  have K8 : PySem.W.keepIn (KT K PT (qLam "law")) (.ref f8) = true := by rw [keep_mark e3]; exact k8
  have F8 := fun_mk (st := top 18) L8 D8 K8
  have b8 := F8.binds (ps := ["_law_places"]) fun _ _ _ _ _ _ us hl => match us, hl with | [_], _ => rfl
  have L9 : (KT K PT (qLam "law")).lookup f9 = some ⟨oc9, od9, .func (PySem.W.fnOf "_law_right" "_law_right" (defArgs (top 19)) (defBody (top 19)) (defScope (top 19)) .none kV9 dc9 pm9 an9 cd9 ct9), sl9⟩ := by rw [look_mark e3]; exact l9
  have D9 : PySem.W.codeIn (KT K PT (qLam "law")) cd9 "_law_right" = true := by rw [codeIn_mark e3]; exact c9
  have K9 : PySem.W.keepIn (KT K PT (qLam "law")) (.ref f9) = true := by rw [keep_mark e3]; exact k9
  have F9 := fun_mk (st := top 19) L9 D9 K9
  have b9 := F9.binds (ps := ["_law_places"]) fun _ _ _ _ _ _ us hl => match us, hl with | [_], _ => rfl
  have L10 : (KT K PT (qLam "law")).lookup fa = some ⟨oc10, od10, .func (PySem.W.fnOf "law" "law" (defArgs (top 20)) (defBody (top 20)) (defScope (top 20)) .none kV10 dc10 pm10 an10 (.ref cL) ct10), sl10⟩ := by rw [look_mark e3]; exact l10
  have D10 : PySem.W.codeIn (KT K PT (qLam "law")) (.ref cL) "law" = true := by rw [codeIn_mark e3]; exact c10
  have K10 : PySem.W.keepIn (KT K PT (qLam "law")) (.ref fa) = true := by rw [keep_mark e3]; exact k10
  have F10 := fun_mk (st := top 20) L10 D10 K10
  refine ⟨PySem.W.fnOf "law" "law" (defArgs (top 20)) (defBody (top 20)) (defScope (top 20)) .none kV10 dc10 pm10 an10 (.ref cL) ct10, ⟨.ref cL, ec⟩, fun s v => .of_eq rfl, fun base hKb HB => ?_⟩
  obtain ⟨c2, hc2, HC⟩ := codeHd_of hKb (cd := .ref cL) (P := PT) (by unfold codeHdIn; simp only [look_mark e3]; exact ec)
  cases hc2
  have RF : Rfd l.prog w (KT K PT (qLam "law")) mg base (clsF C0 C1 C2 C3 C4) CT := ok__law_refused F6 (PySem.W.mg_of X G a6) b6 B KC HCl (PySem.W.mg_of X G eT) (PySem.W.mg_none_of X G z_ValueError)
  have G0 : Fn l.prog w (KT K PT (qLam "law")) mg base 1 "refuse_above" ["many", "most"] 2 sem_refuse_above := ⟨f0, _, ok_refuse_above F0 B, PySem.W.mg_of X G a0, K0, b0⟩
  have X0 : FnX l.prog w (KT K PT (qLam "law")) mg base (clsF C0 C1 C2 C3 C4) 1 "refuse_above" ["many", "most"] 2 semx_refuse_above := ⟨f0, _, okx_refuse_above F0 B KC HCl, PySem.W.mg_of X G a0, K0, b0⟩
  have G1 : Fn l.prog w (KT K PT (qLam "law")) mg base 2 "all_webs" ["many"] 1 sem_all_webs := ⟨f1, _, ok_all_webs F1 B G0 C, PySem.W.mg_of X G a1, K1, b1⟩
  have X1 : FnX l.prog w (KT K PT (qLam "law")) mg base (clsF C0 C1 C2 C3 C4) 2 "all_webs" ["many"] 1 semx_all_webs := ⟨f1, _, okx_all_webs F1 B G0 C X0 KC HCl, PySem.W.mg_of X G a1, K1, b1⟩
  have G2 : Fn l.prog w (KT K PT (qLam "law")) mg base 1 "_law_cell_at" ["_law_script", "_law_k"] 2 sem__law_cell_at := ⟨f2, _, ok__law_cell_at F2 B, PySem.W.mg_of X G a2, K2, b2⟩
  have G3 : Fn l.prog w (KT K PT (qLam "law")) mg base 2 "_law_state" ["_law_script", "_law_k"] 2 sem__law_state := ⟨f3, _, ok__law_state F3 B G2, PySem.W.mg_of X G a3, K3, b3⟩
  have G4 : Fn l.prog w (KT K PT (qLam "law")) mg base 1 "_law_take" ["_law_state_here", "_law_many"] 2 sem__law_take := ⟨f4, _, ok__law_take F4 B, PySem.W.mg_of X G a4, K4, b4⟩
  have G7 : Fn l.prog w (KT K PT (qLam "law")) mg base 1 "_law_same" ["_law_found", "_law_due"] 2 sem__law_same := ⟨f7, _, ok__law_same F7 B (PySem.W.mg_none_of X G z_repr), PySem.W.mg_of X G a7, K7, b7⟩
  have G5 : Fn l.prog w (KT K PT (qLam "law")) mg base 1 "_law_pairs" ["_law_places"] 1 sem__law_pairs := ⟨f5, _, ok__law_pairs F5 B, PySem.W.mg_of X G a5, K5, b5⟩
  have G8 : Fn l.prog w (KT K PT (qLam "law")) mg base 2 "_law_webs" ["_law_places"] 1 sem__law_webs := ⟨f8, _, ok__law_webs F8 B G5 (PySem.W.mg_none_of X G z_enumerate), PySem.W.mg_of X G a8, K8, b8⟩
  have G9 : Fn l.prog w (KT K PT (qLam "law")) mg base 3 "_law_right" ["_law_places"] 1 sem__law_right := ⟨f9, _, ok__law_right F9 B G1 G7 G8, PySem.W.mg_of X G a9, K9, b9⟩
  exact ok_law X1 RF HC HB HT HQ L10 D10 B G1 G3 G4 G9
end K61
end DL
open PySem PySem.W PyProof.Rows
set_option maxRecDepth 100000 in
set_option maxHeartbeats 0 in
theorem PySem.Challenge.cw_nearturns_k61_all_webs_holds : PySem.Challenge.rw_nearturns_k61_all_webs.Holds := by
  w_on; o_law; k_head; (case hw => w_witness2)
  k_fill
  refine DL.walk_T (l := PySem.Challenge.rw_nearturns_k61_all_webs) (n := 63) (k := 7) (x := "_law_script") (q := DL.qLam "law") (sem := DL.K61.sem_law) rfl (by decide) rfl ⟨rfl, by decide, by decide, rfl⟩ (fun w h Y => ⟨Y.1, Y.2 _ (List.mem_singleton.mpr rfl)⟩) (fun p => rfl) (fun p => rfl) (fun p => rfl) (by decide) ?F (fun ns hl => DL.K61.law_sem ns hl)
  case F =>
    intro w mg fa h KX G hmg
    refine' DL.K61.all_mk KX G hmg rfl ?a0 ?l0 ?c0 ?k0 ?a1 ?l1 ?c1 ?k1 ?a2 ?l2 ?c2 ?k2 ?a3 ?l3 ?c3 ?k3 ?a4 ?l4 ?c4 ?k4 ?a5 ?l5 ?c5 ?k5 ?a6 ?l6 ?c6 ?k6 ?a7 ?l7 ?c7 ?k7 ?a8 ?l8 ?c8 ?k8 ?a9 ?l9 ?c9 ?k9 ?a10 ?l10 ?c10 ?k10 ?z_len ?z_tuple ?z_list ?z_range ?z_sorted ?z_set ?z_min ?z_max ?z_all ?z_any ?z_isinstance ?z_int ?z_bool ?z_str ?z_ValueError ?z_enumerate ?z_repr ?y_MOST_COUNTED ?n0 ?n1 ?n2 ?n3 ?n4 ?eT ?w_x0 ?w_a0 ?w_n0 ?w_d0 ?w_m0 ?w_b0 ?w_s0 ?w_v0 ?w_t0 ?w_q01 ?w_e01 ?w_q02 ?w_e02 ?w_q03 ?w_e03 ?w_q04 ?w_e04 ?w_x1 ?w_a1 ?w_n1 ?w_d1 ?w_m1 ?w_b1 ?w_s1 ?w_v1 ?w_t1 ?w_q10 ?w_e10 ?w_q12 ?w_e12 ?w_q13 ?w_e13 ?w_q14 ?w_e14 ?w_x2 ?w_a2 ?w_n2 ?w_d2 ?w_m2 ?w_b2 ?w_s2 ?w_v2 ?w_t2 ?w_q20 ?w_e20 ?w_q21 ?w_e21 ?w_q23 ?w_e23 ?w_q24 ?w_e24 ?w_x3 ?w_a3 ?w_n3 ?w_d3 ?w_m3 ?w_b3 ?w_s3 ?w_v3 ?w_t3 ?w_q30 ?w_e30 ?w_q31 ?w_e31 ?w_q32 ?w_e32 ?w_q34 ?w_e34 ?w_x4 ?w_a4 ?w_n4 ?w_d4 ?w_m4 ?w_b4 ?w_s4 ?w_v4 ?w_t4 ?w_q40 ?w_e40 ?w_q41 ?w_e41 ?w_q42 ?w_e42 ?w_q43 ?w_e43 ?w_sp ?w_tk ?w_xT ?w_bT ?ec ?e3
    (case a0 => k_is); (case l0 => k_is); (case c0 => k_is); (case k0 => k_is)
    (case a1 => k_is); (case l1 => k_is); (case c1 => k_is); (case k1 => k_is)
    (case a2 => k_is); (case l2 => k_is); (case c2 => k_is); (case k2 => k_is)
    (case a3 => k_is); (case l3 => k_is); (case c3 => k_is); (case k3 => k_is)
    (case a4 => k_is); (case l4 => k_is); (case c4 => k_is); (case k4 => k_is)
    (case a5 => k_is); (case l5 => k_is); (case c5 => k_is); (case k5 => k_is)
    (case a6 => k_is); (case l6 => k_is); (case c6 => k_is); (case k6 => k_is)
    (case a7 => k_is); (case l7 => k_is); (case c7 => k_is); (case k7 => k_is)
    (case a8 => k_is); (case l8 => k_is); (case c8 => k_is); (case k8 => k_is)
    (case a9 => k_is); (case l9 => k_is); (case c9 => k_is); (case k9 => k_is)
    (case a10 => k_is); (case l10 => k_is); (case c10 => k_is); (case k10 => k_is)
    (case z_len => k_is); (case z_tuple => k_is); (case z_list => k_is); (case z_range => k_is)
    (case z_sorted => k_is); (case z_set => k_is); (case z_min => k_is); (case z_max => k_is)
    (case z_all => k_is); (case z_any => k_is); (case z_isinstance => k_is); (case z_int => k_is)
    (case z_bool => k_is); (case z_str => k_is); (case z_ValueError => k_is); (case z_enumerate => k_is)
    (case z_repr => k_is); (case y_MOST_COUNTED => k_is); (case n0 => k_is); (case n1 => k_is)
    (case n2 => k_is); (case n3 => k_is); (case n4 => k_is); (case eT => k_is)
    (case w_x0 => k_exc); (case w_a0 => k_is); (case w_n0 => k_is); (case w_d0 => k_is)
    (case w_m0 => k_is); (case w_b0 => k_is); (case w_s0 => k_is); (case w_v0 => k_is)
    (case w_t0 => k_is); (case w_q01 => k_is); (case w_e01 => decide); (case w_q02 => k_is)
    (case w_e02 => decide); (case w_q03 => k_is); (case w_e03 => decide); (case w_q04 => k_is)
    (case w_e04 => decide); (case w_x1 => k_exc); (case w_a1 => k_is); (case w_n1 => k_is)
    (case w_d1 => k_is); (case w_m1 => k_is); (case w_b1 => k_is); (case w_s1 => k_is)
    (case w_v1 => k_is); (case w_t1 => k_is); (case w_q10 => k_is); (case w_e10 => decide)
    (case w_q12 => k_is); (case w_e12 => decide); (case w_q13 => k_is); (case w_e13 => decide)
    (case w_q14 => k_is); (case w_e14 => decide); (case w_x2 => k_exc); (case w_a2 => k_is)
    (case w_n2 => k_is); (case w_d2 => k_is); (case w_m2 => k_is); (case w_b2 => k_is)
    (case w_s2 => k_is); (case w_v2 => k_is); (case w_t2 => k_is); (case w_q20 => k_is)
    (case w_e20 => decide); (case w_q21 => k_is); (case w_e21 => decide); (case w_q23 => k_is)
    (case w_e23 => decide); (case w_q24 => k_is); (case w_e24 => decide); (case w_x3 => k_exc)
    (case w_a3 => k_is); (case w_n3 => k_is); (case w_d3 => k_is); (case w_m3 => k_is)
    (case w_b3 => k_is); (case w_s3 => k_is); (case w_v3 => k_is); (case w_t3 => k_is)
    (case w_q30 => k_is); (case w_e30 => decide); (case w_q31 => k_is); (case w_e31 => decide)
    (case w_q32 => k_is); (case w_e32 => decide); (case w_q34 => k_is); (case w_e34 => decide)
    (case w_x4 => k_exc); (case w_a4 => k_is); (case w_n4 => k_is); (case w_d4 => k_is)
    (case w_m4 => k_is); (case w_b4 => k_is); (case w_s4 => k_is); (case w_v4 => k_is)
    (case w_t4 => k_is); (case w_q40 => k_is); (case w_e40 => decide); (case w_q41 => k_is)
    (case w_e41 => decide); (case w_q42 => k_is); (case w_e42 => decide); (case w_q43 => k_is)
    (case w_e43 => decide); (case w_sp => k_is); (case w_tk => k_is); (case w_xT => k_exc)
    (case w_bT => k_is); (case ec => rfl); (case e3 => rfl)
#print axioms PySem.Challenge.cw_nearturns_k61_all_webs_holds

