import PyProof.Rows.All
import Wide.All
import OpenK.AllK
import Wide.FinOn
import PyProof.EqAt
import PyProof.EqKinds
import PyProof.TupleCall
import KE.BitLaws
import KE.IntBitsLaws
import PyProof.RaisesMany
import PyProof.PassesOwn
import OpenK.KMake
import OpenK.KDescr
import OpenK.KCls
import OpenK.KWalk
import PyProof.ExcBaseAll.Exception
import PyProof.ExcArgs
import PyProof.InstStoreFacts
import PyProof.ExcAttrAll.Exception
import KE.KTryMore
import PyProof.RulesAs
import PyProof.AutoIntG2
import KE.OsGo
import Open.SpecLaws
import PySem.Challenge.RW_bitmatrix_s09_jacobi
set_option Elab.async false
section
set_option Elab.async false
set_option linter.all false
set_option maxRecDepth 100000
namespace L2
open PySem PySem.Spec PyProof.Rows
/-- a key: an int or a str -/
abbrev Key := Sum Int Str
def keyIs : Key → Value → Bool
  | .inl k, v => Value.isInt k v
  | .inr x, v => Value.isStrOf x v
def keyH (w : World) : Key → Int
  | .inl k => hashInt k
  | .inr x => hashStr w x
theorem keyIs_shape : ∀ {k : Key} {v : Value}, keyIs k v = true → (∃ i t, k = Sum.inl i ∧ v = Value.int i t) ∨ (∃ x t, k = Sum.inr x ∧ v = Value.str x t)
  | .inl i, v, h => by
    obtain ⟨t, e⟩ := Value.isInt_shape (k := i) (v := v) h
    exact .inl ⟨i, t, rfl, e⟩
  | .inr x, v, h => by
    obtain ⟨t, e⟩ := Value.isStrOf_shape (x := x) (v := v) h
    exact .inr ⟨x, t, rfl, e⟩
theorem key_ll (a b : Int) : decide ((Sum.inl a : Key) = Sum.inl b) = (a == b) := by
  by_cases e : a = b
  · subst e; simp
  · have h : ¬ (Sum.inl a : Key) = Sum.inl b := fun q => e (Sum.inl.inj q)
    rw [decide_eq_false h]
    exact (beq_eq_false_iff_ne.mpr e).symm
theorem key_rr (a b : Str) : decide ((Sum.inr a : Key) = Sum.inr b) = decide (a = b) := by
  by_cases e : a = b
  · subst e; simp
  · have h : ¬ (Sum.inr a : Key) = Sum.inr b := fun q => e (Sum.inr.inj q)
    rw [decide_eq_false h, decide_eq_false e]
theorem key_lr (a : Int) (b : Str) : decide ((Sum.inl a : Key) = Sum.inr b) = false := decide_eq_false (fun q => nomatch q)
theorem key_rl (a : Str) (b : Int) : decide ((Sum.inr a : Key) = Sum.inl b) = false := decide_eq_false (fun q => nomatch q)
def mixKind (prog : Program) (w : World) : PySem.KeyKind prog w Key where
  is := keyIs
  hash := keyH w
  inj := fun v a b ha hb => by
    rcases keyIs_shape ha with ⟨i, t, rfl, rfl⟩ | ⟨x, t, rfl, rfl⟩
    · rcases keyIs_shape hb with ⟨j, u, rfl, e⟩ | ⟨y, u, rfl, e⟩
      · injection e with e1 _; rw [e1]
      · exact nomatch e
    · rcases keyIs_shape hb with ⟨j, u, rfl, e⟩ | ⟨y, u, rfl, e⟩
      · exact nomatch e
      · injection e with e1 _; rw [e1]
  byValue := fun k v h => by
    rcases keyIs_shape h with ⟨i, t, rfl, rfl⟩ | ⟨x, t, rfl, rfl⟩ <;> rfl
  pyHash := fun hv h => by
    rcases keyIs_shape hv with ⟨i, t, rfl, rfl⟩ | ⟨x, t, rfl, rfl⟩
    · exact wpAny_pyHash_int h
    · exact wpAny_pyHash_str h
  eqBool := fun hu hv h => by
    rcases keyIs_shape hu with ⟨i, t, rfl, rfl⟩ | ⟨x, t, rfl, rfl⟩
    · rcases keyIs_shape hv with ⟨j, u, rfl, rfl⟩ | ⟨y, u, rfl, rfl⟩
      · rw [key_ll] at h; exact wpAny_eqBool_int h
      · rw [key_lr] at h; exact SeqAt.EqAt.int_str i t y u _ _ _ _ h
    · rcases keyIs_shape hv with ⟨j, u, rfl, rfl⟩ | ⟨y, u, rfl, rfl⟩
      · rw [key_rl] at h; exact SeqAt.EqAt.str_int x t j u _ _ _ _ h
      · rw [key_rr] at h; exact wpAny_eqBool_str h
  «strs» := fun k x t v h => by
    rcases keyIs_shape h with ⟨i, u, rfl, e⟩ | ⟨y, u, rfl, e⟩
    · exact nomatch e
    · injection e with e1 _
      subst e1
      cases v <;> rfl
end L2
namespace L2
open PySem PySem.Spec PyProof.Rows
/-- a value, without the heap -/
inductive V where
  | non | bl (b : Bool) | int (i : Int) | str (x : Str) | byt (b : Array UInt8) | flt (b : UInt64) | ref (a : Addr) | ty (n : String)
  deriving DecidableEq
def RelV : V → Value → Prop
  | .non, u => u = Value.none
  | .bl b, u => u = Value.bool b
  | .int i, u => ∃ t, u = Value.int i t
  | .str x, u => ∃ t, u = Value.str x t
  | .byt b, u => ∃ t, u = Value.bytes b t
  | .flt b, u => ∃ t, u = Value.float b t
  | .ref a, u => u = Value.ref a
  | .ty n, u => u = Value.type n
abbrev Vals : List V → List Value → Prop := Paired RelV
theorem Vals.length {xs : List V} {us : List Value} (r : Vals xs us) : xs.length = us.length := Paired.length r
theorem Vals.get : ∀ {xs : List V} {us : List Value} {i : Nat} {x : V}, Vals xs us → xs[i]? = some x → ∃ u, us[i]? = some u ∧ RelV x u
  | _, _, _, _, .nil, e => by simp at e
  | _, _, 0, _, .cons r _, e => by simp at e; subst e; exact ⟨_, rfl, r⟩
  | _, _, i + 1, x, .cons _ t, e => by
    obtain ⟨u, h1, h2⟩ := Vals.get (i := i) (x := x) t (by simpa using e)
    exact ⟨u, by simpa using h1, h2⟩
theorem Vals.set {x : V} {u : Value} (r : RelV x u) : ∀ {xs : List V} {us : List Value} (i : Nat), Vals xs us → Vals (xs.set i x) (us.set i u)
  | _, _, _, .nil => .nil
  | _, _, 0, .cons _ t => .cons r t
  | _, _, i + 1, .cons q t => .cons q (Vals.set r i t)
theorem Vals.append : ∀ {xs ys : List V} {us ws : List Value}, Vals xs us → Vals ys ws → Vals (xs ++ ys) (us ++ ws)
  | _, _, _, _, .nil, s => s
  | _, _, _, _, .cons r t, s => .cons r (Vals.append t s)
theorem Vals.take : ∀ {xs : List V} {us : List Value} (n : Nat), Vals xs us → Vals (xs.take n) (us.take n)
  | _, _, 0, _ => .nil
  | _, _, _ + 1, .nil => .nil
  | _, _, n + 1, .cons r t => .cons r (Vals.take n t)
theorem Vals.drop : ∀ {xs : List V} {us : List Value} (n : Nat), Vals xs us → Vals (xs.drop n) (us.drop n)
  | _, _, 0, r => r
  | _, _, _ + 1, .nil => .nil
  | _, _, n + 1, .cons _ t => Vals.drop n t
theorem Vals.none_of : ∀ {xs : List V} {us : List Value} {i : Nat}, Vals xs us → xs[i]? = none → us[i]? = none := fun {xs us i} r e => by
  have h1 := r.length
  have h2 : xs.length ≤ i := List.getElem?_eq_none_iff.mp e
  exact List.getElem?_eq_none_iff.mpr (by omega)
def RelO : Option V → Option Value → Prop
  | some v, some u => RelV v u
  | none, none => True
  | _, _ => False
def KV {κ : Type} : List (κ × V) → List (κ × Value) → Prop := Paired fun (p : κ × V) (q : κ × Value) => p.1 = q.1 ∧ RelV p.2 q.2
/-- a key of a dict (00_mix): an int or a text -/
def kV : Key → V
  | .inl i => .int i
  | .inr x => .str x
/-- what stands at a tracked address -/
inductive HO where
  /-- a list -/
  | lst (xs : List V)
  /-- a tuple (never changes) -/
  | tup (xs : List V)
  /-- a dict whose keys are ints and texts; one whose keys are tuples of ints and texts (the empty one is both) -/
  | dK (kvs : List (Key × V)) | dT (kvs : List (List Key × V))
  /-- a set of ints: its members, its size -/
  | set (S : Int → Bool) (n : Nat)
  /-- an instance of the class at C, its dict at dx, its attributes -/
  | ins (C dx : Addr) (fs : List (Str × V))
  /-- the dict of the instance at x -/
  | own (x : Addr)
  /-- the dict of an exception -/
  | xd (fs : List (Str × V))
  /-- a bound method, f of x -/
  | met (f x : Addr)
  /-- a range object lo, lo + 1, .. below hi -/
  | rng (lo hi : Int)
  /-- a thing that is known to the object (the script; a dict while a loop walks it): read, never written while it is so -/
  | frz (o : Obj) (u : HO)
  /-- a code object's table -/
  | tbl (ps : Array Value)
  /-- any other thing, by what is true of its one object (a def of one's own: SetO a S n := HO.ext fun h => ..) -/
  | ext (φ : Heap → Prop)
abbrev Hp := Addr → Option HO
def upd (H : Hp) (a : Addr) (o : HO) : Hp := fun b => if b = a then some o else H b
theorem upd_same {H : Hp} {a : Addr} {o : HO} : upd H a o a = some o := by unfold upd; rw [if_pos rfl]
theorem upd_ne {H : Hp} {a b : Addr} {o : HO} (h : b ≠ a) : upd H a o b = H b := by unfold upd; rw [if_neg h]
theorem ne_of_none {H : Hp} {a b : Addr} {o : HO} (h : H a = some o) (h' : H b = none) : a ≠ b := by
  intro e; subst e; rw [h] at h'; cases h'
section
variable (P : Program) (w : World)
def ObjOk (H : Hp) (h : Heap) (a : Addr) : HO → Prop
  | .lst xs => xs.length ≤ sizeLine ∧ ∃ (its : List Value) (n : Nat), Vals xs its ∧ h.get? a = some { cls := .type "list", data := .seq its.toArray n }
  | .tup xs => xs.length ≤ sizeLine ∧ ∃ its : List Value, Vals xs its ∧ IsTup h a its.toArray
  | .dK kvs => kvs.length ≤ sizeLine ∧ (a == sysModules) = false ∧ ∃ vs, KV kvs vs ∧ h.DictOf (mixKind P w) a vs
  | .dT kvs => kvs.length ≤ sizeLine ∧ (a == sysModules) = false ∧ ∃ xs : List (List Key × Addr × Value),
      Paired (fun (p : List Key × V) (q : List Key × Addr × Value) => p.1 = q.1 ∧ H q.2.1 = some (.tup (p.1.map kV)) ∧ RelV p.2 q.2.2) kvs xs ∧
      ∃ o es ep, h.get? a = some o ∧ o.ExactDict ∧ o.data = .dict es ep ∧ es.toList = xs.map (entryOfKey (tupleKind (mixKind P w))) ∧ (xs.map (·.1)).Nodup
  | .set S n => h.SetOf (intKind P w) a S n
  | .ins C dx fs => H dx = some (.own a) ∧ fs.length ≤ 1000 ∧ dx ≠ a ∧ h.get? a = some (PySem.W.instObj C dx) ∧
      ∃ mA, h.Ns1 dx mA ∧ (∀ f, RelO (fs.lookup f) (mA f)) ∧ PySem.Within mA (fs.map (·.1))
  | .own _ => ∃ o, h.get? a = some o
  | .xd fs => ∃ mA, h.Ns1 a mA ∧ ∀ f, RelO (fs.lookup f) (mA f)
  | .rng lo hi => ∃ t u v, h.get? a = some { cls := .type "range", data := .fields #[.int lo t, .int hi u, .int 1 v] }
  | .frz o u => h.get? a = some o ∧ ObjOk H h a u
  | .tbl ps => h.get? a = some { cls := .none, data := .fields ps }
  | .met f x => h.get? a = some (PySem.W.methodObj (.ref f) (.ref x))
  | .ext φ => φ h ∧ (∃ o, h.get? a = some o) ∧ ∀ h1 h2 : Heap, φ h1 → (∀ o, h1.get? a = some o → h2.get? a = some o) → φ h2
/-- the abstract heap is held -/
def HOk (H : Hp) (h : Heap) : Prop := ∀ a o, H a = some o → ObjOk P w H h a o
end
section
variable {P : Program} {w : World} {H H' : Hp} {h h' : Heap} {a : Addr} {o : HO}
theorem ObjOk.lt (x : ObjOk P w H h a o) : a < h.objs.size := by
  cases o with
  | lst xs => obtain ⟨_, _, _, _, e⟩ := x; exact Heap.lt_size e
  | tup xs => obtain ⟨_, _, _, p⟩ := x; exact p.lt
  | dK kvs => obtain ⟨_, _, _, _, o, _, _, e, _⟩ := x; exact Heap.lt_size e
  | dT kvs => obtain ⟨_, _, _, _, o, _, _, e, _⟩ := x; exact Heap.lt_size e
  | set S n => obtain ⟨o, _, _, _, e, _⟩ := x; exact Heap.lt_size e
  | ins C dx fs => obtain ⟨_, _, _, e, _⟩ := x; exact Heap.lt_size e
  | own y => obtain ⟨_, e⟩ := x; exact Heap.lt_size e
  | xd fs => obtain ⟨_, ⟨_, _, _, e, _⟩, _⟩ := x; exact Heap.lt_size e
  | rng lo hi => obtain ⟨_, _, _, e⟩ := x; exact Heap.lt_size e
  | frz ob u => obtain ⟨e, _⟩ := x; exact Heap.lt_size e
  | tbl ps => exact Heap.lt_size (show h.get? a = some _ from x)
  | met f y => exact Heap.lt_size (show h.get? a = some _ from x)
  | ext φ => obtain ⟨_, ⟨_, e⟩, _⟩ := x; exact Heap.lt_size e
theorem Paired.mapP {α β : Type} {F G : α → β → Prop} : ∀ {l₁ : List α} {l₂ : List β}, Paired F l₁ l₂ → (∀ a b, F a b → G a b) → Paired G l₁ l₂
  | _, _, .nil, _ => .nil
  | _, _, .cons r t, f => .cons (f _ _ r) (Paired.mapP t f)
/-- what an object's description leans on: its own object, its own dict, the tuples -/
theorem ObjOk.stay (x : ObjOk P w H h a o) (k : ∀ b u, (b = a ∨ H b = some (.own a)) → h.get? b = some u → h'.get? b = some u)
    (ho : ∀ b, H b = some (.own a) → H' b = some (.own a)) (ht : ∀ b xs, H b = some (.tup xs) → H' b = some (.tup xs)) : ObjOk P w H' h' a o := by
  induction o with
  | lst xs => obtain ⟨z, its, n, r, e⟩ := x; exact ⟨z, its, n, r, k _ _ (.inl rfl) e⟩
  | tup xs => obtain ⟨z, its, r, ob, e, c⟩ := x; exact ⟨z, its, r, ob, k _ _ (.inl rfl) e, c⟩
  | dK kvs => obtain ⟨z, y, vs, r, ob, es, ep, e, c⟩ := x; exact ⟨z, y, vs, r, ob, es, ep, k _ _ (.inl rfl) e, c⟩
  | dT kvs =>
    obtain ⟨z, y, xs, r, ob, es, ep, e, c⟩ := x
    exact ⟨z, y, xs, Paired.mapP r fun p q z => ⟨z.1, ht _ _ z.2.1, z.2.2⟩, ob, es, ep, k _ _ (.inl rfl) e, c⟩
  | set S n => obtain ⟨ob, es, ep, t, e, c⟩ := x; exact ⟨ob, es, ep, t, k _ _ (.inl rfl) e, c⟩
  | ins C dx fs =>
    obtain ⟨d, z, ne, e, mA, ⟨od, es, ep, e2, c⟩, r⟩ := x
    exact ⟨ho _ d, z, ne, k _ _ (.inl rfl) e, mA, ⟨od, es, ep, k _ _ (.inr d) e2, c⟩, r⟩
  | own y => obtain ⟨ob, e⟩ := x; exact ⟨ob, k _ _ (.inl rfl) e⟩
  | xd fs => obtain ⟨mA, ⟨od, es, ep, e, c⟩, r⟩ := x; exact ⟨mA, ⟨od, es, ep, k _ _ (.inl rfl) e, c⟩, r⟩
  | rng lo hi => obtain ⟨t, u, v, e⟩ := x; exact ⟨t, u, v, k _ _ (.inl rfl) e⟩
  | frz ob u ih => obtain ⟨e, q⟩ := x; exact ⟨k _ _ (.inl rfl) e, ih q⟩
  | tbl ps =>
    have e : h.get? a = some { cls := .none, data := .fields ps } := x
    show h'.get? a = some { cls := .none, data := .fields ps }
    exact k a _ (.inl rfl) e
  | met f y =>
    have e : h.get? a = some (PySem.W.methodObj (.ref f) (.ref y)) := x
    show h'.get? a = some (PySem.W.methodObj (.ref f) (.ref y))
    exact k a _ (.inl rfl) e
  | ext φ => obtain ⟨p, ⟨o, e⟩, st⟩ := x; exact ⟨st _ _ p fun o q => k _ _ (.inl rfl) q, ⟨o, k _ _ (.inl rfl) e⟩, st⟩
theorem HOk.lt (x : HOk P w H h) (e : H a = some o) : a < h.objs.size := (x a o e).lt
theorem HOk.fresh (x : HOk P w H h) (e : h.objs.size ≤ a) : H a = none := by
  cases q : H a with
  | none => rfl
  | some u => exact absurd (Nat.lt_of_lt_of_le (x.lt q) e) (Nat.lt_irrefl _)
/-- every object of the heap is kept -/
theorem HOk.kept (x : HOk P w H h) (k : ∀ b u, h.get? b = some u → h'.get? b = some u) : HOk P w H h' := fun a o e =>
  (x a o e).stay (fun b u _ q => k b u q) (fun _ q => q) fun _ _ q => q
/-- a new object is laid and tracked -/
theorem HOk.laid (x : HOk P w H h) (k : ∀ b u, h.get? b = some u → h'.get? b = some u) (hp : h.objs.size ≤ a) (new : ObjOk P w (upd H a o) h' a o) : HOk P w (upd H a o) h' := fun b u e => by
  have hn := x.fresh hp
  by_cases hb : b = a
  · subst hb; rw [upd_same] at e; cases e; exact new
  · rw [upd_ne hb] at e
    exact (x b u e).stay (fun c v _ q => k c v q) (fun c q => by rw [upd_ne (ne_of_none q hn)]; exact q) fun c xs q => by rw [upd_ne (ne_of_none q hn)]; exact q
end
/-- what may be read as u: it is u, or a known u -/
def Rd (H : Hp) (a : Addr) (u : HO) : Prop := H a = some u ∨ ∃ o, H a = some (.frz o u)
theorem Rd.ok {P : Program} {w : World} {H : Hp} {h : Heap} {a : Addr} {u : HO} (r : Rd H a u) (x : HOk P w H h) : ObjOk P w H h a u := by
  rcases r with r | ⟨o, r⟩
  · exact x a u r
  · obtain ⟨_, q⟩ := x a _ r
    exact q
/-- what may be written -/
def Mut : Option HO → Prop
  | some (.lst _) => True
  | some (.dK _) => True
  | some (.dT _) => True
  | some (.set _ _) => True
  | some (.ins _ _ _) => True
  | some (.ext _) => True
  | _ => False
section
variable {P : Program} {w : World} {H : Hp} {h h' : Heap} {x e : Addr} {o' : HO}
/-- the object at e is changed: x itself, or the dict of the instance x -/
theorem HOk.write (ok : HOk P w H h) (mu : Mut (H x)) (he : e = x ∨ H e = some (.own x)) (k : ∀ b u, b ≠ e → h.get? b = some u → h'.get? b = some u) (heo : ∃ u, h'.get? e = some u)
    (new : ObjOk P w (upd H x o') h' x o') : HOk P w (upd H x o') h' := fun b u q => by
  have nown : ∀ c y, H c = some (.own y) → c ≠ x := fun c y r z => by subst z; rw [r] at mu; exact mu
  have ntup : ∀ c xs, H c = some (.tup xs) → c ≠ x := fun c xs r z => by subst z; rw [r] at mu; exact mu
  by_cases hb : b = x
  · subst hb; rw [upd_same] at q; cases q; exact new
  · rw [upd_ne hb] at q
    by_cases hbe : b = e
    · have q' : H b = some (.own x) := by
        rcases he with z | z
        · exact absurd (hbe.trans z) hb
        · rw [hbe]; exact z
      rw [q] at q'; cases q'
      obtain ⟨v, hv⟩ := heo
      exact ⟨v, by rw [hbe]; exact hv⟩
    · refine (ok b u q).stay (fun c v hc r => k c v ?_ r) (fun c r => by rw [upd_ne (nown c b r)]; exact r) fun c xs r => by rw [upd_ne (ntup c xs r)]; exact r
      rcases hc with rfl | hc
      · exact hbe
      · rintro rfl
        rcases he with z | z
        · exact nown c b hc z
        · rw [hc] at z; cases z; exact hb rfl
end
structure Un (fs ex : List Addr) (H H' : Hp) (h h' : Heap) : Prop where
  keep : ∀ b o, h.get? b = some o → H b = none → b ∉ fs → b ∉ ex → h'.get? b = some o
  slot : ∀ b o, h.get? b = some o → H b = none → b ∈ fs → b ∉ ex → ∃ sl, h'.get? b = some { o with slots := sl }
  free : ∀ b o, h.get? b = some o → H b = none → b ∉ ex → H' b = none
  there : ∀ b o, h.get? b = some o → b ∉ ex → ∃ o', h'.get? b = some o'
  tups : ∀ b xs, H b = some (.tup xs) → H' b = some (.tup xs)
  frzs : ∀ b o u, H b = some (.frz o u) → H' b = some (.frz o u)
  tbls : ∀ b ps, H b = some (.tbl ps) → ∃ more, H' b = some (.tbl (ps ++ more))
section
variable {fs fs' ex ex' : List Addr} {H H1 H2 : Hp} {h h1 h2 h' : Heap} {a x e : Addr} {o : HO}
theorem Un.any (u : Un fs ex H H1 h h1) {b : Addr} {ob : Obj} (q : h.get? b = some ob) (n : H b = none) (hx : b ∉ ex) : ∃ sl, h1.get? b = some { ob with slots := sl } := by
  by_cases hb : b ∈ fs
  · exact u.slot b ob q n hb hx
  · exact ⟨ob.slots, u.keep b ob q n hb hx⟩
theorem Un.kept (k : ∀ b u, h.get? b = some u → h'.get? b = some u) : Un fs ex H H h h' :=
  ⟨fun b ob q _ _ _ => k b ob q, fun b ob q _ _ _ => ⟨ob.slots, k b ob q⟩, fun _ _ _ n _ => n, fun b ob q _ => ⟨ob, k b ob q⟩, fun _ _ q => q, fun _ _ _ q => q, fun _ ps q => ⟨#[], by rw [q]; simp⟩⟩
theorem Un.refl : Un fs ex H H h h := Un.kept fun _ _ q => q
theorem Un.laid (k : ∀ b u, h.get? b = some u → h'.get? b = some u) (hp : h.objs.size ≤ a) (hn : H a = none) : Un fs ex H (upd H a o) h h' where
  keep := fun b u q _ _ _ => k b u q
  slot := fun b u q _ _ _ => ⟨u.slots, k b u q⟩
  free := fun b u q n _ => by rw [upd_ne (Nat.ne_of_lt (Nat.lt_of_lt_of_le (Heap.lt_size q) hp))]; exact n
  there := fun b u q _ => ⟨u, k b u q⟩
  tups := fun b xs q => by rw [upd_ne (ne_of_none q hn)]; exact q
  frzs := fun b u xs q => by rw [upd_ne (ne_of_none q hn)]; exact q
  tbls := fun b ps q => ⟨#[], by rw [upd_ne (ne_of_none q hn), q]; simp⟩
theorem Un.write (mu : Mut (H x)) (he : e = x ∨ H e = some (.own x)) (k : ∀ b u, b ≠ e → h.get? b = some u → h'.get? b = some u) (heo : ∃ u, h'.get? e = some u) : Un fs ex H (upd H x o) h h' := by
  have hx : ∀ b, H b = none → b ≠ x := fun b n z => by subst z; rw [n] at mu; exact mu
  have hb : ∀ b, H b = none → b ≠ e := fun b n z => by
    subst z
    rcases he with r | r
    · exact hx b n r
    · rw [n] at r; cases r
  have hm : ∀ b u, H b = some u → ¬ Mut (some u) → b ≠ x := fun b u q nm z => by subst z; rw [q] at mu; exact nm mu
  refine ⟨fun b u q n _ _ => k b u (hb b n) q, fun b u q n _ _ => ⟨u.slots, k b u (hb b n) q⟩, fun b u q n _ => by rw [upd_ne (hx b n)]; exact n, fun b u q _ => ?_,
    fun b xs q => by rw [upd_ne (hm b _ q fun z => z)]; exact q, fun b u xs q => by rw [upd_ne (hm b _ q fun z => z)]; exact q, fun b ps q => ⟨#[], by rw [upd_ne (hm b _ q fun z => z), q]; simp⟩⟩
  by_cases hbe : b = e
  · subst hbe; exact heo
  · exact ⟨u, k b u hbe q⟩
end
def trk (h : Heap) (H : Hp) : List Addr := (List.range h.objs.size).filter fun a => (H a).isSome
def hidT (h : Heap) (H : Hp) : Heap := PySem.W.hideAll h (trk h H)
theorem hidT_size (h : Heap) (H : Hp) : (hidT h H).objs.size = h.objs.size := PySem.W.hideAll_size _ _
theorem hidT_get {h : Heap} {H : Hp} {b : Addr} {o : Obj} (e : h.get? b = some o) (n : H b = none) : (hidT h H).get? b = some o :=
  PySem.W.hideAll_get _ e fun hm => by
    have q : (H b).isSome = true := (List.mem_filter.mp hm).2
    rw [n] at q; simp at q
theorem of_hidT {h : Heap} {H : Hp} {b : Addr} {o : Obj} (e : (hidT h H).get? b = some o) : h.get? b = some o ∧ H b = none := by
  have e' : h.get? b = some o := PySem.W.of_hideAll (trk h H) e
  refine ⟨e', ?_⟩
  cases q : H b with
  | none => rfl
  | some x =>
    have hm : b ∈ trk h H := List.mem_filter.mpr ⟨List.mem_range.mpr (Heap.lt_size e'), by simp [q]⟩
    have z : (hidT h H).get? b = none := PySem.W.hideAll_none (trk h H) hm
    rw [z] at e; cases e
end L2
namespace L2
open PySem PySem.Spec PyProof.Rows
/-- the module's facts, over the base: the heap at the law's entry without what is tracked there -/
structure Mod (K : PySem.W.Frag) (mg : Str → Option Value) (base : Heap) : Prop where
  kin : K.In base
  glob : base.Ns mainGlobals mg
  blt : ∃ mb, base.Ns builtinsNs mb ∧ ∀ x : Str, x ≠ "__name__" → mb x = bootBuiltins x
  nolimit : base.NoLimit
/-- the context: a def's body (or a comprehension's block) running. base: fixed through the whole law; s₀, H₀: the entry; outer: the frames whose slots others may change (a def's callers); stack: all frames that run;
   ex: iterators that were made ahead of the entry and are walked here (a comprehension's); fn: the names whose cells were made at the entry (a def: all; a comprehension's block: its own); calm: not within an except suite; pn: pins that every state bears; xe: what is wanted of an exception that leaves the code -/
structure Cx where
  prog : Program
  w : World
  K : PySem.W.Frag
  mg : Str → Option Value
  base : Heap
  A : Around
  N : List Str
  s₀ : Shared
  H₀ : Hp
  env : Env
  outer : List Env
  stack : List Env
  ex : List Addr
  fn : Str → Bool
  calm : Bool
  pn : List (Addr × Obj)
  xe : Value → Shared → Prop
/-- the callers' frames -/
def frs (l : List Env) : List Addr := l.filterMap (·.frame)
abbrev Cx.fs (X : Cx) : List Addr := frs X.outer
def Vis (sc : Scope) (x : Str) : Prop := sc.names.lookup x = some .local ∨ sc.names.lookup x = some .cell ∨ sc.names.lookup x = some .free
def Loc (sc : Scope) (x : Str) : Prop := sc.names.lookup x = some .local ∨ sc.names.lookup x = some .cell
def Look (env : Env) (h : Heap) (m : Str → Option Value) (x : Str) (u : Value) : Prop :=
  (env.kindOf x = some .local ∧ m x = some u) ∨ ((env.kindOf x = some .cell ∨ env.kindOf x = some .free) ∧ ∃ c, env.cells.lookup x = some c ∧ h.IsCell c (some u))
structure Cx.Ok (X : Cx) : Prop where
  mod : Mod X.K X.mg X.base
  kind : X.env.scope.kind = .function
  glob : X.env.globals = mainGlobals
  blt : X.env.builtins = builtinsNs
  above : X.s₀.heap.objs.size ≤ X.env.locals
  inj : ∀ x y c, X.env.cells.lookup x = some c → X.env.cells.lookup y = some c → x = y
  has : ∀ x, (X.env.kindOf x = some .cell ∨ X.env.kindOf x = some .free) → ∃ c, X.env.cells.lookup x = some c
  cab : ∀ x c, X.fn x = true → X.env.cells.lookup x = some c → X.s₀.heap.objs.size ≤ c
  hd : X.calm = true → X.A.handled = none
  frames : X.A.frames = some X.stack
  stk : X.stack = X.outer ∨ (X.stack = X.env :: X.outer ∧ X.env.frame = some X.env.locals)
  exf : ∀ b ∈ X.ex, b ≠ X.env.locals ∧ ∀ x c, X.env.cells.lookup x = some c → c ≠ b
  bs : ∀ b o, X.base.get? b = some o → X.s₀.heap.get? b = some o ∧ X.H₀ b = none
  bsz : X.base.objs.size ≤ X.s₀.heap.objs.size
  noex : ∀ b o, X.base.get? b = some o → b ∉ X.ex
  exfs : ∀ b ∈ X.ex, b ∉ X.fs
  funs : X.s₀.heap.FunFrames X.base X.outer
  frf : ∀ b ∈ X.fs, X.H₀ b = none
structure Inv (X : Cx) (pins : List (Addr × Obj)) (σ : List (Option V)) (H : Hp) (s : Shared) : Prop where
  ok : X.Ok
  os : s.os = X.s₀.os
  bare : AllBare s.gens
  base : Un X.fs X.ex X.H₀ H X.s₀.heap s.heap
  loc : ∃ m, s.heap.Ns X.env.locals m ∧ ∀ (i : Nat) (x : Str) (v : V), X.N[i]? = some x → σ[i]? = some (some v) → Vis X.env.scope x → ∃ u, RelV v u ∧ Look X.env s.heap m x u
  cell : ∀ x c, X.env.cells.lookup x = some c → ∃ v, s.heap.IsCell c v
  free : H X.env.locals = none
  freeC : ∀ x c, X.env.cells.lookup x = some c → H c = none
  pin : ∀ p ∈ X.pn ++ pins, s.heap.get? p.1 = some p.2 ∧ H p.1 = none ∧ p.1 ≠ X.env.locals ∧ p.1 ∉ X.fs ∧ ∀ v, p.2.data ≠ .cell v
  hok : HOk X.prog X.w H s.heap
  len : σ.length = X.N.length
section
variable {X : Cx} {pins : List (Addr × Obj)} {σ : List (Option V)} {H H' : Hp} {s : Shared} {h' : Heap}
theorem Cx.Ok.nofr (ok : X.Ok) {b : Addr} {o : Obj} (e : X.base.get? b = some o) : b ∉ X.fs := fun hb => by
  have := (ok.funs.mem hb).1
  rw [e] at this; cases this
theorem Inv.bs (I : Inv X pins σ H s) : ∀ b o, X.base.get? b = some o → s.heap.get? b = some o ∧ H b = none := fun b o e =>
  ⟨I.base.keep b o (I.ok.bs b o e).1 (I.ok.bs b o e).2 (I.ok.nofr e) (I.ok.noex b o e), I.base.free b o (I.ok.bs b o e).1 (I.ok.bs b o e).2 (I.ok.noex b o e)⟩
theorem Inv.bk (I : Inv X pins σ H s) : ∀ b o, X.base.get? b = some o → s.heap.get? b = some o := fun b o e => (I.bs b o e).1
theorem Inv.mod (I : Inv X pins σ H s) : Mod X.K X.mg X.base := I.ok.mod
theorem Inv.kIn (I : Inv X pins σ H s) : X.K.In s.heap := I.ok.mod.kin.keeps I.bk
theorem Inv.lt (I : Inv X pins σ H s) : X.env.locals < s.heap.objs.size := let ⟨_, hn, _⟩ := I.loc; hn.lt
theorem Inv.sz (I : Inv X pins σ H s) : X.s₀.heap.objs.size ≤ s.heap.objs.size := Nat.le_trans I.ok.above (Nat.le_of_lt I.lt)
theorem Inv.nofs (I : Inv X pins σ H s) {a : Addr} (h : s.heap.objs.size ≤ a) : a ∉ X.fs := fun hb => by
  obtain ⟨_, o, ho, _⟩ := I.ok.funs.mem hb
  exact absurd (Nat.lt_of_lt_of_le (Heap.lt_size ho) (Nat.le_trans I.sz h)) (Nat.lt_irrefl _)
theorem Inv.cne (I : Inv X pins σ H s) : ∀ x c, X.env.cells.lookup x = some c → c ≠ X.env.locals := fun x c e z => by
  obtain ⟨v, o, ho, hd⟩ := I.cell x c e
  obtain ⟨m, ⟨o', es, ep, ho', hd', _⟩, _⟩ := I.loc
  rw [z, ho'] at ho; cases ho; rw [hd'] at hd; cases hd
theorem Inv.funs (I : Inv X pins σ H s) : s.heap.FunFrames X.base X.outer := by
  have all : ∀ (l : List Env), (∀ b ∈ frs l, b ∈ X.fs) → X.s₀.heap.FunFrames X.base l → s.heap.FunFrames X.base l := by
    intro l
    induction l with
    | nil => intro _ _; trivial
    | cons env r ih =>
      intro hs hl
      obtain ⟨hk, ⟨L, o, hf, hn, ho, hd⟩, hr⟩ := hl
      have hL : L ∈ X.fs := hs L (by unfold frs; rw [List.filterMap_cons, hf]; exact List.mem_cons_self)
      obtain ⟨sl, e⟩ := I.base.slot L o ho (I.ok.frf L hL) hL fun z => I.ok.exfs L z hL
      exact ⟨hk, ⟨L, _, hf, hn, e, hd⟩, ih (fun b hb => hs b (by unfold frs; rw [List.filterMap_cons, hf]; exact List.mem_cons_of_mem _ hb)) hr⟩
  exact all X.outer (fun _ hb => hb) I.ok.funs
/-- the frames that run, for a call -/
theorem Inv.stack (I : Inv X pins σ H s) : s.heap.FunFrames X.base X.stack := by
  rcases I.ok.stk with e | ⟨e, hf⟩
  · rw [e]; exact I.funs
  · rw [e]
    obtain ⟨m, hn, _⟩ := I.loc
    refine .cons (by rw [I.ok.kind]; decide) hf hn ?_ I.funs
    exact Heap.get?_none_of_le (Nat.le_trans I.ok.bsz I.ok.above)
theorem Inv.stkSub (I : Inv X pins σ H s) : ∀ b ∈ frs X.stack, b ∈ X.env.locals :: X.fs := fun b hb => by
  rcases I.ok.stk with e | ⟨e, hf⟩
  · rw [e] at hb; exact List.mem_cons_of_mem _ hb
  · rw [e] at hb
    unfold frs at hb
    rw [List.filterMap_cons, hf] at hb
    exact hb
theorem Inv.stkFree (I : Inv X pins σ H s) : ∀ b ∈ frs X.stack, H b = none := fun b hb => by
  rcases List.mem_cons.mp (I.stkSub b hb) with e | hb
  · rw [e]; exact I.free
  · obtain ⟨_, o, ho, _⟩ := I.ok.funs.mem hb
    exact I.base.free b o ho (I.ok.frf b hb) fun z => I.ok.exfs b z hb
/-- THE STEP: the untracked objects but the frame and the records at ch are kept (the callers' frames up to slots), the frame's map is kept, the new abstract heap is held -/
theorem Inv.step {g' : Array GenState} {t' : Nat} {d' : Drawn} {ch : List Addr} (I : Inv X pins σ H s)
    (hch : ∀ b ∈ ch, (b ∈ X.ex ∨ X.s₀.heap.objs.size ≤ b) ∧ b ≠ X.env.locals ∧ (∀ x c, X.env.cells.lookup x = some c → c ≠ b) ∧ ∀ p ∈ X.pn ++ pins, p.1 ≠ b)
    (keep : ∀ b o, b ≠ X.env.locals → b ∉ X.fs → b ∉ ch → s.heap.get? b = some o → H b = none → h'.get? b = some o)
    (slot : ∀ b o, b ≠ X.env.locals → b ∈ X.fs → b ∉ ch → s.heap.get? b = some o → H b = none → ∃ sl, h'.get? b = some { o with slots := sl }) (free : ∀ b o, b ∉ ch → s.heap.get? b = some o → H b = none → H' b = none)
    (there : ∀ b o, b ∉ ch → s.heap.get? b = some o → ∃ o', h'.get? b = some o')
    (tups : ∀ b xs, H b = some (.tup xs) → H' b = some (.tup xs)) (frzs : ∀ b o u, H b = some (.frz o u) → H' b = some (.frz o u)) (tbls : ∀ b ps, H b = some (.tbl ps) → ∃ more, H' b = some (.tbl (ps ++ more)))
    (ns : ∀ m, s.heap.Ns X.env.locals m → h'.Ns X.env.locals m) (hok : HOk X.prog X.w H' h') (hg : AllBare g') :
    Inv X pins σ H' { s with heap := h', gens := g', drawn := d', toks := t' } := by
  have neL : ∀ b o, X.s₀.heap.get? b = some o → b ≠ X.env.locals := fun b o e => Nat.ne_of_lt (Nat.lt_of_lt_of_le (Heap.lt_size e) I.ok.above)
  have neC : ∀ b o, X.s₀.heap.get? b = some o → b ∉ X.ex → b ∉ ch := fun b o e hx hb => by
    rcases (hch b hb).1 with z | z
    · exact hx z
    · exact absurd (Nat.lt_of_lt_of_le (Heap.lt_size e) z) (Nat.lt_irrefl _)
  have cellK : ∀ x c, X.env.cells.lookup x = some c → ∀ v, s.heap.IsCell c v → h'.IsCell c v := fun x c e v ⟨o, ho, hd⟩ => by
    have nch : c ∉ ch := fun z => (hch c z).2.2.1 x c e rfl
    by_cases hc : c ∈ X.fs
    · obtain ⟨sl, q⟩ := slot c o (I.cne x c e) hc nch ho (I.freeC x c e)
      exact ⟨_, q, hd⟩
    · exact ⟨o, keep c o (I.cne x c e) hc nch ho (I.freeC x c e), hd⟩
  refine ⟨I.ok, I.os, hg, ⟨fun b o e n hb hx => ?_, fun b o e n hb hx => ?_, fun b o e n hx => ?_, fun b o e hx => ?_, fun b xs e => tups b xs (I.base.tups b xs e), fun b o xs e => frzs b o xs (I.base.frzs b o xs e), fun b ps e => ?_⟩, ?_, fun x c e => ?_, ?_, fun x c e => ?_, fun p hp => ?_, hok, I.len⟩
  · exact keep b o (neL b o e) hb (neC b o e hx) (I.base.keep b o e n hb hx) (I.base.free b o e n hx)
  · obtain ⟨sl, e1⟩ := I.base.slot b o e n hb hx
    obtain ⟨sl', e2⟩ := slot b _ (neL b o e) hb (neC b o e hx) e1 (I.base.free b o e n hx)
    exact ⟨sl', e2⟩
  · obtain ⟨o', e1⟩ := I.base.there b o e hx
    exact free b o' (neC b o e hx) e1 (I.base.free b o e n hx)
  · obtain ⟨o', e1⟩ := I.base.there b o e hx
    exact there b o' (neC b o e hx) e1
  · obtain ⟨m1, e1⟩ := I.base.tbls b ps e
    obtain ⟨m2, e2⟩ := tbls b _ e1
    exact ⟨m1 ++ m2, by rw [e2, Array.append_assoc]⟩
  · obtain ⟨m, hn, hl⟩ := I.loc
    refine ⟨m, ns m hn, fun i x v e1 e2 e3 => ?_⟩
    obtain ⟨u, r, l⟩ := hl i x v e1 e2 e3
    refine ⟨u, r, ?_⟩
    rcases l with l | ⟨k, c, e, z⟩
    · exact .inl l
    · exact .inr ⟨k, c, e, cellK x c e _ z⟩
  · obtain ⟨v, z⟩ := I.cell x c e
    exact ⟨v, cellK x c e v z⟩
  · obtain ⟨m, ⟨o, _, _, ho, _⟩, _⟩ := I.loc
    exact free _ o (fun z => (hch _ z).2.1 rfl) ho I.free
  · obtain ⟨v, o, ho, hd⟩ := I.cell x c e
    exact free c o (fun z => (hch c z).2.2.1 x c e rfl) ho (I.freeC x c e)
  · obtain ⟨e, n, ne, nf, d⟩ := I.pin p hp
    have nch : p.1 ∉ ch := fun z => (hch p.1 z).2.2.2 p hp rfl
    exact ⟨keep p.1 p.2 ne nf nch e n, free p.1 p.2 nch e n, ne, nf, d⟩
/-- .. where the frame's own object is kept too -/
theorem Inv.un {t' : Nat} (I : Inv X pins σ H s) (u : Un X.fs [] H H' s.heap h') (hok : HOk X.prog X.w H' h') : Inv X pins σ H' { s with heap := h', toks := t' } := by
  obtain ⟨m, ⟨o, es, ep, ho, r⟩, _⟩ := id I.loc
  obtain ⟨sl, hL⟩ := u.any ho I.free (by simp)
  exact I.step (g' := s.gens) (d' := s.drawn) (ch := []) (fun _ z => nomatch z) (fun b o _ hb _ e n => u.keep b o e n hb (by simp)) (fun b o _ hb _ e n => u.slot b o e n hb (by simp)) (fun b o _ e n => u.free b o e n (by simp)) (fun b o _ e => u.there b o e (by simp)) u.tups u.frzs u.tbls (fun m' hm => by
    obtain ⟨o', es', ep', ho', r'⟩ := hm
    rw [ho] at ho'; cases ho'
    exact ⟨_, es', ep', hL, r'⟩) hok I.bare
/-- behind a call (or a comprehension's block): the slots of this frame may have changed too, the records at ch may have turned -/
theorem Inv.call {g' : Array GenState} {t' : Nat} {d' : Drawn} {ch : List Addr} (I : Inv X pins σ H s) (u : Un (frs X.stack) ch H H' s.heap h') (hok : HOk X.prog X.w H' h') (hg : AllBare g')
    (hch : ∀ b ∈ ch, (b ∈ X.ex ∨ X.s₀.heap.objs.size ≤ b) ∧ b ≠ X.env.locals ∧ (∀ x c, X.env.cells.lookup x = some c → c ≠ b) ∧ ∀ p ∈ X.pn ++ pins, p.1 ≠ b) :
    Inv X pins σ H' { s with heap := h', gens := g', drawn := d', toks := t' } := by
  obtain ⟨m, ⟨o, es, ep, ho, r⟩, _⟩ := id I.loc
  obtain ⟨sl, hL⟩ := u.any ho I.free fun z => (hch _ z).2.1 rfl
  exact I.step (ch := ch) hch (fun b o hL hb hc e n => u.keep b o e n (fun z => (List.mem_cons.mp (I.stkSub b z)).elim hL hb) hc) (fun b o _ _ hc e n => u.any e n hc) (fun b o hc e n => u.free b o e n hc) (fun b o hc e => u.there b o e hc) u.tups u.frzs u.tbls (fun m' hm => by
    obtain ⟨o', es', ep', ho', r'⟩ := hm
    rw [ho] at ho'; cases ho'
    exact ⟨_, es', ep', hL, r'⟩) hok hg
/-- an untracked record of ours (an iterator) has turned -/
theorem Inv.turned {t' : Nat} {it : Addr} (I : Inv X pins σ H s) (k : ∀ b o, b ≠ it → s.heap.get? b = some o → h'.get? b = some o) (hn : H it = none) (hL : it ≠ X.env.locals)
    (h1 : it ∈ X.ex ∨ X.s₀.heap.objs.size ≤ it) (h2 : ∀ x c, X.env.cells.lookup x = some c → c ≠ it) (h3 : ∀ p ∈ X.pn ++ pins, p.1 ≠ it) : Inv X pins σ H { s with heap := h', toks := t' } := by
  have nit : ∀ b u, H b = some u → b ≠ it := fun b u e z => by rw [z, hn] at e; cases e
  refine I.step (g' := s.gens) (d' := s.drawn) (ch := [it]) (fun b hb => ?_) (fun b o _ _ hc e _ => k b o (fun z => hc (by simp [z])) e) (fun b o _ _ hc e _ => ⟨o.slots, k b o (fun z => hc (by simp [z])) e⟩) (fun _ _ _ _ n => n)
    (fun b o hc e => ⟨o, k b o (fun z => hc (by simp [z])) e⟩) (fun _ _ e => e) (fun _ _ _ e => e) (fun b ps e => ⟨#[], by rw [e]; simp⟩) (fun m hm => ?_) (fun b u e => ?_) I.bare
  · have e : b = it := by simpa using hb
    subst e
    exact ⟨h1, hL, h2, h3⟩
  · obtain ⟨o, es, ep, ho, r⟩ := hm
    exact ⟨o, es, ep, k _ o (Ne.symm hL) ho, r⟩
  · refine (I.hok b u e).stay (fun c v hc q => k c v ?_ q) (fun _ q => q) fun _ _ q => q
    rcases hc with z | z
    · rw [z]; exact nit b u e
    · exact nit c _ z
theorem Inv.tok (I : Inv X pins σ H s) (t : Nat) : Inv X pins σ H { s with toks := t } := I.un (h' := s.heap) (t' := t) Un.refl I.hok
/-- all objects kept -/
theorem Inv.kept {t' : Nat} (I : Inv X pins σ H s) (k : ∀ b u, s.heap.get? b = some u → h'.get? b = some u) : Inv X pins σ H { s with heap := h', toks := t' } := I.un (Un.kept k) (I.hok.kept k)
/-- a new object laid and tracked -/
theorem Inv.laid {a : Addr} {o : HO} {t' : Nat} (I : Inv X pins σ H s) (k : ∀ b u, s.heap.get? b = some u → h'.get? b = some u) (hp : s.heap.objs.size ≤ a) (new : ObjOk X.prog X.w (upd H a o) h' a o) :
    Inv X pins σ (upd H a o) { s with heap := h', toks := t' } := I.un (Un.laid k hp (I.hok.fresh hp)) (I.hok.laid k hp new)
/-- an object written -/
theorem Inv.write {x e : Addr} {o : HO} {t' : Nat} (I : Inv X pins σ H s) (mu : Mut (H x)) (he : e = x ∨ H e = some (.own x)) (k : ∀ b u, b ≠ e → s.heap.get? b = some u → h'.get? b = some u) (heo : ∃ u, h'.get? e = some u)
    (new : ObjOk X.prog X.w (upd H x o) h' x o) : Inv X pins σ (upd H x o) { s with heap := h', toks := t' } := I.un (Un.write mu he k heo) (I.hok.write mu he k heo new)
/-- forgetting slots, pins -/
theorem Inv.weak {σ' : List (Option V)} (I : Inv X pins σ H s) (hl : σ'.length = σ.length) (w : ∀ (i : Nat) v, σ'[i]? = some (some v) → σ[i]? = some (some v)) : Inv X pins σ' H s :=
  ⟨I.ok, I.os, I.bare, I.base, let ⟨m, hn, hl'⟩ := I.loc; ⟨m, hn, fun i x v e1 e2 e3 => hl' i x v e1 (w i v e2) e3⟩, I.cell, I.free, I.freeC, I.pin, I.hok, hl.trans I.len⟩
theorem Inv.pins_of {pins' : List (Addr × Obj)} (I : Inv X pins σ H s) (h : ∀ p ∈ pins', s.heap.get? p.1 = some p.2 ∧ H p.1 = none ∧ p.1 ≠ X.env.locals ∧ p.1 ∉ X.fs ∧ ∀ v, p.2.data ≠ .cell v) : Inv X pins' σ H s :=
  ⟨I.ok, I.os, I.bare, I.base, I.loc, I.cell, I.free, I.freeC, fun p hp => (List.mem_append.mp hp).elim (fun z => I.pin p (List.mem_append_left _ z)) (h p), I.hok, I.len⟩
theorem nodup_ix {N : List Str} (hN : N.Nodup) {i j : Nat} {x : Str} (a : N[i]? = some x) (b : N[j]? = some x) : i = j := by
  obtain ⟨h1, e1⟩ := List.getElem?_eq_some_iff.mp a
  obtain ⟨h2, e2⟩ := List.getElem?_eq_some_iff.mp b
  exact (List.getElem_inj hN).mp (e1.trans e2.symm)
/-- a name is stored; what changed -/
theorem store_ok2 {M : Model} {A : Around} {E : Value → Shared → Prop} {i : Nat} {x : Str} {v : V} {u : Value} {Q : Unit → Shared → Prop} (I : Inv X pins σ H s) (hN : X.N.Nodup) (hi : X.N[i]? = some x) (hx : Loc X.env.scope x) (r : RelV v u)
    (h : ∀ s', Inv X pins (σ.set i (some v)) H s' → (∃ a, Heap.SameBut a s.heap s'.heap ∧ (a = X.env.locals ∨ X.env.cells.lookup x = some a)) → Q () s') (hf : X.fn x = true ∨ X.env.scope.names.lookup x = some .local := by first | exact .inl rfl | exact .inr rfl | assumption) : wpAny M A (storeName X.env x u) Q E s := by
  obtain ⟨m, hn, hl⟩ := id I.loc
  have hcls : (X.env.scope.kind == .class || (X.env.scope.kind == .module && X.env.locals != X.env.globals)) = false := by rw [I.ok.kind]; rfl
  have hiσ : i < σ.length := by rw [I.len]; exact (List.getElem?_eq_some_iff.mp hi).1
  have cne := I.cne
  have tracked : ∀ {a : Addr} {h' : Heap}, (∃ o, s.heap.get? a = some o ∧ H a = none) → Heap.SameBut a s.heap h' → HOk X.prog X.w H h' := fun {a h'} ha hs b ob e => by
    obtain ⟨_, _, hfree⟩ := ha
    refine (I.hok b ob e).stay (fun c w' hc q => (hs.2 c ?_).trans q) (fun _ q => q) fun _ _ q => q
    rintro rfl
    rcases hc with rfl | hc
    · rw [hfree] at e; cases e
    · rw [hfree] at hc; cases hc
  rcases hx with hk | hk
  · refine wpAny_storeName_local hk hn (fun h' hn' hs => ?_) hcls
    obtain ⟨oL, _, _, hoL, _⟩ := id hn
    refine h _ ⟨I.ok, I.os, I.bare, ⟨fun b o e n hb hx => ?_, fun b o e n hb hx => ?_, I.base.free, fun b o e hx => ?_, I.base.tups, I.base.frzs, I.base.tbls⟩, ⟨_, hn', fun j y v' e1 e2 e3 => ?_⟩, fun y c e => ?_, I.free, I.freeC, fun p hp => ?_, tracked ⟨oL, hoL, I.free⟩ hs, by simpa using I.len⟩ ⟨_, hs, .inl rfl⟩
    · exact (hs.2 b (Nat.ne_of_lt (Nat.lt_of_lt_of_le (Heap.lt_size e) I.ok.above))).trans (I.base.keep b o e n hb hx)
    · obtain ⟨sl, e1⟩ := I.base.slot b o e n hb hx
      exact ⟨sl, (hs.2 b (Nat.ne_of_lt (Nat.lt_of_lt_of_le (Heap.lt_size e) I.ok.above))).trans e1⟩
    · obtain ⟨o', e1⟩ := I.base.there b o e hx
      exact ⟨o', (hs.2 b (Nat.ne_of_lt (Nat.lt_of_lt_of_le (Heap.lt_size e) I.ok.above))).trans e1⟩
    · by_cases hj : j = i
      · subst hj
        rw [hi] at e1; cases e1
        rw [List.getElem?_set_self hiσ] at e2
        cases e2
        exact ⟨u, r, .inl ⟨hk, by simp⟩⟩
      · rw [List.getElem?_set_ne (Ne.symm hj)] at e2
        obtain ⟨u', r', q⟩ := hl j y v' e1 e2 e3
        refine ⟨u', r', ?_⟩
        rcases q with ⟨k, e⟩ | ⟨k, c, e, z⟩
        · refine .inl ⟨k, ?_⟩
          have : y ≠ x := fun e => hj (nodup_ix hN e1 (e ▸ hi))
          simp [this, e]
        · exact .inr ⟨k, c, e, z.sameBut hs (cne y c e)⟩
    · obtain ⟨w', z⟩ := I.cell y c e
      exact ⟨w', z.sameBut hs (cne y c e)⟩
    · obtain ⟨e, n, ne, nf, d⟩ := I.pin p hp
      exact ⟨(hs.2 p.1 ne).trans e, n, ne, nf, d⟩
  · have hfn : X.fn x = true := by
      rcases hf with z | z
      · exact z
      · rw [z] at hk; cases hk
    obtain ⟨c, hc⟩ := I.ok.has x (.inl hk)
    obtain ⟨w', z⟩ := I.cell x c hc
    refine wpAny_storeName_cell I.ok.kind hk hc z (fun h' hc' hs => ?_)
    obtain ⟨oc, hoc, hocd⟩ := id z
    refine h { s with heap := h' } ⟨I.ok, I.os, I.bare, ⟨fun b o e n hb hx => ?_, fun b o e n hb hx => ?_, I.base.free, fun b o e hx => ?_, I.base.tups, I.base.frzs, I.base.tbls⟩, ⟨m, hn.sameBut hs (Ne.symm (cne x c hc)), fun j y v' e1 e2 e3 => ?_⟩, fun y c' e => ?_, I.free, I.freeC, fun p hp => ?_, tracked ⟨oc, hoc, I.freeC x c hc⟩ hs, by simpa using I.len⟩ ⟨c, hs, .inr hc⟩
    · exact (hs.2 b (Nat.ne_of_lt (Nat.lt_of_lt_of_le (Heap.lt_size e) (I.ok.cab x c hfn hc)))).trans (I.base.keep b o e n hb hx)
    · obtain ⟨sl, e1⟩ := I.base.slot b o e n hb hx
      exact ⟨sl, (hs.2 b (Nat.ne_of_lt (Nat.lt_of_lt_of_le (Heap.lt_size e) (I.ok.cab x c hfn hc)))).trans e1⟩
    · obtain ⟨o', e1⟩ := I.base.there b o e hx
      exact ⟨o', (hs.2 b (Nat.ne_of_lt (Nat.lt_of_lt_of_le (Heap.lt_size e) (I.ok.cab x c hfn hc)))).trans e1⟩
    · by_cases hj : j = i
      · subst hj
        rw [hi] at e1; cases e1
        rw [List.getElem?_set_self hiσ] at e2
        cases e2
        exact ⟨u, r, .inr ⟨.inl hk, c, hc, hc'⟩⟩
      · rw [List.getElem?_set_ne (Ne.symm hj)] at e2
        obtain ⟨u', r', q⟩ := hl j y v' e1 e2 e3
        refine ⟨u', r', ?_⟩
        rcases q with q | ⟨k, c', e, z'⟩
        · exact .inl q
        · refine .inr ⟨k, c', e, z'.sameBut hs ?_⟩
          rintro rfl
          exact hj (nodup_ix hN e1 (I.ok.inj _ _ _ e hc ▸ hi))
    · by_cases hcc : c' = c
      · subst hcc; exact ⟨_, hc'⟩
      · obtain ⟨w2, z2⟩ := I.cell y c' e
        exact ⟨w2, z2.sameBut hs hcc⟩
    · obtain ⟨e, n, ne, nf, d⟩ := I.pin p hp
      refine ⟨(hs.2 p.1 ?_).trans e, n, ne, nf, d⟩
      intro q
      rw [q, hoc] at e
      have q' : oc = p.2 := Option.some.inj e
      exact d w' (by rw [← q']; exact hocd)
theorem store_ok {M : Model} {A : Around} {E : Value → Shared → Prop} {i : Nat} {x : Str} {v : V} {u : Value} {Q : Unit → Shared → Prop} (I : Inv X pins σ H s) (hN : X.N.Nodup) (hi : X.N[i]? = some x) (hx : Loc X.env.scope x) (r : RelV v u)
    (h : ∀ s', Inv X pins (σ.set i (some v)) H s' → Q () s') (hf : X.fn x = true ∨ X.env.scope.names.lookup x = some .local := by first | exact .inl rfl | exact .inr rfl | assumption) : wpAny M A (storeName X.env x u) Q E s :=
  store_ok2 I hN hi hx r (fun s' I' _ => h s' I') hf
/-- behind a call or a block, the state as it is -/
theorem Inv.call' {s' : Shared} {ch : List Addr} (I : Inv X pins σ H s) (ho : s'.os = s.os) (u : Un (frs X.stack) ch H H' s.heap s'.heap) (hok : HOk X.prog X.w H' s'.heap) (hg : AllBare s'.gens)
    (hch : ∀ b ∈ ch, (b ∈ X.ex ∨ X.s₀.heap.objs.size ≤ b) ∧ b ≠ X.env.locals ∧ (∀ x c, X.env.cells.lookup x = some c → c ≠ b) ∧ ∀ p ∈ X.pn ++ pins, p.1 ≠ b) : Inv X pins σ H' s' := by
  obtain ⟨h', g', d', t', o'⟩ := s'
  have e : o' = s.os := ho
  subst e
  exact I.call (g' := g') (t' := t') (d' := d') u hok hg hch
end
/-- an exception: its class, its own dict's address (where it has one), the abstract heap behind it -/
abbrev XK := Value → Option Addr → Hp → Prop
abbrev St := List (Option V)
abbrev VK := V → Hp → Prop
/-- an expression's reading; a test's; an argument list's -/
abbrev TE := St → Hp → VK → Prop
abbrev TT := St → Hp → (Bool → Hp → Prop) → Prop
abbrev TA := St → Hp → (List V → Hp → Prop) → Prop
/-- what is wanted behind a statement -/
structure Ends where
  nx : St → Hp → Prop
  rt : VK
  bk : St → Hp → Prop := fun _ _ => False
  ct : St → Hp → Prop := fun _ _ => False
abbrev TS := Ends → St → Hp → Prop
def EP (X : Cx) (pins : List (Addr × Obj)) (σ : St) (Q : VK) (u : Value) (s' : Shared) : Prop := ∃ v H', Inv X pins σ H' s' ∧ RelV v u ∧ Q v H'
def TP (X : Cx) (pins : List (Addr × Obj)) (σ : St) (Q : Bool → Hp → Prop) (b : Bool) (s' : Shared) : Prop := ∃ H', Inv X pins σ H' s' ∧ Q b H'
def AP (X : Cx) (pins : List (Addr × Obj)) (σ : St) (Q : List V → Hp → Prop) (us : List Value) (s' : Shared) : Prop := ∃ vs H', Inv X pins σ H' s' ∧ Vals vs us ∧ Q vs H'
def SP (X : Cx) (pins : List (Addr × Obj)) (D : Ends) (f : Flow) (s' : Shared) : Prop :=
  match f with
  | .next => ∃ σ' H', Inv X pins σ' H' s' ∧ D.nx σ' H'
  | .brk => ∃ σ' H', Inv X pins σ' H' s' ∧ D.bk σ' H'
  | .cont => ∃ σ' H', Inv X pins σ' H' s' ∧ D.ct σ' H'
  | .ret u => ∃ v σ' H', Inv X pins σ' H' s' ∧ RelV v u ∧ D.rt v H'
def PE (X : Cx) (e : Expr) (t : TE) : Prop :=
  ∀ (pins : List (Addr × Obj)) (s : Shared) (σ : St) (H : Hp) (Q : VK), Inv X pins σ H s → t σ H Q → wpAny (model X.prog X.w) X.A (eval e X.env) (EP X pins σ Q) X.xe s
def PT (X : Cx) (e : Expr) (t : TT) : Prop :=
  ∀ (pins : List (Addr × Obj)) (s : Shared) (σ : St) (H : Hp) (Q : Bool → Hp → Prop), Inv X pins σ H s → t σ H Q → wpAny (model X.prog X.w) X.A (isTrue e X.env (eval e X.env)) (TP X pins σ Q) X.xe s
/-- a test whatever its 'whole' is (and, or) -/
def PW (X : Cx) (e : Expr) (t : TT) : Prop :=
  ∀ (whole : Sem Value) (pins : List (Addr × Obj)) (s : Shared) (σ : St) (H : Hp) (Q : Bool → Hp → Prop), Inv X pins σ H s → t σ H Q → wpAny (model X.prog X.w) X.A (isTrue e X.env whole) (TP X pins σ Q) X.xe s
theorem PW.pt {X : Cx} {e : Expr} {t : TT} (h : PW X e t) : PT X e t := h _
/-- an argument list (no star), from the left -/
def PA (X : Cx) (es : List Expr) (t : TA) : Prop :=
  ∀ (pos : Pos) (pins : List (Addr × Obj)) (s : Shared) (σ : St) (H : Hp) (Q : List V → Hp → Prop), Inv X pins σ H s → t σ H Q → wpAny (model X.prog X.w) X.A (spliced (backTo pos (starEach es X.env))) (AP X pins σ Q) X.xe s
def PS (X : Cx) (st : Stmt) (t : TS) : Prop :=
  ∀ (pins : List (Addr × Obj)) (s : Shared) (σ : St) (H : Hp) (D : Ends), Inv X pins σ H s → t D σ H → wpAny (model X.prog X.w) X.A (exec st X.env) (SP X pins D) X.xe s
def PSs (X : Cx) (st : List Stmt) (t : TS) : Prop :=
  ∀ (pins : List (Addr × Obj)) (s : Shared) (σ : St) (H : Hp) (D : Ends), Inv X pins σ H s → t D σ H → wpAny (model X.prog X.w) X.A (execs st X.env) (SP X pins D) X.xe s
/-- weaken the end -/
theorem thn {α : Type} {t : Sem α} {Q Q' : α → Shared → Prop} {M : Model} {A : Around} {E : Value → Shared → Prop} {s : Shared} (h : wpAny M A t Q E s) (hQ : ∀ a s, Q a s → Q' a s) : wpAny M A t Q' E s := wpAny_mono h hQ fun _ _ x => x
end L2
namespace L2
open PySem PySem.Spec PyProof.Rows
section
variable {X : Cx}
def tVar (i : Nat) : TE := fun σ H Q => ∃ v, σ[i]? = some (some v) ∧ Q v H
def tC (v : V) : TE := fun _ H Q => Q v H
theorem pe_var {i : Nat} {x : Str} {pos : Pos} (hN : X.N[i]? = some x) (hv : Vis X.env.scope x) (hd : (x == ("__debug__" : Str)) = false := by decide) (hcd : (x == ("__classdict__" : Str)) = false := by decide) : PE X (.Name x pos) (tVar i) := by
  intro pins s σ H Q I h
  obtain ⟨v, e, h⟩ := h
  obtain ⟨m, hn, hl⟩ := I.loc
  obtain ⟨u, r, l⟩ := hl i x v hN e hv
  have fin : EP X pins σ Q u s := ⟨v, H, I, r, h⟩
  rcases l with ⟨hk, hm⟩ | ⟨hk, c, hc, hcell⟩
  · exact wpAny_Name (wpAny_loadName_local I.ok.kind hk hn hm fin) hd
  · rcases hk with hk | hk
    · exact wpAny_Name (wpAny_loadName_cell I.ok.kind hk hc hcell fin) hd
    · exact wpAny_Name (wpAny_loadName_free I.ok.kind hk hc hcell fin hcd) hd
theorem pe_int {i j pos} : PE X (.Constant (.int i) j pos) (tC (.int i)) := fun _ _ _ H _ I h => wpAny_Constant_int ⟨.int i, H, I.tok _, ⟨_, rfl⟩, h⟩
/-- a global name of the def -/
def Gl (X : Cx) (x : Str) : Prop := X.env.kindOf x = some .globalImplicit
theorem ld_glob {E : Value → Shared → Prop} {pins : List (Addr × Obj)} {s : Shared} {σ : St} {H : Hp} {x : Str} {u : Value} {pos : Pos} {Q : Value → Shared → Prop} (I : Inv X pins σ H s) (hg : Gl X x) (hm : X.mg x = some u) (h : Q u s)
    (hd : (x == ("__debug__" : Str)) = false := by decide) : wpAny (model X.prog X.w) X.A (eval (.Name x pos) X.env) Q E s :=
  Calls.Name_function_global I.ok.kind hg (Calls.loadGlobal_global (by rw [I.ok.glob]; exact I.mod.glob.keeps I.bk) hm h) hd
theorem ld_blt {E : Value → Shared → Prop} {pins : List (Addr × Obj)} {s : Shared} {σ : St} {H : Hp} {x : Str} {u : Value} {pos : Pos} {Q : Value → Shared → Prop} (I : Inv X pins σ H s) (hg : Gl X x) (hm : X.mg x = none) (hv : bootBuiltins x = some u) (h : Q u s)
    (hn : x ≠ "__name__" := by decide) (hd : (x == ("__debug__" : Str)) = false := by decide) : wpAny (model X.prog X.w) X.A (eval (.Name x pos) X.env) Q E s := by
  obtain ⟨mb, h1, h2⟩ := I.mod.blt
  exact Calls.Name_function_global I.ok.kind hg (Calls.loadGlobal_builtin (by rw [I.ok.glob]; exact I.mod.glob.keeps I.bk) hm (by rw [I.ok.blt]; exact h1.keeps I.bk) ((h2 x hn).trans hv) h) hd
/-- a module's constant, a class, a function, as a value -/
theorem pe_glob {x : Str} {v : V} {u : Value} {pos : Pos} (hg : Gl X x) (hm : X.mg x = some u) (r : RelV v u) (hd : (x == ("__debug__" : Str)) = false := by decide) : PE X (.Name x pos) (tC v) :=
  fun _ _ _ H _ I h => ld_glob I hg hm ⟨v, H, I, r, h⟩ hd
variable {a b : Expr} {ta tb : TE} {pos : Pos}
variable {tA tB' : TT} {rest : List Expr}
def tOr (t u : TT) : TT := fun σ H Q => t σ H fun c H1 => if c = true then Q true H1 else u σ H1 Q
def tNot (t : TT) : TT := fun σ H Q => t σ H fun c H1 => Q (!c) H1
theorem pw_or1 (ha : PT X a tA) : PW X (.BoolOp .Or [a] pos) tA := by
  intro wh pins s σ H Q I h
  refine isTrue_or (thn (ha pins s σ H Q I h) fun c s1 e => ?_)
  cases c with
  | false => exact isTrue_or_nil e
  | true => exact e
theorem pw_or (ha : PT X a tA) (hb : PW X (.BoolOp .Or (b :: rest) pos) tB') : PW X (.BoolOp .Or (a :: b :: rest) pos) (tOr tA tB') := by
  intro wh pins s σ H Q I h
  refine isTrue_or (thn (ha pins s σ H _ I h) fun c s1 ⟨H1, I1, q1⟩ => ?_)
  cases c with
  | true => exact ⟨H1, I1, q1⟩
  | false => exact hb wh pins s1 σ H1 Q I1 q1
theorem pt_not (ha : PT X a tA) : PT X (.UnaryOp .Not a pos) (tNot tA) := by
  intro pins s σ H Q I h
  exact isTrue_not (ha pins s σ H (fun c H1 => Q (!c) H1) I h)
/-- a if t else b -/
def tIf (t : TT) (ta tb : TE) : TE := fun σ H Q => t σ H fun c H1 => if c = true then ta σ H1 Q else tb σ H1 Q
theorem pe_ifExp {c : Expr} (hc : PT X c tA) (ha : PE X a ta) (hb : PE X b tb) : PE X (.IfExp c a b pos) (tIf tA ta tb) := by
  intro pins s σ H Q I h
  refine wpAny_IfExp (thn (hc pins s σ H _ I h) fun d s1 ⟨H1, I1, q1⟩ => ?_)
  cases d with
  | true => exact ha pins s1 σ H1 Q I1 q1
  | false => exact hb pins s1 σ H1 Q I1 q1
end
end L2
namespace L2
open PySem PySem.Spec PyProof.Rows
def SqL (K : PySem.W.Frag) (H : Hp) (a : Addr) (xs : List V) : Prop :=
  Rd H a (.lst xs) ∨
    ∃ (o : Obj) (its : Array Value) (n : Nat), K.lookup a = some o ∧ o.cls = .type "list" ∧ o.dict = none ∧ o.data = .seq its n ∧ its.size ≤ sizeLine ∧ Vals xs its.toList
def SqT (K : PySem.W.Frag) (H : Hp) (a : Addr) (xs : List V) : Prop :=
  Rd H a (.tup xs) ∨
    ∃ (o : Obj) (its : Array Value) (n : Nat), K.lookup a = some o ∧ o.cls = .type "tuple" ∧ o.data = .seq its n ∧ its.size ≤ sizeLine ∧ Vals xs its.toList
def absV : Value → Option V
  | .none => some .non
  | .bool b => some (.bl b)
  | .int i _ => some (.int i)
  | .str x _ => some (.str x)
  | .bytes b _ => some (.byt b)
  | .float b _ => some (.flt b)
  | .ref a => some (.ref a)
  | .type n => some (.ty n)
  | _ => none
theorem RelV.abs {x : V} {u : Value} (r : RelV x u) : absV u = some x := by
  cases x with
  | non => cases r; rfl
  | bl _ => cases r; rfl
  | int _ => obtain ⟨t, rfl⟩ := r; rfl
  | str _ => obtain ⟨t, rfl⟩ := r; rfl
  | byt _ => obtain ⟨t, rfl⟩ := r; rfl
  | flt _ => obtain ⟨t, rfl⟩ := r; rfl
  | ref _ => cases r; rfl
  | ty _ => cases r; rfl
theorem RelV.inj {x y : V} {u : Value} (r : RelV x u) (q : RelV y u) : x = y := Option.some.inj (r.abs.symm.trans q.abs)
theorem Vals.inj : ∀ {xs ys : List V} {us : List Value}, Vals xs us → Vals ys us → xs = ys
  | _, _, _, .nil, .nil => rfl
  | _, _, _, .cons r t, .cons r' t' => by rw [r.inj r', Vals.inj t t']
section
variable {X : Cx} {pins : List (Addr × Obj)} {σ : St} {H : Hp} {s : Shared} {a : Addr} {xs ys : List V}
theorem SqL.of {K : PySem.W.Frag} (h : H a = some (.lst xs)) : SqL K H a xs := .inl (.inl h)
theorem Inv.list (I : Inv X pins σ H s) (h : SqL X.K H a xs) : ∃ its : List Value, Vals xs its ∧ PlainL s.heap a its.toArray ∧ xs.length ≤ sizeLine := by
  rcases h with h | ⟨o, its, n, hk, hc, hd, hs, hz, r⟩
  · obtain ⟨z, its, n, r, e⟩ := h.ok I.hok
    exact ⟨its, r, ⟨_, n, e, rfl, rfl, rfl⟩, z⟩
  · refine ⟨its.toList, r, ⟨o, n, I.kIn a o hk, hc, hd, by simpa using hs⟩, ?_⟩
    have e := r.length
    simp only [Array.length_toList] at e
    omega
theorem Inv.tuple (I : Inv X pins σ H s) (h : SqT X.K H a xs) : ∃ its : List Value, Vals xs its ∧ IsTup s.heap a its.toArray ∧ xs.length ≤ sizeLine := by
  rcases h with h | ⟨o, its, n, hk, hc, hs, hz, r⟩
  · obtain ⟨z, its, r, p⟩ := h.ok I.hok
    exact ⟨its, r, p, z⟩
  · refine ⟨its.toList, r, ⟨o, I.kIn a o hk, hc, n, by simpa using hs⟩, ?_⟩
    have e := r.length
    simp only [Array.length_toList] at e
    omega
theorem Inv.list_inj (I : Inv X pins σ H s) (h : SqL X.K H a xs) (h' : SqL X.K H a ys) : xs = ys := by
  obtain ⟨its, r, ⟨o, n, e, _, _, d⟩, _⟩ := I.list h
  obtain ⟨its', r', ⟨o', n', e', _, _, d'⟩, _⟩ := I.list h'
  rw [e] at e'; cases e'
  rw [d] at d'
  injection d' with d1 _
  have : its = its' := by simpa using congrArg Array.toList d1
  subst this
  exact r.inj r'
end
abbrev Cx.wish (X : Cx) (E : Value → Shared → Prop) : Cx := { X with xe := E }
theorem Cx.Ok.wish {X : Cx} (ok : X.Ok) (E : Value → Shared → Prop) : (X.wish E).Ok :=
  ⟨ok.mod, ok.kind, ok.glob, ok.blt, ok.above, ok.inj, ok.has, ok.cab, ok.hd, ok.frames, ok.stk, ok.exf, ok.bs, ok.bsz, ok.noex, ok.exfs, ok.funs, ok.frf⟩
theorem Cx.Ok.unwish {X : Cx} {E : Value → Shared → Prop} (ok : (X.wish E).Ok) : X.Ok :=
  ⟨ok.mod, ok.kind, ok.glob, ok.blt, ok.above, ok.inj, ok.has, ok.cab, ok.hd, ok.frames, ok.stk, ok.exf, ok.bs, ok.bsz, ok.noex, ok.exfs, ok.funs, ok.frf⟩
section
variable {X : Cx} {pins : List (Addr × Obj)} {σ : St} {H : Hp} {s : Shared} {E : Value → Shared → Prop}
theorem Inv.wish (I : Inv X pins σ H s) (E : Value → Shared → Prop) : Inv (X.wish E) pins σ H s := ⟨I.ok.wish E, I.os, I.bare, I.base, I.loc, I.cell, I.free, I.freeC, I.pin, I.hok, I.len⟩
theorem Inv.unwish (I : Inv (X.wish E) pins σ H s) : Inv X pins σ H s := ⟨I.ok.unwish, I.os, I.bare, I.base, I.loc, I.cell, I.free, I.freeC, I.pin, I.hok, I.len⟩
theorem SP.unwish {D : Ends} {f : Flow} {s' : Shared} (h : SP (X.wish E) pins D f s') : SP X pins D f s' := by
  cases f with
  | next => obtain ⟨σ', H', I, q⟩ := h; exact ⟨σ', H', I.unwish, q⟩
  | brk => obtain ⟨σ', H', I, q⟩ := h; exact ⟨σ', H', I.unwish, q⟩
  | cont => obtain ⟨σ', H', I, q⟩ := h; exact ⟨σ', H', I.unwish, q⟩
  | ret u => obtain ⟨v, σ', H', I, r, q⟩ := h; exact ⟨v, σ', H', I.unwish, r, q⟩
end
section
variable {X : Cx} {st : Stmt} {rest : List Stmt} {t u : TS} {e : Expr} {te : TE} {pos : Pos}
def tNext : TS := fun D σ H => D.nx σ H
def tSeq (t u : TS) : TS := fun D σ H => t { D with nx := u D } σ H
theorem pss_nil : PSs X [] tNext := fun _ _ σ H _ I h => wpAny_execs_nil ⟨σ, H, I, h⟩
theorem pss_cons (h1 : PS X st t) (h2 : PSs X rest u) : PSs X (st :: rest) (tSeq t u) := by
  intro pins s σ H D I h
  refine wpAny_execs_cons (thn (h1 pins s σ H { D with nx := u D } I h) fun f s1 q => ?_)
  cases f with
  | next =>
    obtain ⟨σ', H', I', q⟩ := q
    exact h2 pins s1 σ' H' D I' q
  | ret v => exact q
  | brk => exact q
  | cont => exact q
theorem pss_one (h1 : PS X st t) : PSs X [st] t := by
  intro pins s σ H D I h
  refine wpAny_execs_cons (thn (h1 pins s σ H D I h) fun f s1 q => ?_)
  cases f with
  | next => exact wpAny_execs_nil q
  | ret v => exact q
  | brk => exact q
  | cont => exact q
/-- in a def's body nothing is shown -/
theorem Inv.quiet {pins : List (Addr × Obj)} {σ : St} {H : Hp} {s : Shared} (I : Inv X pins σ H s) : interactive X.env = false := by simp [interactive, I.ok.kind]
/-- an expression whose value is dropped -/
def tDrop (te : TE) : TS := fun D σ H => te σ H fun _ H1 => D.nx σ H1
theorem ps_expr (he : PE X e te) (hs : swapsWith e none pos.line X.env = pure false := by rfl) : PS X (.Expr e pos) (tDrop te) := by
  intro pins s σ H D I h
  exact wpAny_Expr_any (thn (he pins s σ H _ I h) fun v s1 ⟨x, H1, I1, r1, q1⟩ => ⟨σ, H1, I1, q1⟩) I.quiet hs
def tRet (te : TE) : TS := fun D σ H => te σ H D.rt
theorem ps_ret (he : PE X e te) : PS X (.Return (some e) pos) (tRet te) := by
  intro pins s σ H D I h
  exact wpAny_Return_some (thn (he pins s σ H _ I h) fun v s1 ⟨x, H1, I1, r1, q1⟩ => ⟨x, σ, H1, I1, r1, q1⟩)
def tIfS (c : TT) (t u : TS) : TS := fun D σ H => c σ H fun b H1 => if b = true then t D σ H1 else u D σ H1
theorem ps_if {c : Expr} {a b : List Stmt} {tc : TT} (hc : PT X c tc) (ha : PSs X a t) (hb : PSs X b u) : PS X (.If c a b pos) (tIfS tc t u) := by
  intro pins s σ H D I h
  refine wpAny_If (thn (hc pins s σ H _ I h) fun d s1 ⟨H1, I1, q1⟩ => ?_)
  cases d with
  | true => exact ha pins s1 σ H1 D I1 q1
  | false => exact hb pins s1 σ H1 D I1 q1
end
abbrev TG := V → St → Hp → (St → Hp → Prop) → Prop
def PG (X : Cx) (target : Expr) (t : TG) : Prop :=
  ∀ (pins : List (Addr × Obj)) (s : Shared) (σ : St) (H : Hp) (v : V) (u : Value) (Q : St → Hp → Prop), Inv X pins σ H s → RelV v u → t v σ H Q →
    wpAny (model X.prog X.w) X.A (assign target X.env u) (fun _ s' => ∃ σ' H', Inv X pins σ' H' s' ∧ Q σ' H') X.xe s
/-- o[i] = v, by values -/
abbrev TSet := V → V → V → Hp → (Hp → Prop) → Prop
def PSet (X : Cx) (t : TSet) : Prop :=
  ∀ (pins : List (Addr × Obj)) (s : Shared) (σ : St) (H : Hp) (o i v : V) (ov iv u : Value) (Q : Hp → Prop), Inv X pins σ H s → RelV o ov → RelV i iv → RelV v u → t o i v H Q →
    wpAny (model X.prog X.w) X.A (setItem ov iv u) (fun _ s' => ∃ H', Inv X pins σ H' s' ∧ Q H') X.xe s
section
variable {X : Cx} {pos : Pos}
def gName (i : Nat) : TG := fun v σ H Q => Q (σ.set i (some v)) H
theorem pg_name {i : Nat} {x : Str} (hN : X.N.Nodup) (hi : X.N[i]? = some x) (hx : Loc X.env.scope x) (hf : X.fn x = true ∨ X.env.scope.names.lookup x = some .local := by first | exact .inl rfl | exact .inr rfl | assumption) : PG X (.Name x pos) (gName i) := by
  intro pins s σ H v u Q I r h
  exact wpAny_assign_Name (store_ok I hN hi hx r (fun s' I' => ⟨_, H, I', h⟩) hf)
/-- o[i] = .. -/
def gSub (to ti : TE) (t : TSet) : TG := fun v σ H Q => to σ H fun o H1 => ti σ H1 fun i H2 => t o i v H2 fun H3 => Q σ H3
theorem pg_sub {o i : Expr} {to ti : TE} {t : TSet} (ho : PE X o to) (hi : PE X i ti) (hs : PSet X t)
    (ha : ∀ v, assign (.Subscript o i pos) X.env v = (do
      let ov ← holding [v] (eval o X.env)
      let iv ← holding [v, ov] (eval i X.env)
      standAt pos
      holding [v, ov, iv] (setItem ov iv v)
      release [v, ov, iv] []) := by intro _; rfl) : PG X (.Subscript o i pos) (gSub to ti t) := by
  intro pins s σ H v u Q I r h
  rw [ha]
  refine wpAny_bind (wpAny_holding (thn (ho pins s σ H _ I h) fun ov s1 ⟨x, H1, I1, r1, q1⟩ => ?_))
  refine wpAny_bind (wpAny_holding (thn (hi pins s1 σ H1 _ I1 q1) fun iv s2 ⟨y, H2, I2, r2, q2⟩ => ?_))
  refine wpAny_bind (wpAny_standAt (wpAny_bind (wpAny_holding (thn (hs pins s2 σ H2 x y v ov iv u _ I2 r1 r2 r q2) fun _ s3 ⟨H3, I3, q3⟩ => ?_))))
  exact wpAny_release ⟨σ, H3, I3, q3⟩
/-- target = value -/
def tAsg (te : TE) (g : TG) : TS := fun D σ H => te σ H fun x H1 => g x σ H1 D.nx
theorem ps_asg {tg e : Expr} {te : TE} {g : TG} (he : PE X e te) (hg : PG X tg g) (hs : swapsWithSole [tg] e pos.line X.env = pure false := by rfl) (hw : swappedStores [tg] e X.env = pure none := by rfl)
    (h1 : (assignEach [tg] X.env).map (·.2) = [assign tg X.env] := by rfl) : PS X (.Assign [tg] e pos) (tAsg te g) := by
  intro pins s σ H D I h
  refine wpAny_Assign_stores (thn (he pins s σ H _ I h) fun v s1 ⟨x, H1, I1, r1, q1⟩ => ?_) hs hw
  rw [h1]
  exact thn (hg pins s1 σ H1 x v _ I1 r1 q1) fun _ s2 q => q
/-- name = value -/
theorem ps_set {i : Nat} {x : Str} {e : Expr} {te : TE} {pos' : Pos} (hN : X.N.Nodup) (hi : X.N[i]? = some x) (hx : Loc X.env.scope x) (he : PE X e te) (hs : swapsWith e (some (.Name x pos')) pos.line X.env = pure false := by rfl) (hf : X.fn x = true ∨ X.env.scope.names.lookup x = some .local := by first | exact .inl rfl | exact .inr rfl | assumption) :
    PS X (.Assign [.Name x pos'] e pos) (tAsg te (gName i)) := by
  intro pins s σ H D I h
  refine wpAny_Assign_Name (thn (he pins s σ H _ I h) fun v s1 ⟨y, H1, I1, r1, q1⟩ => ?_) hs
  exact store_ok I1 hN hi hx r1 (fun s2 I2 => ⟨_, H1, I2, q1⟩) hf
end
section
variable {X : Cx} {pos : Pos}
/-- the invariant W with its measure -/
def tWhile (c : TT) (tb : TS) : TS := fun D σ H => ∃ W : Nat → St → Hp → Prop, (∃ m, W m σ H) ∧ ∀ m σ H, W m σ H →
  c σ H fun b H1 => if b = true then ∃ N : St → Hp → Prop, (∀ σ' H', N σ' H' → ∃ m', m' < m ∧ W m' σ' H') ∧ tb { D with nx := N, ct := N, bk := D.nx } σ H1 else D.nx σ H1
theorem ps_while {c : Expr} {body : List Stmt} {tc : TT} {tb : TS} (hp : PassesOwn (model X.prog X.w) X.A X.env X.xe) (hc : PT X c tc) (hb : PSs X body tb) : PS X (.While c body [] pos) (tWhile tc tb) := by
  intro pins s σ H D I h
  obtain ⟨W, ⟨m0, w0⟩, turn⟩ := h
  refine wpAny_While (codeAny_whileLoop (fun n s' => ∃ σ' H', Inv X pins σ' H' s' ∧ W n σ' H') ?_ m0 ⟨σ, H, I, w0⟩)
  rintro n s1 ⟨σ1, H1, I1, w1⟩
  refine wpAny_passesOwn hp (thn (hc pins s1 σ1 H1 _ I1 (turn n σ1 H1 w1)) fun b s2 ⟨H2, I2, q2⟩ => ?_)
  cases b with
  | true =>
    obtain ⟨N, hN, q2⟩ := q2
    rw [if_pos rfl]
    refine wpAny_passesOwn hp (thn (hb pins s2 σ1 H2 _ I2 q2) fun f s3 q3 => ?_)
    cases f with
    | next =>
      obtain ⟨σ3, H3, I3, n3⟩ := q3
      obtain ⟨m', hm, w3⟩ := hN σ3 H3 n3
      exact ⟨m', hm, σ3, H3, I3, w3⟩
    | cont =>
      obtain ⟨σ3, H3, I3, n3⟩ := q3
      obtain ⟨m', hm, w3⟩ := hN σ3 H3 n3
      exact ⟨m', hm, σ3, H3, I3, w3⟩
    | brk => exact q3
    | ret v => exact q3
  | false =>
    rw [if_neg Bool.false_ne_true]
    exact wpAny_execs_nil ⟨σ1, H2, I2, q2⟩
end
/-- at turn i: it yields x (the heap may grow), or it stops -/
structure It where
  go : Nat → Hp → Prop
  yld : Nat → Hp → V → Hp → Prop
  stop : Nat → Hp → Prop
/-- the iterator's own objects may turn: they are not the frame's, not pinned, younger than the entry (or a comprehension's own) -/
def FpOk (X : Cx) (pins : List (Addr × Obj)) (H : Hp) (b : Addr) : Prop :=
  H b = none ∧ b ≠ X.env.locals ∧ b ∉ X.fs ∧ (b ∈ X.ex ∨ X.s₀.heap.objs.size ≤ b) ∧ (∀ x c, X.env.cells.lookup x = some c → c ≠ b) ∧ ∀ p ∈ X.pn ++ pins, p.1 ≠ b
theorem Inv.fpOk {X : Cx} {pins : List (Addr × Obj)} {σ : St} {H H' : Hp} {s : Shared} {b : Addr} (I : Inv X pins σ H s) (hb : s.heap.objs.size ≤ b) (hn : H' b = none) : FpOk X pins H' b := by
  refine ⟨hn, Nat.ne_of_gt (Nat.lt_of_lt_of_le I.lt hb), I.nofs hb, .inr (Nat.le_trans I.sz hb), fun x c e z => ?_, fun p hp z => ?_⟩
  · obtain ⟨v, q⟩ := I.cell x c e
    exact absurd (Nat.lt_of_lt_of_le q.lt (by rw [z]; exact hb)) (Nat.lt_irrefl _)
  · exact absurd (Nat.lt_of_lt_of_le (Heap.lt_size (I.pin p hp).1) (by rw [z]; exact hb)) (Nat.lt_irrefl _)
structure Turn (P : Program) (w : World) (K : PySem.W.Frag) (tg : Expr) (J : It) (fp : List Addr) (it : Addr) (tn : Nat → Heap → Prop) : Prop where
  mem : it ∈ fp
  obj : ∀ i h, tn i h → ∀ b ∈ fp, ∃ o, h.get? b = some o ∧ ∀ v, o.data ≠ .cell v
  keep : ∀ i h h', tn i h → (∀ b ∈ fp, ∀ o, h.get? b = some o → h'.get? b = some o) → tn i h'
  item : ∀ (X : Cx), X.prog = P → X.w = w → X.K = K → X.calm = true → ∀ (i : Nat) (pins : List (Addr × Obj)) (s : Shared) (σ : St) (H : Hp) (E : Value → Shared → Prop), Inv X pins σ H s → (∀ b ∈ fp, FpOk X pins H b) → tn i s.heap → J.go i H →
    wpAny (model P w) X.A (pyNext (.ref it)) (fun r s1 => ∃ u, r = some u ∧
      wpAny (model P w) X.A (letOwnedTupleGo tg (.ref it) u) (fun _ s2 => ∃ x H', Inv X pins σ H' s2 ∧ RelV x u ∧ J.yld i H x H' ∧ tn (i + 1) s2.heap ∧ ∀ b ∈ fp, H' b = none) E s1) E s
  done : ∀ (X : Cx), X.prog = P → X.w = w → X.K = K → X.calm = true → ∀ (i : Nat) (pins : List (Addr × Obj)) (s : Shared) (σ : St) (H : Hp) (E : Value → Shared → Prop), Inv X pins σ H s → (∀ b ∈ fp, FpOk X pins H b) → tn i s.heap → J.stop i H →
    wpAny (model P w) X.A (pyNext (.ref it)) (fun r s1 => r = none ∧ Inv X pins σ H s1) E s
  self : ∀ (A : Around) (i : Nat) (s : Shared) (Q : Value → Shared → Prop) (E : Value → Shared → Prop), tn i s.heap → Q (.ref it) s → wpAny (model P w) A (pyIter (.ref it)) Q E s
abbrev TI := St → Hp → (It → Hp → Prop) → Prop
/-- an iterator has come -/
def PIE (X : Cx) (pins : List (Addr × Obj)) (σ : St) (tg : Expr) (R : It → Hp → Prop) (itv : Value) (s2 : Shared) : Prop :=
  ∃ (it : Addr) (fp : List Addr) (tn : Nat → Heap → Prop) (J : It) (H' : Hp), itv = .ref it ∧ Inv X pins σ H' s2 ∧ Turn X.prog X.w X.K tg J fp it tn ∧ tn 0 s2.heap ∧ (∀ b ∈ fp, FpOk X pins H' b) ∧ R J H'
def PI (X : Cx) (tg iter : Expr) (wi : TI) : Prop :=
  ∀ (pins : List (Addr × Obj)) (s : Shared) (σ : St) (H : Hp) (R : It → Hp → Prop), Inv X pins σ H s → wi σ H R →
    wpAny (model X.prog X.w) X.A (eval iter X.env) (fun v s1 => wpAny (model X.prog X.w) X.A (pyIter v) (PIE X pins σ tg R) X.xe s1) X.xe s
/-- the step ahead of the store is nothing for an iterator that keeps no tuple -/
theorem go_of {M : Model} {A : Around} {E : Value → Shared → Prop} {s : Shared} {tg : Expr} {it : Addr} {u : Value} {o : Obj} {n : String} {vs : Array Value} {Q : Unit → Shared → Prop} (ho : s.heap.get? it = some o) (hc : o.cls = .type n) (hd : o.data = .fields vs)
    (hn : ["enumerate", "zip", "dict_itemiterator", "dict_reverseitemiterator", "odict_iterator", "itertools.zip_longest", "itertools.pairwise"].contains n = false) (hQ : Q () s) : wpAny M A (letOwnedTupleGo tg (.ref it) u) Q E s := by
  unfold letOwnedTupleGo
  cases tg <;> first
    | exact wpAny_pure hQ
    | (cases u <;> first
        | exact wpAny_pure hQ
        | (refine wpAny_bind (wpAny_load ho ?_)
           rw [hc, hd]
           show wpAny M A (if (["enumerate", "zip", "dict_itemiterator", "dict_reverseitemiterator", "odict_iterator", "itertools.zip_longest", "itertools.pairwise"].contains n && vs[0]? == some (rawInt _)) = true then _ else _) Q E s
           rw [if_neg (by intro h; rw [hn, Bool.false_and] at h; cases h)]
           exact wpAny_pure hQ))
/-- the list at a, as it stands at each turn (a loop may append to it) -/
def Itl (K : PySem.W.Frag) (a : Addr) : It :=
  ⟨fun i H => ∃ xs x, SqL K H a xs ∧ xs[i]? = some x, fun i H x H' => H' = H ∧ ∀ xs, SqL K H a xs → xs[i]? = some x, fun i H => ∃ xs, SqL K H a xs ∧ xs.length ≤ i⟩
/-- lo, lo + 1, .. (n of them) -/
def Itr (lo : Int) (n : Nat) : It := ⟨fun i _ => i < n, fun i H x H' => H' = H ∧ x = .int (lo + i), fun i _ => n ≤ i⟩
theorem turn_list {P : Program} {w : World} {K : PySem.W.Frag} {tg : Expr} (a it : Addr) : Turn P w K tg (Itl K a) [it] it (fun i h => h.IsListIter it a i) where
  mem := by simp
  obj := fun i h st b hb => by
    have e : b = it := by simpa using hb
    subst e
    obtain ⟨o, e, c, d⟩ := st
    exact ⟨o, e, fun v z => by rw [d] at z; cases z⟩
  keep := fun i h h' st k => st.at fun o e => k it (by simp) o e
  item := by
    intro X hP hw hK hc i pins s σ H E I hf st hg
    subst hP hw hK
    obtain ⟨xs, x, hq, hx⟩ := hg
    obtain ⟨its, rv, p, hz⟩ := I.list hq
    obtain ⟨u, hu, ru⟩ := rv.get hx
    obtain ⟨f0, f1, f2, f3, f4, f5⟩ := hf it (by simp)
    refine wpAny_pyNext_list_item st p.isList (x := u) (by simpa using hu) fun h' st' sb => ?_
    have I1 : Inv X pins σ H { s with heap := h' } := I.turned (t' := s.toks) (fun b o hb e => (sb.2 b hb).trans e) f0 f1 f3 f4 f5
    obtain ⟨o, e, c, d⟩ := id st'
    exact ⟨u, rfl, go_of (s := { s with heap := h' }) e c d (by decide) ⟨x, H, I1, ru, ⟨rfl, fun ys hy => by rw [I.list_inj hy hq]; exact hx⟩, st', fun b hb => (hf b hb).1⟩⟩
  done := by
    intro X hP hw hK hc i pins s σ H E I hf st hg
    subst hP hw hK
    obtain ⟨xs, hq, hx⟩ := hg
    obtain ⟨its, rv, p, hz⟩ := I.list hq
    obtain ⟨f0, f1, f2, f3, f4, f5⟩ := hf it (by simp)
    have hl := rv.length
    exact wpAny_pyNext_list_end (I.ok.hd hc) st p.isList (by simp; omega) fun h' eb => ⟨rfl, I.turned (t' := s.toks) (fun b o hb e => eb b o hb e) f0 f1 f3 f4 f5⟩
  self := fun _ _ _ _ _ st h => wpAny_pyIter_listiter st h
theorem turn_range {P : Program} {w : World} {K : PySem.W.Frag} {tg : Expr} (it : Addr) (lo : Int) (n : Nat) : Turn P w K tg (Itr lo n) [it] it (fun i h => IsRangeIter h it (lo + (i : Nat) * 1) ((n : Int) - (i : Nat)) 1) where
  mem := by simp
  obj := fun i h st b hb => by
    have e : b = it := by simpa using hb
    subst e
    exact ⟨_, st, fun v z => by
      have z' : Data.fields _ = Data.cell v := z
      cases z'⟩
  keep := fun i h h' st k => k it (by simp) _ st
  item := by
    intro X hP hw hK hc i pins s σ H E I hf st hg
    subst hP hw hK
    obtain ⟨f0, f1, f2, f3, f4, f5⟩ := hf it (by simp)
    have W := Walks.range (prog := X.prog) (w := X.w) (I.ok.hd hc) it lo 1 n
    refine W.item i s _ _ hg st fun v h' tk hv st' kk => ?_
    obtain ⟨t, rfl⟩ := hv
    have I1 : Inv X pins σ H { s with heap := h', toks := tk } := I.turned (fun b o hb e => kk b o (by simpa using hb) e) f0 f1 f3 f4 f5
    refine ⟨_, rfl, go_of (s := { s with heap := h', toks := tk }) (n := "range_iterator") st' rfl rfl (by decide) ⟨.int (lo + i), H, I1, ⟨t, ?_⟩, ⟨rfl, rfl⟩, st', fun b hb => (hf b hb).1⟩⟩
    rw [Int.mul_one]
  done := by
    intro X hP hw hK hc i pins s σ H E I hf st hg
    subst hP hw hK
    obtain ⟨f0, f1, f2, f3, f4, f5⟩ := hf it (by simp)
    exact wpAny_pyNext_range_end (I.ok.hd hc) st (by have : n ≤ i := hg; omega) fun h' eb => ⟨rfl, I.turned (t' := s.toks) (fun b o hb e => eb b o hb e) f0 f1 f3 f4 f5⟩
  self := fun _ _ _ _ _ st h => wpAny_pyIter_rangeiter st h
end L2
namespace L2
open PySem PySem.Spec PyProof.Rows
section
variable {X : Cx} {tg : Expr}
def iList (K : PySem.W.Frag) (tl : TE) : TI := fun σ H R => tl σ H fun x H1 => ∃ a, x = .ref a ∧ (∃ xs, SqL K H1 a xs) ∧ R (Itl K a) H1
theorem pi_list {l : Expr} {tl : TE} (hl : PE X l tl) : PI X tg l (iList X.K tl) := by
  intro pins s σ H R I h
  refine thn (hl pins s σ H _ I h) fun v s1 ⟨x, H1, I1, r1, q1⟩ => ?_
  obtain ⟨a, e, ⟨xs, hq⟩, q⟩ := q1
  subst e
  cases r1
  obtain ⟨its, rv, p, hz⟩ := I1.list hq
  refine wpAny_pyIter_list p.isList ?_
  refine ⟨s1.heap.objs.size, [s1.heap.objs.size], _, _, H1, rfl, I1.kept (t' := s1.toks) fun b o e => Heap.get?_push_of_some _ e, turn_list a _, ⟨_, Heap.get?_push_size _ rfl, rfl, rfl⟩, fun b hb => ?_, q⟩
  have e : b = s1.heap.objs.size := by simpa using hb
  subst e
  exact I1.fpOk (Nat.le_refl _) (I1.hok.fresh (Nat.le_refl _))
/-- a range object just made, walked -/
theorem range_it {pins : List (Addr × Obj)} {σ : St} {H : Hp} {s : Shared} {R : It → Hp → Prop} {E : Value → Shared → Prop} {lo hi : Int} {t u v : Tok} {tk : Nat} (I : Inv X pins σ H s) (h1 : -(2 ^ 62) ≤ lo) (h2 : lo < 2 ^ 62) (h3 : -(2 ^ 62) ≤ hi) (h4 : hi < 2 ^ 62)
    (q : R (Itr lo (hi - lo).toNat) H) : wpAny (model X.prog X.w) X.A (pyIter (.ref s.heap.objs.size)) (PIE X pins σ tg R) E { s with heap := s.heap.push { cls := .type "range", data := .fields #[.int lo t, .int hi u, .int 1 v] }, toks := tk } := by
  refine wpAny_pyIter_range (IsRange.new ..) (small_one h1 h2 h3 h4) ?_
  have I1 : Inv X pins σ H { s with heap := s.heap.push { cls := .type "range", data := .fields #[.int lo t, .int hi u, .int 1 v] }, toks := tk } := I.kept fun b o e => Heap.get?_push_of_some _ e
  refine ⟨(s.heap.push { cls := .type "range", data := .fields #[.int lo t, .int hi u, .int 1 v] }).objs.size, [(s.heap.push { cls := .type "range", data := .fields #[.int lo t, .int hi u, .int 1 v] }).objs.size], _, _, H, rfl,
    I1.kept (t' := tk) fun b o e => Heap.get?_push_of_some _ e, turn_range _ lo (hi - lo).toNat, ?_, fun b hb => ?_, q⟩
  · have e1 : lo + ((0 : Nat) : Int) * 1 = lo := by simp
    have e2 : (((hi - lo).toNat : Nat) : Int) - ((0 : Nat) : Int) = Builtin.Range.rangeSize lo hi 1 := by rw [rangeSize_one]; split <;> omega
    show IsRangeIter _ _ (lo + ((0 : Nat) : Int) * 1) ((((hi - lo).toNat : Nat) : Int) - ((0 : Nat) : Int)) 1
    rw [e1, e2]
    exact Heap.get?_push_size _ rfl
  · have e : b = (s.heap.push { cls := .type "range", data := .fields #[.int lo t, .int hi u, .int 1 v] }).objs.size := by simpa using hb
    subst e
    exact I1.fpOk (Nat.le_refl _) (I1.hok.fresh (Nat.le_refl _))
def iRng1 (ta : TA) : TI := fun σ H R => ta σ H fun vs H1 => ∃ j : Int, vs = [.int j] ∧ -(2 ^ 62) ≤ j ∧ j < 2 ^ 62 ∧ R (Itr 0 j.toNat) H1
def iRng2 (ta : TA) : TI := fun σ H R => ta σ H fun vs H1 => ∃ i j : Int, vs = [.int i, .int j] ∧ (-(2 ^ 62) ≤ i ∧ i < 2 ^ 62 ∧ -(2 ^ 62) ≤ j ∧ j < 2 ^ 62) ∧ R (Itr i (j - i).toNat) H1
theorem pi_range1 {a : Expr} {ta : TA} {p pos : Pos} (hg : Gl X "range") (hm : X.mg "range" = none) (ha : PA X [a] ta) (hs : starEach [a] X.env = [(false, eval a X.env)] := by rfl) : PI X tg (.Call (.Name "range" p) [a] [] pos) (iRng1 ta) := by
  intro pins s σ H R I h
  refine Call_ (ld_blt I hg hm boot_range (PyProof.Rows.callWith_type1 (thn (ha pos pins s σ H _ I h) fun us s1 ⟨vs, H1, I1, r1, q1⟩ => ?_) hs rfl))
  obtain ⟨j, e, q1, q2, q⟩ := q1
  subst e
  cases r1 with
  | cons r rr =>
    cases rr
    obtain ⟨t, rfl⟩ := r
    exact call_range_1 (range_it I1 (by omega) (by omega) q1 q2 (by simpa using q))
theorem pi_range2 {a b : Expr} {ta : TA} {p pos : Pos} (hg : Gl X "range") (hm : X.mg "range" = none) (ha : PA X [a, b] ta) (hs : starEach [a, b] X.env = [(false, eval a X.env), (false, eval b X.env)] := by rfl) (hs2 : starEach [b] X.env = [(false, eval b X.env)] := by rfl) :
    PI X tg (.Call (.Name "range" p) [a, b] [] pos) (iRng2 ta) := by
  intro pins s σ H R I h
  refine Call_ (ld_blt I hg hm boot_range (PyProof.Rows.callWith_type1 (thn (ha pos pins s σ H _ I h) fun us s1 ⟨vs, H1, I1, r1, q1⟩ => ?_) (by rw [hs, hs2]) (by rw [hs2]; rfl)))
  obtain ⟨i, j, e, ⟨q1, q2, q3, q4⟩, q⟩ := q1
  subst e
  cases r1 with
  | cons r rr =>
    cases rr with
    | cons r' rr =>
      cases rr
      obtain ⟨t, rfl⟩ := r
      obtain ⟨t', rfl⟩ := r'
      exact call_range_2 (range_it I1 q1 q2 q3 q4 q)
/-- W: the invariant by the turn and a measure; N: what the body is to reach -/
def tFor (wi : TI) (g : TG) (tb : TS) : TS := fun D σ H => wi σ H fun J H1 => ∃ W : Nat → Nat → St → Hp → Prop, (∃ m, W 0 m σ H1) ∧ ∀ i m σ H, W i m σ H →
  (J.stop i H ∧ D.nx σ H) ∨ (J.go i H ∧ ∃ N : St → Hp → Prop, (∀ σ' H', N σ' H' → ∃ m', m' < m ∧ W (i + 1) m' σ' H') ∧ ∀ x H', J.yld i H x H' → g x σ H' fun σ2 H2 => tb { D with nx := N, ct := N, bk := D.nx } σ2 H2)
/-- the records at fp as they stand -/
def pinsAt (fp : List Addr) (h : Heap) : List (Addr × Obj) := fp.filterMap fun b => (h.get? b).map fun o => (b, o)
theorem mem_pinsAt {fp : List Addr} {h : Heap} {b : Addr} {o : Obj} (hb : b ∈ fp) (e : h.get? b = some o) : (b, o) ∈ pinsAt fp h := List.mem_filterMap.mpr ⟨b, hb, by rw [e]; rfl⟩
theorem of_pinsAt {fp : List Addr} {h : Heap} {p : Addr × Obj} (hp : p ∈ pinsAt fp h) : p.1 ∈ fp ∧ h.get? p.1 = some p.2 := by
  obtain ⟨b, hb, e⟩ := List.mem_filterMap.mp hp
  cases q : h.get? b with
  | none => rw [q] at e; cases e
  | some o =>
    rw [q] at e
    have e' : (b, o) = p := Option.some.inj e
    subst e'
    exact ⟨hb, q⟩
theorem Inv.pinned {pins : List (Addr × Obj)} {σ : St} {H : Hp} {s : Shared} {fp : List Addr} (I : Inv X pins σ H s) (hf : ∀ b ∈ fp, FpOk X pins H b) (ho : ∀ b ∈ fp, ∃ o, s.heap.get? b = some o ∧ ∀ v, o.data ≠ .cell v) : Inv X (pins ++ pinsAt fp s.heap) σ H s :=
  I.pins_of fun p hp => (List.mem_append.mp hp).elim (fun z => I.pin p (List.mem_append_right _ z)) fun z => by
    obtain ⟨hb, e⟩ := of_pinsAt z
    obtain ⟨f0, f1, f2, _⟩ := hf p.1 hb
    obtain ⟨o, e', d⟩ := ho p.1 hb
    rw [e] at e'; cases e'
    exact ⟨e, f0, f1, f2, d⟩
theorem Inv.unpinned {pins pl : List (Addr × Obj)} {σ : St} {H : Hp} {s : Shared} (I : Inv X (pins ++ pl) σ H s) : Inv X pins σ H s := I.pins_of fun p hp => I.pin p (List.mem_append_right _ (List.mem_append_left _ hp))
theorem ps_for {iter : Expr} {body : List Stmt} {wi : TI} {g : TG} {tb : TS} {pos : Pos} (hp : PassesOwn (model X.prog X.w) X.A X.env X.xe) (hc : X.calm = true) (hi : PI X tg iter wi) (hg : PG X tg g) (hb : PSs X body tb)
    (hs : ∀ x, foldedSetIterable iter X.env x = pure x := by intro _; rfl) : PS X (.For tg iter body [] pos) (tFor wi g tb) := by
  intro pins s σ H D I h
  refine wpAny_For (thn (hi pins s σ H _ I h) fun v s1 h1 => thn h1 fun itv s2 h2 => ?_) hs
  obtain ⟨it, fp, tn, J, H2, e, I2, T, st2, f2, W, ⟨m0, w0⟩, turn⟩ := h2
  subst e
  -- what stays true of the iterator's objects through the loop
  have stat : ∀ {H' : Hp}, (∀ b ∈ fp, H' b = none) → ∀ b ∈ fp, FpOk X pins H' b := fun hn b hb => ⟨hn b hb, (f2 b hb).2⟩
  refine codeAny_forLoop_any (fun n s' => ∃ i σ' H', Inv X pins σ' H' s' ∧ tn i s'.heap ∧ (∀ b ∈ fp, H' b = none) ∧ W i n σ' H') ?_ m0 ⟨0, σ, H2, I2, st2, fun b hb => (f2 b hb).1, w0⟩
  rintro n s3 ⟨i, σ3, H3, I3, st3, fr3, w3⟩
  rcases turn i n σ3 H3 w3 with ⟨stop, qn⟩ | ⟨go, N, hN, step⟩
  · refine wpAny_passesOwn hp (thn (T.done X rfl rfl rfl hc i pins s3 σ3 H3 X.xe I3 (stat fr3) st3 stop) fun r s4 ⟨hr, I4⟩ => ?_)
    subst hr
    exact wpAny_execs_nil ⟨σ3, H3, I4, qn⟩
  · refine wpAny_passesOwn hp (thn (T.item X rfl rfl rfl hc i pins s3 σ3 H3 X.xe I3 (stat fr3) st3 go) fun r s4 ⟨u, hr, h4⟩ => ?_)
    subst hr
    refine wpAny_passesOwn hp (thn h4 fun _ s5 ⟨x, H5, I5, r5, y5, st5, fr5⟩ => ?_)
    have I5' := I5.pinned (stat fr5) (T.obj _ _ st5)
    refine wpAny_passesOwn hp (thn (hg _ s5 σ3 H5 x u _ I5' r5 (step x H5 y5)) fun _ s6 ⟨σ6, H6, I6, q6⟩ => ?_)
    refine wpAny_passesOwn hp (thn (hb _ s6 σ6 H6 _ I6 q6) fun f s7 q7 => ?_)
    have again : ∀ {σ7 : St} {H7 : Hp}, Inv X (pins ++ pinsAt fp s5.heap) σ7 H7 s7 → N σ7 H7 → ∃ m, m < n ∧ ∃ i σ' H', Inv X pins σ' H' s7 ∧ tn i s7.heap ∧ (∀ b ∈ fp, H' b = none) ∧ W i m σ' H' := fun {σ7 H7} I7 n7 => by
      obtain ⟨m', hm, w7⟩ := hN σ7 H7 n7
      refine ⟨m', hm, i + 1, σ7, H7, I7.unpinned, T.keep _ _ _ st5 fun b hb o e => (I7.pin (b, o) (List.mem_append_right _ (List.mem_append_right _ (mem_pinsAt hb e)))).1, fun b hb => ?_, w7⟩
      obtain ⟨o, e, d⟩ := T.obj _ _ st5 b hb
      exact (I7.pin (b, o) (List.mem_append_right _ (List.mem_append_right _ (mem_pinsAt hb e)))).2.1
    cases f with
    | next => obtain ⟨σ7, H7, I7, n7⟩ := q7; exact again I7 n7
    | cont => obtain ⟨σ7, H7, I7, n7⟩ := q7; exact again I7 n7
    | brk => obtain ⟨σ7, H7, I7, q7⟩ := q7; exact ⟨σ7, H7, I7.unpinned, q7⟩
    | ret v => obtain ⟨x7, σ7, H7, I7, r7, q7⟩ := q7; exact ⟨x7, σ7, H7, I7.unpinned, r7, q7⟩
end
/-- over a list that the body leaves as it is -/
theorem for_list {K : PySem.W.Frag} {a : Addr} {xs : List V} {g : TG} {tb : TS} {D : Ends} {σ : St} {H : Hp} (Pv : Nat → St → Hp → Prop) (h0 : Pv 0 σ H) (hl : ∀ i σ H, i ≤ xs.length → Pv i σ H → SqL K H a xs)
    (hs : ∀ i x σ H, xs[i]? = some x → Pv i σ H → g x σ H fun σ2 H2 => tb { D with nx := Pv (i + 1), ct := Pv (i + 1), bk := D.nx } σ2 H2) (hd : ∀ σ H, Pv xs.length σ H → D.nx σ H) :
    ∃ W : Nat → Nat → St → Hp → Prop, (∃ m, W 0 m σ H) ∧ ∀ i m σ H, W i m σ H →
      ((Itl K a).stop i H ∧ D.nx σ H) ∨ ((Itl K a).go i H ∧ ∃ N : St → Hp → Prop, (∀ σ' H', N σ' H' → ∃ m', m' < m ∧ W (i + 1) m' σ' H') ∧ ∀ x H', (Itl K a).yld i H x H' → g x σ H' fun σ2 H2 => tb { D with nx := N, ct := N, bk := D.nx } σ2 H2) := by
  refine ⟨fun i m σ H => m = xs.length - i ∧ i ≤ xs.length ∧ Pv i σ H, ⟨xs.length, by simp, Nat.zero_le _, h0⟩, ?_⟩
  rintro i m σ H ⟨rfl, hi, p⟩
  have q := hl i σ H hi p
  by_cases hlt : i < xs.length
  · refine .inr ⟨⟨xs, xs[i], q, by simp [hlt]⟩, Pv (i + 1), fun σ' H' p' => ⟨xs.length - (i + 1), by omega, rfl, hlt, p'⟩, fun x H' y => ?_⟩
    obtain ⟨e, y⟩ := y
    subst e
    exact hs i x σ _ (y xs q) p
  · have e : i = xs.length := by omega
    subst e
    exact .inl ⟨⟨xs, q, Nat.le_refl _⟩, hd σ H p⟩
theorem for_range {lo : Int} {n : Nat} {g : TG} {tb : TS} {D : Ends} {σ : St} {H : Hp} (Pv : Nat → St → Hp → Prop) (h0 : Pv 0 σ H)
    (hs : ∀ i σ H, i < n → Pv i σ H → g (.int (lo + i)) σ H fun σ2 H2 => tb { D with nx := Pv (i + 1), ct := Pv (i + 1), bk := D.nx } σ2 H2) (hd : ∀ σ H, Pv n σ H → D.nx σ H) :
    ∃ W : Nat → Nat → St → Hp → Prop, (∃ m, W 0 m σ H) ∧ ∀ i m σ H, W i m σ H →
      ((Itr lo n).stop i H ∧ D.nx σ H) ∨ ((Itr lo n).go i H ∧ ∃ N : St → Hp → Prop, (∀ σ' H', N σ' H' → ∃ m', m' < m ∧ W (i + 1) m' σ' H') ∧ ∀ x H', (Itr lo n).yld i H x H' → g x σ H' fun σ2 H2 => tb { D with nx := N, ct := N, bk := D.nx } σ2 H2) := by
  refine ⟨fun i m σ H => m = n - i ∧ i ≤ n ∧ Pv i σ H, ⟨n, by simp, Nat.zero_le _, h0⟩, ?_⟩
  rintro i m σ H ⟨rfl, hi, p⟩
  by_cases hlt : i < n
  · refine .inr ⟨hlt, Pv (i + 1), fun σ' H' p' => ⟨n - (i + 1), by omega, rfl, hlt, p'⟩, fun x H' y => ?_⟩
    obtain ⟨e, y⟩ := y
    subst e y
    exact hs i σ _ hlt p
  · have e : i = n := by omega
    subst e
    exact .inl ⟨Nat.le_refl _, hd σ H p⟩
/-- while, by a word and a measure of the state -/
theorem while_by {c : TT} {tb : TS} {D : Ends} {σ : St} {H : Hp} (Pv : St → Hp → Prop) (μ : St → Hp → Nat) (h0 : Pv σ H)
    (hs : ∀ σ H, Pv σ H → c σ H fun b H1 => if b = true then tb { D with nx := fun σ' H' => Pv σ' H' ∧ μ σ' H' < μ σ H, ct := fun σ' H' => Pv σ' H' ∧ μ σ' H' < μ σ H, bk := D.nx } σ H1 else D.nx σ H1)
    (mono : ∀ σ H Q Q', (∀ b H1, Q b H1 → Q' b H1) → c σ H Q → c σ H Q') : tWhile c tb D σ H := by
  refine ⟨fun m σ H => m = μ σ H ∧ Pv σ H, ⟨_, rfl, h0⟩, ?_⟩
  rintro m σ H ⟨rfl, p⟩
  refine mono σ H _ _ (fun b H1 q => ?_) (hs σ H p)
  cases b with
  | true => exact ⟨_, fun σ' H' ⟨p', l⟩ => ⟨_, l, rfl, p'⟩, q⟩
  | false => exact q
end L2
namespace L2
open PySem PySem.Spec PyProof.Rows
abbrev R2 := V → V → Hp → VK → Prop
/-- a two-place operation on values: f is binaryOp op, inplaceOp op or compareOp op -/
def OpR (X : Cx) (f : Value → Value → Sem Value) (r : R2) : Prop :=
  ∀ (pins : List (Addr × Obj)) (s : Shared) (σ : St) (H : Hp) (x y : V) (v u : Value) (Q : VK), Inv X pins σ H s → RelV x v → RelV y u → r x y H Q →
    wpAny (model X.prog X.w) X.A (f v u) (EP X pins σ Q) X.xe s
/-- a one-place operation -/
def UnR (X : Cx) (f : Value → Sem Value) (r : V → Hp → VK → Prop) : Prop :=
  ∀ (pins : List (Addr × Obj)) (s : Shared) (σ : St) (H : Hp) (x : V) (v : Value) (Q : VK), Inv X pins σ H s → RelV x v → r x H Q →
    wpAny (model X.prog X.w) X.A (f v) (EP X pins σ Q) X.xe s
/-- a call of a value that is known (a builtin, a type) with values -/
def CallR (X : Cx) (f : Value) (r : List V → Hp → VK → Prop) : Prop :=
  ∀ (pins : List (Addr × Obj)) (s : Shared) (σ : St) (H : Hp) (xs : List V) (us : List Value) (Q : VK), Inv X pins σ H s → Vals xs us → r xs H Q →
    wpAny (model X.prog X.w) X.A (call f us) (EP X pins σ Q) X.xe s
/-- a value's truth -/
def TruR (X : Cx) (r : V → Hp → (Bool → Hp → Prop) → Prop) : Prop :=
  ∀ (pins : List (Addr × Obj)) (s : Shared) (σ : St) (H : Hp) (x : V) (v : Value) (Q : Bool → Hp → Prop), Inv X pins σ H s → RelV x v → r x H Q →
    wpAny (model X.prog X.w) X.A (truthy v) (TP X pins σ Q) X.xe s
def tOp (r : R2) (ta tb : TE) : TE := fun σ H Q => ta σ H fun x H1 => tb σ H1 fun y H2 => r x y H2 Q
def tUn (r : V → Hp → VK → Prop) (ta : TE) : TE := fun σ H Q => ta σ H fun x H1 => r x H1 Q
/-- ints in, under C, and a value out -/
def rI (C : Int → Int → Prop) (g : Int → Int → V) : R2 := fun x y H Q => ∃ i j, x = .int i ∧ y = .int j ∧ C i j ∧ Q (g i j) H
def rI0 (g : Int → Int → V) : R2 := fun x y H Q => ∃ i j, x = .int i ∧ y = .int j ∧ Q (g i j) H
def rU (g : Int → V) : V → Hp → VK → Prop := fun x H Q => ∃ i, x = .int i ∧ Q (g i) H
section
variable {X : Cx} {a b c : Expr} {ta tb tc : TE} {pos : Pos}
theorem binT (ha : PE X a ta) (hb : PE X b tb) {pins : List (Addr × Obj)} {s : Shared} {σ : St} {H : Hp} {R : V → V → Hp → Prop} (I : Inv X pins σ H s)
    (h : ta σ H fun x H1 => tb σ H1 fun y H2 => R x y H2) {Q : Value → Shared → Prop} {f : Value → Value → Sem Value}
    (hf : ∀ v u s2 x y H2, Inv X pins σ H2 s2 → RelV x v → RelV y u → R x y H2 → wpAny (model X.prog X.w) X.A (f v u) Q X.xe s2) :
    wpAny (model X.prog X.w) X.A (eval a X.env) (fun v s₁ => wpAny (model X.prog X.w) X.A (eval b X.env) (fun u s₂ => wpAny (model X.prog X.w) X.A (f v u) Q X.xe s₂) X.xe s₁) X.xe s := by
  refine thn (ha pins s σ H _ I h) fun v s1 ⟨x, H1, I1, r1, q1⟩ => ?_
  refine thn (hb pins s1 σ H1 _ I1 q1) fun u s2 ⟨y, H2, I2, r2, q2⟩ => ?_
  exact hf v u s2 x y H2 I2 r1 r2 q2
theorem pe_op {op : Operator} {r : R2} (ho : OpR X (binaryOp op) r) (ha : PE X a ta) (hb : PE X b tb) : PE X (.BinOp a op b pos) (tOp r ta tb) := by
  intro pins s σ H Q I h
  exact wpAny_BinOp (binT ha hb I h fun v u s2 x y H2 I2 rx ry q => ho pins s2 σ H2 x y v u Q I2 rx ry q)
theorem pe_un {op : UnaryOp} {r : V → Hp → VK → Prop} (ho : UnR X (unaryOp op) r) (ha : PE X a ta) : PE X (.UnaryOp op a pos) (tUn r ta) := by
  intro pins s σ H Q I h
  exact UnaryOp_ (thn (ha pins s σ H _ I h) fun v s1 ⟨x, H1, I1, r1, q1⟩ => ho pins s1 σ H1 x v Q I1 r1 q1)
theorem opI {f : Value → Value → Sem Value} {C : Int → Int → Prop} {g : Int → Int → Int}
    (rule : ∀ (i j : Int) (t u : Tok) (s : Shared) (Q : Value → Shared → Prop) (E : Value → Shared → Prop), C i j → Q (.int (g i j) s.toks) { s with toks := s.toks + 1 } → wpAny (model X.prog X.w) X.A (f (.int i t) (.int j u)) Q E s) :
    OpR X f (rI C fun i j => .int (g i j)) := by
  intro pins s σ H x y v u Q I rx ry h
  obtain ⟨i, j, rfl, rfl, hc, q⟩ := h
  obtain ⟨t, rfl⟩ := rx
  obtain ⟨t', rfl⟩ := ry
  exact rule i j t t' s _ _ hc ⟨.int (g i j), H, I.tok _, ⟨_, rfl⟩, q⟩
theorem opI0 {f : Value → Value → Sem Value} {g : Int → Int → Int}
    (rule : ∀ (i j : Int) (t u : Tok) (s : Shared) (Q : Value → Shared → Prop) (E : Value → Shared → Prop), Q (.int (g i j) s.toks) { s with toks := s.toks + 1 } → wpAny (model X.prog X.w) X.A (f (.int i t) (.int j u)) Q E s) :
    OpR X f (rI0 fun i j => .int (g i j)) := by
  intro pins s σ H x y v u Q I rx ry h
  obtain ⟨i, j, rfl, rfl, q⟩ := h
  obtain ⟨t, rfl⟩ := rx
  obtain ⟨t', rfl⟩ := ry
  exact rule i j t t' s _ _ ⟨.int (g i j), H, I.tok _, ⟨_, rfl⟩, q⟩
theorem opB0 {f : Value → Value → Sem Value} {g : Int → Int → Bool}
    (rule : ∀ (i j : Int) (t u : Tok) (s : Shared) (Q : Value → Shared → Prop) (E : Value → Shared → Prop), Q (.bool (g i j)) s → wpAny (model X.prog X.w) X.A (f (.int i t) (.int j u)) Q E s) :
    OpR X f (rI0 fun i j => .bl (g i j)) := by
  intro pins s σ H x y v u Q I rx ry h
  obtain ⟨i, j, rfl, rfl, q⟩ := h
  obtain ⟨t, rfl⟩ := rx
  obtain ⟨t', rfl⟩ := ry
  exact rule i j t t' s _ _ ⟨.bl (g i j), H, I, rfl, q⟩
theorem two_pow_nn (k : Nat) : (0 : Int) ≤ 2 ^ k := by
  rw [two_pow_cast]
  exact Int.natCast_nonneg _
theorem op_add : OpR X (binaryOp .Add) (rI0 fun i j => .int (i + j)) := opI0 fun _ _ _ _ _ _ _ q => add_int q
theorem op_sub : OpR X (binaryOp .Sub) (rI0 fun i j => .int (i - j)) := opI0 fun _ _ _ _ _ _ _ q => sub_int q
theorem op_shr : OpR X (binaryOp .RShift) (rI (fun _ j => 0 ≤ j) fun i j => .int (i / 2 ^ j.toNat)) := opI fun i j _ _ _ _ _ hc q =>
  rshift_int hc (by rw [Int.fdiv_eq_ediv_of_nonneg i (two_pow_nn _)]; exact q)
theorem op_and : OpR X (binaryOp .BitAnd) (rI0 fun i j => .int (Builtin.bitAnd i j)) := opI0 fun _ _ _ _ _ _ _ q => and_int q
theorem op_or : OpR X (binaryOp .BitOr) (rI0 fun i j => .int (Builtin.bitOr i j)) := opI0 fun _ _ _ _ _ _ _ q => or_int q
theorem op_xor : OpR X (binaryOp .BitXor) (rI0 fun i j => .int (Builtin.bitXor i j)) := opI0 fun _ _ _ _ _ _ _ q => xor_int q
theorem unI {f : Value → Sem Value} {g : Int → Int}
    (rule : ∀ (i : Int) (t : Tok) (s : Shared) (Q : Value → Shared → Prop) (E : Value → Shared → Prop), Q (.int (g i) s.toks) { s with toks := s.toks + 1 } → wpAny (model X.prog X.w) X.A (f (.int i t)) Q E s) :
    UnR X f (rU fun i => .int (g i)) := by
  intro pins s σ H x v Q I rx h
  obtain ⟨i, rfl, q⟩ := h
  obtain ⟨t, rfl⟩ := rx
  exact rule i t s _ _ ⟨.int (g i), H, I.tok _, ⟨_, rfl⟩, q⟩
theorem un_neg : UnR X (unaryOp .USub) (rU fun i => .int (-i)) := unI fun _ _ _ _ _ q => neg_int q
end
/-- the scalars that == tells apart as data does -/
def scal : V → V → Bool
  | .non, .non => true | .non, .int _ => true | .int _, .non => true | .non, .bl _ => true | .bl _, .non => true | .non, .str _ => true | .str _, .non => true
  | .int _, .int _ => true | .bl _, .bl _ => true | .str _, .str _ => true | .byt _, .byt _ => true
  | .int _, .str _ => true | .str _, .int _ => true | .bl _, .str _ => true | .str _, .bl _ => true
  | _, _ => false
def rEq : R2 := fun x y H Q => scal x y = true ∧ Q (.bl (decide (x = y))) H
def rNe : R2 := fun x y H Q => scal x y = true ∧ Q (.bl (!decide (x = y))) H
theorem dec_int {i j : Int} : decide (V.int i = V.int j) = (i == j) := by
  rw [Bool.eq_iff_iff]
  simp
theorem dec_bl {i j : Bool} : decide (V.bl i = V.bl j) = (i == j) := by
  rw [Bool.eq_iff_iff]
  simp
theorem dec_str {i j : Str} : decide (V.str i = V.str j) = (i == j) := by
  rw [Bool.eq_iff_iff]
  simp
theorem dec_byt {i j : Array UInt8} : decide (V.byt i = V.byt j) = (i.toList == j.toList) := by
  rw [Bool.eq_iff_iff]
  cases i
  cases j
  simp
section
variable {X : Cx} {a b c : Expr} {ta tb tc : TE} {pos : Pos}
theorem fin_bl {pins : List (Addr × Obj)} {σ : St} {H : Hp} {s : Shared} {Q : VK} {k k' : Bool} (I : Inv X pins σ H s) (q : Q (.bl k) H) (e : k = k') : EP X pins σ Q (.bool k') s := by
  subst e
  exact ⟨.bl k, H, I, rfl, q⟩
theorem op_eq : OpR X (compareOp .Eq) rEq := by
  intro pins s σ H x y v u Q I rx ry h
  obtain ⟨hs, q⟩ := h
  cases x with
  | non =>
    cases rx
    cases y with
    | non => cases ry; exact PySem.EqNone.eq_none_none (fin_bl I q (by simp))
    | bl j => cases ry; exact PySem.EqNone.eq_none_bool (fin_bl I q (by simp))
    | int j => obtain ⟨t', rfl⟩ := ry; exact PySem.EqNone.eq_none_int (fin_bl I q (by simp))
    | str j => obtain ⟨t', rfl⟩ := ry; exact PySem.EqNone.eq_none_str (fin_bl I q (by simp))
    | _ => exact absurd (show false = true from hs) Bool.false_ne_true
  | bl i =>
    cases rx
    cases y with
    | non => cases ry; exact PySem.EqNone.eq_bool_none (fin_bl I q (by simp))
    | bl j => cases ry; exact eq_bool (fin_bl I q dec_bl)
    | str j => obtain ⟨t', rfl⟩ := ry; exact PySem.EqMixed.eq_bool_str (fin_bl I q (by simp))
    | _ => exact absurd (show false = true from hs) Bool.false_ne_true
  | int i =>
    obtain ⟨t, rfl⟩ := rx
    cases y with
    | non => cases ry; exact PySem.EqNone.eq_int_none (fin_bl I q (by simp))
    | int j => obtain ⟨t', rfl⟩ := ry; exact eq_int (fin_bl I q dec_int)
    | str j => obtain ⟨t', rfl⟩ := ry; exact PySem.EqMixed.eq_int_str (fin_bl I q (by simp))
    | _ => exact absurd (show false = true from hs) Bool.false_ne_true
  | str i =>
    obtain ⟨t, rfl⟩ := rx
    cases y with
    | non => cases ry; exact PySem.EqNone.eq_str_none (fin_bl I q (by simp))
    | bl j => cases ry; exact PySem.EqMixed.eq_str_bool (fin_bl I q (by simp))
    | int j => obtain ⟨t', rfl⟩ := ry; exact PySem.EqMixed.eq_str_int (fin_bl I q (by simp))
    | str j => obtain ⟨t', rfl⟩ := ry; exact eq_str (fin_bl I q dec_str)
    | _ => exact absurd (show false = true from hs) Bool.false_ne_true
  | byt i =>
    obtain ⟨t, rfl⟩ := rx
    cases y with
    | byt j => obtain ⟨t', rfl⟩ := ry; exact PySem.W.eq_bytes (fin_bl I q dec_byt)
    | _ => exact absurd (show false = true from hs) Bool.false_ne_true
  | _ => cases y <;> exact absurd (show false = true from hs) Bool.false_ne_true
theorem op_ne : OpR X (compareOp .NotEq) rNe := by
  intro pins s σ H x y v u Q I rx ry h
  obtain ⟨hs, q⟩ := h
  cases x with
  | non =>
    cases rx
    cases y with
    | non => cases ry; exact PySem.EqNone.ne_none_none (fin_bl I q (by simp))
    | bl j => cases ry; exact PySem.EqNone.ne_none_bool (fin_bl I q (by simp))
    | int j => obtain ⟨t', rfl⟩ := ry; exact PySem.EqNone.ne_none_int (fin_bl I q (by simp))
    | str j => obtain ⟨t', rfl⟩ := ry; exact PySem.EqNone.ne_none_str (fin_bl I q (by simp))
    | _ => exact absurd (show false = true from hs) Bool.false_ne_true
  | bl i =>
    cases rx
    cases y with
    | non => cases ry; exact PySem.EqNone.ne_bool_none (fin_bl I q (by simp))
    | bl j => cases ry; exact ne_bool (fin_bl I q (congrArg not dec_bl))
    | str j => obtain ⟨t', rfl⟩ := ry; exact PySem.EqMixed.ne_bool_str (fin_bl I q (by simp))
    | _ => exact absurd (show false = true from hs) Bool.false_ne_true
  | int i =>
    obtain ⟨t, rfl⟩ := rx
    cases y with
    | non => cases ry; exact PySem.EqNone.ne_int_none (fin_bl I q (by simp))
    | int j => obtain ⟨t', rfl⟩ := ry; exact ne_int (fin_bl I q (congrArg not dec_int))
    | str j => obtain ⟨t', rfl⟩ := ry; exact PySem.EqMixed.ne_int_str (fin_bl I q (by simp))
    | _ => exact absurd (show false = true from hs) Bool.false_ne_true
  | str i =>
    obtain ⟨t, rfl⟩ := rx
    cases y with
    | non => cases ry; exact PySem.EqNone.ne_str_none (fin_bl I q (by simp))
    | bl j => cases ry; exact PySem.EqMixed.ne_str_bool (fin_bl I q (by simp))
    | int j => obtain ⟨t', rfl⟩ := ry; exact PySem.EqMixed.ne_str_int (fin_bl I q (by simp))
    | str j => obtain ⟨t', rfl⟩ := ry; exact ne_str (fin_bl I q (congrArg not dec_str))
    | _ => exact absurd (show false = true from hs) Bool.false_ne_true
  | byt i =>
    obtain ⟨t, rfl⟩ := rx
    cases y with
    | byt j => obtain ⟨t', rfl⟩ := ry; exact PySem.W.ne_bytes (fin_bl I q (congrArg not dec_byt))
    | _ => exact absurd (show false = true from hs) Bool.false_ne_true
  | _ => cases y <;> exact absurd (show false = true from hs) Bool.false_ne_true
theorem op_lt : OpR X (compareOp .Lt) (rI0 fun i j => .bl (decide (i < j))) := opB0 fun _ _ _ _ _ _ _ q => lt_int q
theorem op_gt : OpR X (compareOp .Gt) (rI0 fun i j => .bl (decide (j < i))) := opB0 fun _ _ _ _ _ _ _ q => gt_int q
theorem op_ge : OpR X (compareOp .GtE) (rI0 fun i j => .bl (decide (j ≤ i))) := opB0 fun _ _ _ _ _ _ _ q => ge_int q
theorem nomark (b : Expr) {op : CmpOp} (h : op ≠ .In := by decide) (h2 : op ≠ .NotIn := by decide) : behindInMarks op b = false := by
  have e1 : (op == CmpOp.In) = false := by cases op <;> first | rfl | exact absurd rfl h
  have e2 : (op == CmpOp.NotIn) = false := by cases op <;> first | rfl | exact absurd rfl h2
  cases b <;> simp [behindInMarks, e1, e2]
/-- a comparison as a value; hm: nomark b, or (for in, not in) by with_unfolding_all rfl -/
theorem pe_cmpR {op : CmpOp} {r : R2} (ho : OpR X (compareOp op) r) (ha : PE X a ta) (hb : PE X b tb) (hm : behindInMarks op b = false) : PE X (.Compare a [op] [b] pos) (tOp r ta tb) := by
  intro pins s σ H Q I h
  exact wpAny_Compare1 (binT ha hb I h fun v u s2 x y H2 I2 rx ry q => ho pins s2 σ H2 x y v u Q I2 rx ry q) hm
/-- a reading of a value as a test -/
def tTest (t : TE) : TT := fun σ H Q => t σ H fun x H' => ∃ k, x = .bl k ∧ Q k H'
theorem pt_cmpR {op : CmpOp} {r : R2} (ho : OpR X (compareOp op) r) (ha : PE X a ta) (hb : PE X b tb) (hm : behindInMarks op b = false) : PT X (.Compare a [op] [b] pos) (tTest (tOp r ta tb)) := by
  intro pins s σ H Q I h
  refine wpAny_isTrue_Compare1 (thn (ha pins s σ H _ I h) fun v s1 ⟨x, H1, I1, r1, q1⟩ => thn (hb pins s1 σ H1 _ I1 q1) fun u s2 ⟨y, H2, I2, r2, q2⟩ =>
    thn (ho pins s2 σ H2 x y v u _ I2 r1 r2 q2) fun c s3 ⟨z, H3, I3, r3, k, e, q3⟩ => ?_) hm
  subst e
  cases r3
  exact wpAny_truthy_bool ⟨H3, I3, q3⟩
/-- a value's truth by the abstract heap -/
def TruV (K : PySem.W.Frag) (x : V) (H : Hp) (k : Bool) : Prop :=
  match x with
  | .non => k = false
  | .bl b => k = b
  | .int i => k = (i != 0)
  | .str y => y.length ≤ sizeLine ∧ k = ((y.length : Int) != 0)
  | .byt y => y.size ≤ sizeLine ∧ k = ((y.size : Int) != 0)
  | .ref p => (∃ xs, SqL K H p xs ∧ k = !xs.isEmpty) ∨ (∃ xs, SqT K H p xs ∧ k = !xs.isEmpty) ∨ ∃ kvs, H p = some (.dK kvs) ∧ k = !kvs.isEmpty
  | _ => False
theorem isEmpty_kv {κ : Type} {kvs : List (κ × V)} {vs : List (κ × Value)} (r : KV kvs vs) : (!vs.isEmpty) = !kvs.isEmpty := by
  cases r <;> rfl
theorem isEmpty_of {xs : List V} {its : List Value} (r : Vals xs its) : (!its.toArray.isEmpty) = !xs.isEmpty := by
  cases r <;> simp
theorem line63 : (sizeLine : Nat) < 2 ^ 63 := by rw [sizeLine_eq]; decide
theorem tru_ok : TruR X (fun x H Q => ∃ k, TruV X.K x H k ∧ Q k H) := by
  intro pins s σ H x v Q I rx h
  obtain ⟨k, e, q⟩ := h
  have hl := line63
  have hs : sizeLine = 16777216 := sizeLine_eq
  cases x with
  | non =>
    cases rx
    have e' : k = false := e
    subst e'
    exact truthy_none ⟨H, I, q⟩
  | bl b =>
    cases rx
    have e' : k = b := e
    subst e'
    exact wpAny_truthy_bool ⟨H, I, q⟩
  | int i =>
    obtain ⟨t, rfl⟩ := rx
    have e' : k = (i != 0) := e
    subst e'
    exact PySem.P.truthy_int ⟨H, I, q⟩
  | str y =>
    obtain ⟨t, rfl⟩ := rx
    obtain ⟨hy, e'⟩ : y.length ≤ sizeLine ∧ k = ((y.length : Int) != 0) := e
    subst e'
    exact PySem.P.truthy_str (by omega) ⟨H, I.tok _, q⟩
  | byt y =>
    obtain ⟨t, rfl⟩ := rx
    obtain ⟨hy, e'⟩ : y.size ≤ sizeLine ∧ k = ((y.size : Int) != 0) := e
    subst e'
    exact PySem.W.truthy_bytes (by omega) ⟨H, I.tok _, q⟩
  | ref p =>
    cases rx
    have e' : (∃ xs, SqL X.K H p xs ∧ k = !xs.isEmpty) ∨ (∃ xs, SqT X.K H p xs ∧ k = !xs.isEmpty) ∨ ∃ kvs, H p = some (.dK kvs) ∧ k = !kvs.isEmpty := e
    rcases e' with ⟨xs, hx, e'⟩ | ⟨xs, hx, e'⟩ | ⟨kvs, hx, e'⟩
    · subst e'
      obtain ⟨its, r, pl, hz⟩ := I.list hx
      have hlen := r.length
      exact wpAny_truthy_list pl.isList (by simp only [List.size_toArray]; omega) ⟨H, I.tok _, by rw [isEmpty_of r]; exact q⟩
    · subst e'
      obtain ⟨its, r, pl, hz⟩ := I.tuple hx
      have hlen := r.length
      exact truthy_tuple pl (by simp only [List.size_toArray]; omega) ⟨H, I.tok _, by rw [isEmpty_of r]; exact q⟩
    · subst e'
      obtain ⟨hz, hS, vs, r, m⟩ : kvs.length ≤ sizeLine ∧ (p == sysModules) = false ∧ ∃ vs, KV kvs vs ∧ s.heap.DictOf (mixKind X.prog X.w) p vs := I.hok p _ hx
      have hlen : kvs.length = vs.length := Paired.length r
      exact wpAny_truthy_dict hS m (by omega) ⟨H, I.tok _, by rw [isEmpty_kv r]; exact q⟩
  | _ => exact (show False from e).elim
/-- any expression whose test is its value's truth (a name, a call, a subscript, a field ..: he by fun _ => rfl) -/
theorem pt_truth (ha : PE X a ta) (he : ∀ whole, isTrue a X.env whole = (do let v ← whole; standAt a.pos; holding [v] (truthy v))) :
    PT X a (fun σ H Q => ta σ H fun x H' => ∃ k, TruV X.K x H' k ∧ Q k H') := by
  intro pins s σ H Q I h
  exact isTrue_plain (thn (ha pins s σ H _ I h) fun v s1 ⟨x, H1, I1, r1, q1⟩ => tru_ok pins s1 σ H1 x v Q I1 r1 q1) (he _)
theorem vals1 {x : V} {us : List Value} (r : Vals [x] us) : ∃ u, us = [u] ∧ RelV x u := by
  cases r with
  | cons r1 r2 => cases r2; exact ⟨_, rfl, r1⟩
end
end L2
namespace L2
open PySem PySem.Spec PyProof.Rows
structure ObjM (h : Heap) (x dx C : Addr) (mA : Str → Option Value) : Prop where
  obj : h.get? x = some (PySem.W.instObj C dx)
  ns : h.Ns1 dx mA
  ne : dx ≠ x
theorem lookIn_ns {h : Heap} {dx : Addr} {mA : Str → Option Value} (n : h.Ns1 dx mA) : ∃ od, h.get? dx = some od ∧ ∀ name, PySem.W.lookIn name od = some (mA name) := by
  obtain ⟨o, es, ep, ho, hd, hk, _, hm⟩ := n
  refine ⟨o, ho, fun name => ?_⟩
  have e := hm name
  unfold nsFind findBy at e
  rw [← Array.find?_toList] at e
  unfold PySem.W.lookIn
  rw [hd]
  dsimp only
  split
  · rename_i y q
    rw [q] at e
    exact congrArg some e
  · rename_i q
    rw [q] at e
    have a : es.toList.any (·.refKey) = false := by
      rw [List.any_eq_false]
      intro y hy
      obtain ⟨z, t, hkey⟩ := hk y (Array.mem_toList_iff.mp hy)
      simp [DictEntry.refKey, hkey]
    have a' : ¬ es.toList.any (·.refKey) = true := by rw [a]; exact Bool.false_ne_true
    rw [if_neg a']
    exact congrArg some e
section
variable {prog : Program} {w : World} {A : Around} {E : Value → Shared → Prop} {s : Shared} {K : PySem.W.Frag} {x dx C f : Addr} {mA : Str → Option Value} {name : Str} {v : Value}
end
theorem RelO.some_of {v : V} {o : Option Value} (r : RelO (some v) o) : ∃ u, o = some u ∧ RelV v u := by
  cases o with
  | none => exact (show False from r).elim
  | some u => exact ⟨u, rfl, r⟩
section
variable {P : Program} {w : World} {H H' : Hp} {h h' : Heap} {a C dx : Addr} {fs fs' : List (Str × V)}
end
structure Cls (K : PySem.W.Frag) (C : Addr) : Prop where
  pg : PySem.W.plainGet K C Str.empty = true
  hd : PySem.W.hasDictIn K C = true
  po : PySem.W.plainOver K C = true
  sa : PySem.W.findIn K (.ref C) "__setattr__" = some (some (.builtin "object.__setattr__"))
/-- a constant of the class -/
structure Con (K : PySem.W.Frag) (C : Addr) (f : Str) (v : V) (u : Value) : Prop where
  at_ : PySem.W.findIn K (.ref C) f = some (some u)
  rel : RelV v u
  get : PySem.W.specialIn K u "__get__" = some none
  cp : PySem.W.copiedNames.contains f = false
/-- a method: a plain def of the class or of one above it -/
structure Meth (K : PySem.W.Frag) (C : Addr) (m : Str) (f : Addr) : Prop where
  at_ : PySem.W.findIn K (.ref C) m = some (some (.ref f))
  fn : PySem.W.isFn K (.ref f) = true
  kp : PySem.W.keepIn K (.ref f) = true
section
variable {X : Cx} {pins : List (Addr × Obj)} {σ : St} {H : Hp} {s : Shared} {a C dx : Addr} {fs : List (Str × V)} {f : Str} {v : V} {A : Around} {E : Value → Shared → Prop}
/-- e.f where nothing but the object is asked: through attributeBase (super) and the last hold -/
theorem attr_of {prog : Program} {w : World} {env : Env} {e : Expr} {f : Str} {pos : Pos} {s : Shared} {Q : Value → Shared → Prop} (hb : attributeBase e f env (eval e env) = eval e env)
    (h : wpAny (model prog w) A (eval e env) (fun o s₁ => wpAny (model prog w) A (getAttr o f true) Q E s₁) E s) : wpAny (model prog w) A (eval (.Attribute e f pos) env) Q E s :=
  Attribute_any_ h (by rw [arm_eval_Attribute, hb])
end
section
variable {X : Cx} {o e value : Expr} {f : Str} {pos pos' tpos : Pos} {ta tv : TE}
end
section
variable {X : Cx} {pins : List (Addr × Obj)} {σ : St} {H : Hp} {s : Shared} {A : Around} {E : Value → Shared → Prop} {Q : Value → Shared → Prop} {c : Value} {b : Bool}
/-- the type of a value, as the fragment's deciders take it; for an instance its class -/
inductive TyOf (K : PySem.W.Frag) (H : Hp) : V → Value → Prop where
  | non : TyOf K H .non (.type "NoneType")
  | bl (x : Bool) : TyOf K H (.bl x) (.type "bool")
  | int (i : Int) : TyOf K H (.int i) (.type "int")
  | str (x : Str) : TyOf K H (.str x) (.type "str")
  | flt (x : UInt64) : TyOf K H (.flt x) (.type "float")
  | lst {a : Addr} {xs : List V} (e : H a = some (.lst xs)) : TyOf K H (.ref a) (.type "list")
  | frz {a : Addr} {o : Obj} {xs : List V} (e : H a = some (.frz o (.lst xs))) : TyOf K H (.ref a) (.type "list")
  | tup {a : Addr} {xs : List V} (e : H a = some (.tup xs)) : TyOf K H (.ref a) (.type "tuple")
  | dK {a : Addr} {kvs : List (Key × V)} (e : H a = some (.dK kvs)) : TyOf K H (.ref a) (.type "dict")
  | dT {a : Addr} {kvs : List (List Key × V)} (e : H a = some (.dT kvs)) : TyOf K H (.ref a) (.type "dict")
  | ins {a C dx : Addr} {fs : List (Str × V)} (e : H a = some (.ins C dx fs)) (cl : Cls K C) (ha : PySem.W.findIn K (.ref C) "__class__" = some (some (.builtin "object.__class__")))
      (hn : PySem.W.specialIn K (.builtin "object.__class__") "__get__" = some (some (.builtin "getset_descriptor.__get__"))) (htk : PySem.W.takesIn K (.builtin "object.__class__") = some true)
      (hm : PySem.W.mroIn K C (.type "object") = some true) : TyOf K H (.ref a) (.ref C)
end
end L2
namespace L2
open PySem PySem.Spec PyProof.Rows
structure Room (k : Nat) (A : Around) : Prop where
  hd : A.handled = none
  dp : A.depth + 3 * k + 5 < recursionLimit
  un : A.units + 16 * k + 200 < cLine
theorem Room.mono {j k : Nat} {A : Around} (r : Room k A) (h : j ≤ k) : Room j A := ⟨r.hd, by have := r.dp; omega, by have := r.un; omega⟩
theorem Room.deeper {k : Nat} {A : Around} (r : Room (k + 1) A) (env : Env) : Room k (A.deeper env) :=
  ⟨r.hd, by have := r.dp; show A.depth + 1 + 3 * k + 5 < _; omega, by have := r.un; show A.units + 3 + 16 * k + 200 < _; omega⟩
theorem make_depth {A : Around} {C : Addr} {us : List Value} {kw : List (Str × Value)} : (A.under (.builtin "type.__call__" ⟨.ref C :: us, kw⟩)).depth = A.depth + 1 := by
  first | rfl | simp [Around.under, Code.weight, Code.isCreation, Code.isGuard, Code.isCaller, Code.frames, Code.isFrame, guardIds]
theorem make_units {A : Around} {C : Addr} {us : List Value} {kw : List (Str × Value)} : (A.under (.builtin "type.__call__" ⟨.ref C :: us, kw⟩)).units = A.units + 1 := by
  first | rfl | simp [Around.under, Code.cUnits, Code.frames, Code.isFrame]
theorem Room.make {k : Nat} {A : Around} (r : Room (k + 1) A) (C : Addr) (us : List Value) (kw : List (Str × Value)) : Room k (A.under (.builtin "type.__call__" ⟨.ref C :: us, kw⟩)) :=
  ⟨r.hd, by have := r.dp; rw [make_depth]; omega, by have := r.un; rw [make_units]; omega⟩
theorem Room.depth {k : Nat} {A : Around} (r : Room k A) : A.depth < recursionLimit := by have := r.dp; omega
theorem Room.units {k : Nat} {A : Around} (r : Room k A) : A.units + 64 < cLine := by have := r.un; omega
def tNil : TA := fun _ H Q => Q [] H
def tCons (ta : TE) (tr : TA) : TA := fun σ H Q => ta σ H fun x H1 => tr σ H1 fun xs H2 => Q (x :: xs) H2
section
variable {X : Cx} {e : Expr} {es : List Expr} {te : TE} {t : TA} {pos : Pos}
theorem pa_nil : PA X [] tNil := fun _ _ _ _ H Q I h => Calls.spliced_nil ⟨[], H, I, .nil, h⟩
theorem pa_cons (ha : PE X e te) (hr : PA X es t) (hs : starEach (e :: es) X.env = (false, eval e X.env) :: starEach es X.env := by rfl) : PA X (e :: es) (tCons te t) := by
  intro pos pins s σ H Q I h
  rw [hs]
  show wpAny _ _ (spliced ((false, eval e X.env) :: backTo pos (starEach es X.env))) _ _ s
  refine Calls.spliced_cons (thn (ha pins s σ H _ I h) fun u s1 ⟨x, H1, I1, r1, q1⟩ => ?_)
  exact thn (hr pos pins s1 σ H1 _ I1 q1) fun us s2 ⟨xs, H2, I2, r2, q2⟩ => ⟨x :: xs, H2, I2, .cons r1 r2, q2⟩
def tLst (t : TA) : TE := fun σ H Q => t σ H fun xs H1 => xs.length ≤ sizeLine ∧ ∀ p, H1 p = none → Q (.ref p) (upd H1 p (.lst xs))
theorem pe_lst (h : PA X es t) : PE X (.List es pos) (tLst t) := by
  intro pins s σ H Q I hq
  refine wpAny_List_spliced (thn (h pos pins s σ H _ I hq) fun us s1 ⟨xs, H1, I1, r, z, q⟩ => ⟨by rw [← r.length]; exact z, ?_⟩)
  have hf : H1 s1.heap.objs.size = none := I1.hok.fresh (Nat.le_refl _)
  refine ⟨.ref s1.heap.objs.size, upd H1 s1.heap.objs.size (.lst xs), I1.laid (t' := s1.toks) (fun b u e => Heap.get?_push_of_some _ e) (Nat.le_refl _) ?_, rfl, q _ hf⟩
  exact ⟨z, us, 0, r, Heap.get?_push_size _ rfl⟩
end
/-- a def's promise: the bound arguments in the parameters' order, the heap, the wanted end, the wanted exception -/
abbrev Sp := List V → Hp → VK → XK → Prop
/-- how an exception lies behind a call (file 08 gives it): the callers' frames, abstract heap and state ahead of the call, the wish, the exception, the state -/
abbrev CXT := List Env → Hp → Shared → XK → Value → Shared → Prop
/-- the state at a call -/
structure Env0 (P : Program) (w : World) (K : PySem.W.Frag) (mg : Str → Option Value) (base : Heap) (A : Around) (outer : List Env) (s : Shared) (H : Hp) : Prop where
  frames : A.frames = some outer
  mod : Mod K mg base
  bs : ∀ b o, base.get? b = some o → s.heap.get? b = some o ∧ H b = none
  bsz : base.objs.size ≤ s.heap.objs.size
  funs : s.heap.FunFrames base outer
  frf : ∀ b ∈ frs outer, H b = none
  hok : HOk P w H s.heap
  bare : AllBare s.gens
/-- a call's end -/
def CE (outer : List Env) (P : Program) (w : World) (H : Hp) (s : Shared) (Q : VK) (u : Value) (s' : Shared) : Prop :=
  ∃ v H', s'.os = s.os ∧ AllBare s'.gens ∧ Un (frs outer) [] H H' s.heap s'.heap ∧ HOk P w H' s'.heap ∧ RelV v u ∧ Q v H'
def CR (CX : CXT) (outer : List Env) (P : Program) (w : World) (H : Hp) (s : Shared) (Q : VK) (E : XK) (r : Result) (s' : Shared) : Prop :=
  match r with
  | .ok (.ret u) => CE outer P w H s Q u s'
  | .ok _ => False
  | .error e => CX outer H s E e s'
structure FnOk (P : Program) (w : World) (K : PySem.W.Frag) (mg : Str → Option Value) (base : Heap) (CX : CXT) (k : Nat) (f : Addr) (fd : FuncData) (ps : List Str) (sp : Sp) : Prop where
  len : ∀ vs H Q E, sp vs H Q E → vs.length = ps.length
  run : ∀ (A : Around) (outer : List Env) (s : Shared) (H : Hp) (args : Args) (us : List Value) (vs : List V) (Q : VK) (E : XK), Room k A → Env0 P w K mg base A outer s H → BindsTo s fd args (ps.zip us) → Vals vs us → sp vs H Q E →
    codeAny (model P w) A (.call (.ref f) args) (CR CX outer P w H s Q E) s
theorem FnOk.mono {P : Program} {w : World} {K : PySem.W.Frag} {mg : Str → Option Value} {base : Heap} {CX : CXT} {j k : Nat} {f : Addr} {fd : FuncData} {ps : List Str} {sp : Sp} (F : FnOk P w K mg base CX j f fd ps sp) (h : j ≤ k) :
    FnOk P w K mg base CX k f fd ps sp := ⟨F.len, fun A outer s H args us vs Q E hr => F.run A outer s H args us vs Q E (hr.mono h)⟩
theorem Env0.make {P : Program} {w : World} {K : PySem.W.Frag} {mg : Str → Option Value} {base : Heap} {A : Around} {outer : List Env} {s : Shared} {H : Hp} (e : Env0 P w K mg base A outer s H) (C : Addr) (us : List Value) (kw : List (Str × Value)) :
    Env0 P w K mg base (A.under (.builtin "type.__call__" ⟨.ref C :: us, kw⟩)) outer s H := ⟨by first | exact e.frames | (simpa [Around.under, Code.envs, Code.isFrame, pushEnvs] using e.frames), e.mod, e.bs, e.bsz, e.funs, e.frf, e.hok, e.bare⟩
section
variable {X : Cx} {pins : List (Addr × Obj)} {σ : St} {H : Hp} {s s' : Shared}
/-- from a body: what a callee wants -/
theorem Inv.env0 (I : Inv X pins σ H s) : Env0 X.prog X.w X.K X.mg X.base X.A X.stack s H :=
  ⟨I.ok.frames, I.ok.mod, I.bs, Nat.le_trans I.ok.bsz I.sz, I.stack, I.stkFree, I.hok, I.bare⟩
/-- behind a call -/
theorem Inv.after {Q : VK} {u : Value} (I : Inv X pins σ H s) (h : CE X.stack X.prog X.w H s Q u s') : EP X pins σ Q u s' := by
  obtain ⟨v, H', os, bare, un, hok, r, q⟩ := h
  obtain ⟨hh, g, d, t, os'⟩ := s'
  obtain rfl : os' = s.os := os
  exact ⟨v, H', I.call (h' := hh) (g' := g) (d' := d) (t' := t) (ch := []) un hok bare (fun b z => absurd z (by simp)), r, q⟩
end
/-- f(..): the written arguments, then the defaults dvs; E: what is wanted of an exception -/
def tCall (sp : Sp) (dvs : List V) (E : XK) (t : TA) : TE := fun σ H Q => t σ H fun vs H1 => sp (vs ++ dvs) H1 Q E
/-- how the parameters are bound: us the positional arguments, kw the keywords' values by name, ds the defaults that fill up -/
def Binds (K : PySem.W.Frag) (fd : FuncData) (ps : List Str) (ds : List Value) : Prop :=
  ∀ (s : Shared) (us : List Value), K.In s.heap → (us ++ ds).length = ps.length → BindsTo s fd ⟨us, []⟩ (ps.zip (us ++ ds))
/-- every parameter is given -/
theorem Binds.all {K : PySem.W.Frag} {fd : FuncData} {ps : List Str} (h : ∀ us : List Value, us.length = ps.length → bindArgs fd ⟨us, []⟩ = pure (ps.zip us)) : Binds K fd ps [] := fun s us _ hl => by
  rw [List.append_nil] at hl ⊢
  exact .of_eq (h us hl)
/-- an exception of a callee reaches what this body wants of exceptions -/
def Passes (CX : CXT) (X : Cx) (E : XK) : Prop := ∀ (pins : List (Addr × Obj)) (σ : St) (H : Hp) (s : Shared) (e : Value) (s' : Shared), Inv X pins σ H s → CX X.stack H s E e s' → X.xe e s'
section
variable {X : Cx} {CX : CXT} {k : Nat} {f C : Addr} {fd : FuncData} {ps : List Str} {sp : Sp} {dvs : List V} {ds : List Value} {E : XK} {x m : Str} {p pos apos : Pos} {e o : Expr} {es : List Expr} {ta : TE} {t : TA}
/-- the callee runs -/
theorem run_fn {pins : List (Addr × Obj)} {σ : St} {H : Hp} {s : Shared} {Q : VK} {us : List Value} {vs : List V} (F : FnOk X.prog X.w X.K X.mg X.base CX k f fd ps sp) (hr : Room k X.A) (hb : Binds X.K fd ps ds) (hd : Vals dvs ds) (hx : Passes CX X E)
    (I : Inv X pins σ H s) (r : Vals vs us) (h : sp (vs ++ dvs) H Q E) : wpAny (model X.prog X.w) X.A (call (.ref f) us) (EP X pins σ Q) X.xe s := by
  have r2 : Vals (vs ++ dvs) (us ++ ds) := r.append hd
  have hl : (us ++ ds).length = ps.length := by rw [← r2.length]; exact F.len _ _ _ _ h
  refine wpAny_call (codeAny_mono (F.run X.A X.stack s H ⟨us, []⟩ (us ++ ds) (vs ++ dvs) Q E hr I.env0 (hb s us I.kIn hl) r2 h) fun r s' hq => ?_)
  cases r with
  | error e => exact hx pins σ H s e s' I hq
  | ok fl =>
    cases fl with
    | ret u => exact I.after hq
    | next => exact False.elim hq
    | brk => exact False.elim hq
    | cont => exact False.elim hq
theorem pe_call (F : FnOk X.prog X.w X.K X.mg X.base CX k f fd ps sp) (hr : Room k X.A) (hg : Gl X x) (hm : X.mg x = some (.ref f)) (hk : PySem.W.keepIn X.K (.ref f) = true) (hb : Binds X.K fd ps ds) (hd : Vals dvs ds) (hx : Passes CX X E)
    (ha : PA X (e :: es) t) (hdb : (x == ("__debug__" : Str)) = false := by decide) (he : starEach (e :: es) X.env = (false, eval e X.env) :: starEach es X.env := by rfl) (hpl : (backTo pos (starEach es X.env)).any (·.1) = false := by rfl) :
    PE X (.Call (.Name x p) (e :: es) [] pos) (tCall sp dvs E t) := by
  intro pins s σ H Q I h
  refine wpAny_Call_Name_kw (ld_glob I hg hm ?_ hdb)
  refine PySem.W.callWith_K (h₀ := X.base) I.ok.mod.kin hk (thn (ha pos pins s σ H _ I h) fun us s1 ⟨vs, H1, I1, r, q⟩ => ⟨I1.kIn, ?_⟩) he hpl
  exact run_fn F hr hb hd hx I1 r q
/-- what a class must have to be made -/
structure Mk (K : PySem.W.Frag) (C f : Addr) : Prop where
  makes : PySem.W.makesIn K C = true
  init : PySem.W.findIn K (.ref C) "__init__" = some (some (.ref f))
  fn : PySem.W.isFn K (.ref f) = true
  kp : PySem.W.keepIn K (.ref C) = true
end
section
variable {X : Cx} {CX : CXT} {k : Nat} {f C : Addr} {fd : FuncData} {ps ks : List Str} {sp : Sp} {E : XK} {x m : Str} {p pos apos kpos : Pos} {e o : Expr} {es : List Expr} {kws : List Keyword} {te ta : TE} {t tk : TA} {nm : Option Str}
/-- how a call with keywords binds: g puts the positional values us and the keywords' values ws (names ks) in the parameters' order, defaults among them -/
structure KBinds (K : PySem.W.Frag) (fd : FuncData) (ps ks : List Str) (g : List Value → List Value → List Value) (gV : List V → List V → List V) : Prop where
  to : ∀ (s : Shared) (us ws : List Value), K.In s.heap → (g us ws).length = ps.length → BindsTo s fd ⟨us, ks.zip ws⟩ (ps.zip (g us ws))
  rel : ∀ {vs : List V} {us : List Value} {zs : List V} {ws : List Value}, Vals vs us → Vals zs ws → Vals (gV vs zs) (g us ws)
variable {g : List Value → List Value → List Value} {gV : List V → List V → List V}
end
/-- names: the parameters first -/
structure FnScope (N P : List Str) (sc : Scope) : Prop where
  kind : sc.kind = .function
  co : sc.isCoroutine = false
  gen : sc.isGenerator = false
  nd : N.Nodup
  pre : N.take P.length = P
  par : ∀ x ∈ P, sc.names.lookup x = some .local ∨ sc.names.lookup x = some .cell
  nofree : ∀ y ∈ sc.names, y.2 ≠ .free
theorem bindL_out {kindOf : Str → Option NameKind} {x : Str} : ∀ {binds : List (Str × Value)} {m : Str → Option Value}, (∀ v, (x, v) ∉ binds) → bindL kindOf binds m x = m x
  | [], _, _ => rfl
  | (n, v) :: r, m, h => by
    unfold bindL
    rw [bindL_out fun w hw => h w (List.mem_cons_of_mem _ hw)]
    split
    · have : x ≠ n := by rintro rfl; exact h v List.mem_cons_self
      simp [this]
    · rfl
theorem bindC_out {kindOf : Str → Option NameKind} {x : Str} : ∀ {binds : List (Str × Value)} {m : Str → Option Value}, (∀ v, (x, v) ∉ binds) → bindC kindOf binds m x = m x
  | [], _, _ => rfl
  | (n, v) :: r, m, h => by
    unfold bindC
    rw [bindC_out fun w hw => h w (List.mem_cons_of_mem _ hw)]
    split
    · rfl
    · have : x ≠ n := by rintro rfl; exact h v List.mem_cons_self
      simp [this]
theorem bindL_get {kindOf : Str → Option NameKind} {x : Str} {v : Value} : ∀ {P : List Str} {vs : List Value} {i : Nat} {m : Str → Option Value}, P.Nodup → P[i]? = some x → vs[i]? = some v → kindOf x = some .local →
    bindL kindOf (P.zip vs) m x = some v
  | [], _, _, _, _, h, _, _ => by simp at h
  | _ :: _, [], _, _, _, _, h, _ => by simp at h
  | p :: P, w :: vs, 0, m, nd, h1, h2, hk => by
    simp at h1 h2; subst h1; subst h2
    show bindL kindOf ((p, w) :: P.zip vs) m p = _
    unfold bindL
    rw [bindL_out fun v hv => (List.nodup_cons.mp nd).1 (List.of_mem_zip hv).1, if_pos hk]
    simp
  | p :: P, w :: vs, i + 1, m, nd, h1, h2, hk => by
    show bindL kindOf ((p, w) :: P.zip vs) m x = _
    unfold bindL
    exact bindL_get (i := i) (List.nodup_cons.mp nd).2 (by simpa using h1) (by simpa using h2) hk
theorem bindC_get {kindOf : Str → Option NameKind} {x : Str} {v : Value} : ∀ {P : List Str} {vs : List Value} {i : Nat} {m : Str → Option Value}, P.Nodup → P[i]? = some x → vs[i]? = some v → kindOf x ≠ some .local →
    bindC kindOf (P.zip vs) m x = some v
  | [], _, _, _, _, h, _, _ => by simp at h
  | _ :: _, [], _, _, _, _, h, _ => by simp at h
  | p :: P, w :: vs, 0, m, nd, h1, h2, hk => by
    simp at h1 h2; subst h1; subst h2
    show bindC kindOf ((p, w) :: P.zip vs) m p = _
    unfold bindC
    rw [bindC_out fun v hv => (List.nodup_cons.mp nd).1 (List.of_mem_zip hv).1, if_neg hk]
    simp
  | p :: P, w :: vs, i + 1, m, nd, h1, h2, hk => by
    show bindC kindOf ((p, w) :: P.zip vs) m x = _
    unfold bindC
    exact bindC_get (i := i) (List.nodup_cons.mp nd).2 (by simpa using h1) (by simpa using h2) hk
/-- the names' values at the entry -/
def start (N : List Str) (vs : List V) : St := vs.map some ++ List.replicate (N.length - vs.length) none
/-- the context of a def's body, at its entry; an exception leaves the frame, then lies as CX says -/
def cxOf (CX : CXT) (P : Program) (w : World) (K : PySem.W.Frag) (mg : Str → Option Value) (base : Heap) (N : List Str) (qual : Str) (scope : Scope) (f : Addr) (cd : Value) (A : Around) (outer : List Env) (s : Shared) (H : Hp) (E : XK) : Cx where
  prog := P
  w := w
  K := K
  mg := mg
  base := base
  A := A.deeper (envOfC qual scope s.heap.objs.size f cd)
  N := N
  s₀ := s
  H₀ := H
  env := envOfC qual scope s.heap.objs.size f cd
  outer := outer
  stack := envOfC qual scope s.heap.objs.size f cd :: outer
  ex := []
  calm := true
  fn := fun _ => true
  pn := []
  xe := fun e s' => wpAny (model P w) (A.deeper (envOfC qual scope s.heap.objs.size f cd)) (leaving (envOfC qual scope s.heap.objs.size f cd) e) (fun _ s'' => CX outer H s E e s'') (fun e' s'' => CX outer H s E e' s'') s'
theorem cell_has {sc : Scope} {n : Nat} {x : Str} (h : sc.names.lookup x = some .cell) : ∃ c, (cellsFrom n sc.names []).lookup x = some c := by
  have q := PySem.W.cellsFrom_some sc.names n [] (.inl h)
  exact Option.isSome_iff_exists.mp q
theorem inv_start {CX : CXT} {P : Program} {w : World} {K : PySem.W.Frag} {mg : Str → Option Value} {base : Heap} {N ps : List Str} {qual : Str} {scope : Scope} {f : Addr} {cd : Value} {A : Around} {outer : List Env} {s s1 : Shared} {H : Hp} {E : XK} {us : List Value} {vs : List V}
    (S : FnScope N ps scope) (hd : A.handled = none) (e0 : Env0 P w K mg base A outer s H) (hl : vs.length = ps.length) (r : Vals vs us)
    (x : InCallC s s.heap.objs.size (bindL (envOfC qual scope s.heap.objs.size f cd).kindOf (ps.zip us) fun _ => none) (cellsFrom (s.heap.objs.size + 1) scope.names []) (bindC (envOfC qual scope s.heap.objs.size f cd).kindOf (ps.zip us) fun _ => none) s1) :
    Inv (cxOf CX P w K mg base N qual scope f cd A outer s H E) [] (start N vs) H s1 := by
  have hpl : ps.length ≤ N.length := by have := congrArg List.length S.pre; rw [List.length_take] at this; omega
  obtain ⟨h1, tk, rfl, hk⟩ := x.done
  have noA : ∀ b : Addr, b ∉ (cxOf CX P w K mg base N qual scope f cd A outer s H E).ex := fun b z => absurd (show b ∈ ([] : List Addr) from z) (by simp)
  refine ⟨⟨e0.mod, S.kind, rfl, rfl, Nat.le_refl _, fun y z c h1 h2 => ?_, fun y hy => ?_, fun y c _ h => ?_, fun _ => hd, Around.frames_deeper e0.frames, .inr ⟨rfl, rfl⟩, fun b z => absurd z (noA b), e0.bs, e0.bsz, fun b _ _ => noA b, fun b z => absurd z (noA b), e0.funs, e0.frf⟩,
    rfl, e0.bare, Un.kept hk, ⟨_, x.toInCall.ns, fun i y v h1 h2 h3 => ?_⟩, fun y c h => ⟨_, x.cell y c h⟩, e0.hok.fresh (Nat.le_refl _), fun y c h => ?_, fun p hp => absurd (show p ∈ ([] : List (Addr × Obj)) from hp) (by simp), e0.hok.kept hk, ?_⟩
  · exact name_of_addr x.apart (PySem.mem_of_lookup h1) (PySem.mem_of_lookup h2)
  · have hy : scope.names.lookup y = some .cell ∨ scope.names.lookup y = some .free := hy
    rcases hy with hy | hy
    · exact cell_has hy
    · exact absurd rfl (S.nofree _ (PySem.mem_of_lookup hy))
  · exact Nat.le_of_lt (x.above y c (PySem.mem_of_lookup h))
  · have hi : i < vs.length := by
      unfold start at h2
      by_cases hi : i < vs.length
      · exact hi
      · rw [List.getElem?_append_right (by simpa using hi)] at h2
        rw [List.getElem?_replicate] at h2
        split at h2 <;> cases h2
    have ha : vs[i]? = some v := by
      unfold start at h2
      rw [List.getElem?_append_left (by simpa using hi), List.getElem?_map] at h2
      cases e : vs[i]? with
      | none => rw [e] at h2; cases h2
      | some a => rw [e] at h2; cases h2; rfl
    obtain ⟨u, hu, rv⟩ := r.get ha
    have hp : ps[i]? = some y := by
      rw [← S.pre, List.getElem?_take_of_lt (by omega)]; exact h1
    have ndP : ps.Nodup := by rw [← S.pre]; exact S.nd.sublist (List.take_sublist _ _)
    refine ⟨u, rv, ?_⟩
    rcases S.par y (List.mem_of_getElem? hp) with k | k
    · exact .inl ⟨k, bindL_get ndP hp hu k⟩
    · obtain ⟨c, e⟩ := cell_has (n := s.heap.objs.size + 1) k
      refine .inr ⟨.inl k, c, e, ?_⟩
      have q := x.cell y c e
      rw [bindC_get ndP hp hu (by show scope.names.lookup y ≠ _; rw [k]; decide)] at q
      exact q
  · exact e0.hok.fresh (Nat.le_of_lt (x.above y c (PySem.mem_of_lookup h)))
  · unfold start
    show _ = N.length
    rw [List.length_append, List.length_map, List.length_replicate]
    omega
/-- THE RULE: a def (or a method) of the text, by its body. The body's reading t is chosen for each entry; it is run at the parameters' values -/
theorem fn_of {CX : CXT} {P : Program} {w : World} {K : PySem.W.Frag} {mg : Str → Option Value} {base : Heap} {k : Nat} {f : Addr} {name qual : Str} {params : Arguments} {body : List Stmt} {scope : Scope} {dV kV doc pm cdv ct oc : Value} {an od : Option Addr}
    {osl : Array (Option Value)} {N ps : List Str} {sp : Sp} (lk : K.lookup f = some ⟨oc, od, .func (PySem.W.fnOf name qual params body scope dV kV doc pm an cdv ct), osl⟩) (hcd : PySem.W.codeIn K cdv qual = true) (S : FnScope N ps scope)
    (len : ∀ vs H Q E, sp vs H Q E → vs.length = ps.length)
    (hbody : ∀ (A : Around) (outer : List Env) (s : Shared) (H : Hp) (vs : List V) (Q : VK) (E : XK), Room k (A.deeper (envOfC qual scope s.heap.objs.size f cdv)) → sp vs H Q E →
      ∃ t, PSs (cxOf CX P w K mg base N qual scope f cdv A outer s H E) body t ∧ t { nx := fun _ H' => Q .non H', rt := Q } (start N vs) H) :
    FnOk P w K mg base CX (k + 1) f (PySem.W.fnOf name qual params body scope dV kV doc pm an cdv ct) ps sp := by
  refine ⟨len, fun A outer s H args us vs Q E hr e0 hb r hsp => ?_⟩
  have hl := len _ _ _ _ hsp
  have KX : K.In s.heap := e0.mod.kin.keeps fun b o e => (e0.bs b o e).1
  have lim : s.heap.NoLimit := e0.mod.nolimit.keeps fun b o e => (e0.bs b o e).1
  have hkind : ∀ y ∈ ps.zip us, scope.names.lookup y.1 = some .local ∨ (scope.names.lookup y.1 = some .cell ∧ ((cellsFrom (s.heap.objs.size + 1) scope.names []).lookup y.1).isSome = true) := fun ⟨n, v⟩ hy => by
    rcases S.par n (List.of_mem_zip hy).1 with q | q
    · exact .inl q
    · exact .inr ⟨q, PySem.W.cellsFrom_some _ _ _ (.inl q)⟩
  refine codeAny_call_function hr.depth (KX _ _ lk) rfl S.co S.gen rfl (PySem.W.codeRec_of KX hcd) (hb _ _ _ _ ?_)
  refine wpAny_newFunctionEnv_cells S.kind hkind fun env he s1 x => ?_
  subst he
  refine ⟨lim.keeps x.toInCall.keep, codeAny_func ?_⟩
  obtain ⟨t, ht, hq⟩ := hbody A outer s H vs Q E (hr.deeper _) hsp
  have I : Inv (cxOf CX P w K mg base N qual scope f cdv A outer s H E) [] (start N vs) H s1 := inv_start S hr.hd e0 hl r x
  refine wpAny_mono (ht [] s1 (start N vs) H _ I hq) (fun fl s' hs => ?_) fun e s' hs => hs
  have fin : ∀ {σ' : St} {H' : Hp} {v : V} {u : Value}, Inv (cxOf CX P w K mg base N qual scope f cdv A outer s H E) [] σ' H' s' → RelV v u → Q v H' → CE outer P w H s Q u s' :=
    fun {σ' H' v u} J rv q => ⟨v, H', J.os, J.bare, J.base, J.hok, rv, q⟩
  cases fl with
  | ret u =>
    obtain ⟨v, σ', H', J, rv, q⟩ := hs
    exact fin J rv q
  | next =>
    obtain ⟨σ', H', J, q⟩ := hs
    exact fin (v := V.non) (u := Value.none) J rfl q
  | brk =>
    obtain ⟨_, _, _, q⟩ := hs
    exact False.elim q
  | cont =>
    obtain ⟨_, _, _, q⟩ := hs
    exact False.elim q
end L2
namespace L2
open PySem PySem.Spec PyProof.Rows
section
variable {X : Cx} {x : Str} {p pos : Pos} {e : Expr} {es : List Expr} {t : TA} {id T : String} {r : List V → Hp → VK → Prop}
def tCB (r : List V → Hp → VK → Prop) (t : TA) : TE := fun σ H Q => t σ H fun vs H1 => r vs H1 Q
/-- f(e, ..), f a built-in function -/
theorem pe_callB (hc : CallR X (.builtin id) r) (hg : Gl X x) (hm : X.mg x = none) (hv : bootBuiltins x = some (.builtin id)) (ha : PA X (e :: es) t) (hn : x ≠ "__name__" := by decide) (hdb : (x == ("__debug__" : Str)) = false := by decide)
    (he : starEach (e :: es) X.env = (false, eval e X.env) :: starEach es X.env := by rfl) (hpl : (backTo pos (starEach es X.env)).any (·.1) = false := by rfl) : PE X (.Call (.Name x p) (e :: es) [] pos) (tCB r t) := by
  intro pins s σ H Q I h
  refine wpAny_Call_Name_kw (ld_blt I hg hm hv ?_ hn hdb)
  exact PyProof.Rows.callWith_builtin1 (thn (ha pos pins s σ H _ I h) fun us s1 ⟨vs, H1, I1, r1, q1⟩ => hc pins s1 σ H1 vs us Q I1 r1 q1) he hpl
end
end L2
namespace HT
open PySem PyProof.Rows
section
open PySem.SeqAt
open PySem.AutoSeq1 (wpAny_loadPart')
open PySem.MeetsSeq PySem.MeetsSeq2 PySem.MeetsSeq3
end
section
variable {prog : Program} {w : World} {A : Around} {E : Value → Shared → Prop} {s : Shared}
/-- a slice's bound as a place among n (d where it is left out) -/
def sIx (n d : Nat) : Option Int → Nat
  | none => d
  | some v => if v < 0 then (v + (n : Int)).toNat else min v.toNat n
theorem sIx_nat (n d k : Nat) : sIx n d (some (k : Int)) = min k n := by
  show (if (k : Int) < 0 then ((k : Int) + (n : Int)).toNat else min (k : Int).toNat n) = min k n
  rw [if_neg (by omega), Int.toNat_natCast]
end
end HT
namespace L2
open PySem PySem.Spec PyProof.Rows
abbrev TO := St → Hp → (Option Int → Hp → Prop) → Prop
/-- a slice's part (left out, or an int) -/
def PO (X : Cx) (e : Option Expr) (t : TO) : Prop :=
  ∀ (pins : List (Addr × Obj)) (s : Shared) (σ : St) (H : Hp) (Q : Option Int → Hp → Prop), Inv X pins σ H s → t σ H Q →
    wpAny (model X.prog X.w) X.A (evalPart e X.env) (fun u s' => ∃ o H', Inv X pins σ H' s' ∧ IsPart u o ∧ Q o H') X.xe s
def tPart (t : TE) : TO := fun σ H Q => t σ H fun x H1 => ∃ i, x = .int i ∧ Q (some i) H1
section
variable {X : Cx} {e : Expr} {te : TE} {lo hi : Option Expr} {tl th : TO} {pos p2 : Pos}
theorem po_some (h : PE X e te) : PO X (some e) (tPart te) := by
  intro pins s σ H Q I hw
  rw [evalPart_some]
  refine thn (h pins s σ H _ I hw) fun u s1 ⟨x, H1, I1, r1, q1⟩ => ?_
  obtain ⟨i, rfl, q⟩ := q1
  obtain ⟨t, rfl⟩ := r1
  exact ⟨some i, H1, I1, .int i t, q⟩
/-- what a slice of a value is, by values: the slice object stands at sl -/
def SlR (X : Cx) (r : V → Option Int → Option Int → Hp → VK → Prop) : Prop :=
  ∀ (pins : List (Addr × Obj)) (s : Shared) (σ : St) (H : Hp) (x : V) (v vl vu : Value) (lo hi : Option Int) (sl : Addr) (Q : VK), Inv X pins σ H s → RelV x v → s.heap.IsSliceOf sl vl vu .none → IsPart vl lo → IsPart vu hi → r x lo hi H Q →
    ∃ T id, typeLookup (.type T) "__getitem__" = pure (some (.builtin id)) ∧ s.TypeIs v T ∧ wpAny (model X.prog X.w) X.A (getItem v (.ref sl)) (EP X pins σ Q) X.xe s
def tSl (r : V → Option Int → Option Int → Hp → VK → Prop) (te : TE) (tl th : TO) : TE := fun σ H Q => te σ H fun x H1 => tl σ H1 fun l H2 => th σ H2 fun u H3 => r x l u H3 Q
/-- a[lo:hi], any a -/
theorem pe_slice {r : V → Option Int → Option Int → Hp → VK → Prop} (hr : SlR X r) (he : PE X e te) (hl : PO X lo tl) (hu : PO X hi th) : PE X (.Subscript e (.Slice lo hi none p2) pos) (tSl r te tl th) := by
  intro pins s σ H Q I h
  refine Subscript_ (thn (he pins s σ H _ I h) fun v s1 ⟨x, H1, I1, r1, q1⟩ => ?_)
  refine wpAny_Slice (thn (hl pins s1 σ H1 _ I1 q1) fun vl s2 ⟨l, H2, I2, pl, q2⟩ => thn (hu pins s2 σ H2 _ I2 q2) fun vu s3 ⟨u, H3, I3, pu, q3⟩ => ?_)
  rw [evalPart_none]
  refine wpAny_pure ?_
  have I4 : Inv X pins σ H3 { s3 with heap := s3.heap.push { cls := .type "slice", data := .fields #[vl, vu, .none] } } := I3.kept (t' := s3.toks) fun b ob q => Heap.get?_push_of_some _ q
  obtain ⟨T, id, hT, ht, hg⟩ := hr pins { s3 with heap := s3.heap.push { cls := .type "slice", data := .fields #[vl, vu, .none] } } σ H3 x v vl vu l u s3.heap.objs.size Q I4 r1 (Heap.IsSliceOf.new ..) pl pu q3
  show wpAny (model X.prog X.w) X.A (subscriptTail e (.Slice lo hi none p2) v (.ref s3.heap.objs.size)) (EP X pins σ Q) X.xe { s3 with heap := s3.heap.push { cls := .type "slice", data := .fields #[vl, vu, .none] } }
  exact tail_any (ops := [.ref s3.heap.objs.size, v]) ht hT hg (by with_unfolding_all rfl)
/-- the items of xs[lo:hi] -/
def cutV (xs : List V) (lo hi : Option Int) : List V := (xs.drop (HT.sIx xs.length 0 lo)).take (HT.sIx xs.length xs.length hi - HT.sIx xs.length 0 lo)
theorem cutV_length (xs : List V) (lo hi : Option Int) : (cutV xs lo hi).length ≤ xs.length := by
  unfold cutV
  rw [List.length_take, List.length_drop]
  omega
end
end L2
namespace L2
open PySem PySem.Spec PyProof.Rows
/-- the place that an index of any sign means -/
def ixN (n : Nat) (i : Int) : Option Nat := if 0 ≤ i then (if i < n then some i.toNat else none) else if -(n : Int) ≤ i then some (i + n).toNat else none
def atI {α : Type} (xs : List α) (i : Int) : Option α := (ixN xs.length i).bind fun j => xs[j]?
theorem ixN_seq {n : Nat} {i : Int} {j : Nat} (h : ixN n i = some j) : seqIndex? i n = some j ∧ j < n ∧ -(n : Int) ≤ i ∧ i < n := by
  unfold ixN at h
  by_cases h0 : 0 ≤ i
  · rw [if_pos h0] at h
    by_cases h1 : i < n
    · rw [if_pos h1] at h
      have e : i.toNat = j := Option.some.inj h
      exact ⟨by rw [seqIndex_of h0 h1, e], by omega, by omega, h1⟩
    · rw [if_neg h1] at h; cases h
  · rw [if_neg h0] at h
    by_cases h1 : -(n : Int) ≤ i
    · rw [if_pos h1] at h
      have e : (i + n).toNat = j := Option.some.inj h
      exact ⟨by rw [seqIndex_neg (by omega) h1, e], by omega, h1, by omega⟩
    · rw [if_neg h1] at h; cases h
theorem atI_get {α : Type} {xs : List α} {i : Int} {v : α} (h : atI xs i = some v) : ∃ j, seqIndex? i xs.length = some j ∧ xs[j]? = some v ∧ j < xs.length ∧ -(xs.length : Int) ≤ i ∧ i < xs.length := by
  unfold atI at h
  cases e : ixN xs.length i with
  | none => rw [e] at h; cases h
  | some j =>
    rw [e] at h
    obtain ⟨h1, h2, h3, h4⟩ := ixN_seq e
    exact ⟨j, h1, h, h2, h3, h4⟩
theorem atI_nat {α : Type} {xs : List α} {j : Nat} {v : α} (h : xs[j]? = some v) : atI xs (j : Int) = some v := by
  have hj : j < xs.length := (List.getElem?_eq_some_iff.mp h).1
  have e : ixN xs.length (j : Int) = some j := by
    unfold ixN
    rw [if_pos (by omega), if_pos (by omega)]; simp
  unfold atI; rw [e]; exact h
/-- what stands as an index of a plain subscript -/
def PlainIx (b : Expr) : Prop := ∀ o i, subscripted b false o i = operate [o, i] (getItem o i)
/-- a subscript by values -/
def IxR (X : Cx) (r : R2) : Prop :=
  ∀ (value slice : Expr) (pins : List (Addr × Obj)) (s : Shared) (σ : St) (H : Hp) (x y : V) (v u : Value) (Q : VK), Inv X pins σ H s → RelV x v → RelV y u → r x y H Q →
    subscripted slice false v u = operate [v, u] (getItem v u) → wpAny (model X.prog X.w) X.A (subscriptTail value slice v u) (EP X pins σ Q) X.xe s
/-- a call of a builtin's method by values: the receiver, the arguments -/
def MtR (X : Cx) (id : String) (r : V → List V → Hp → VK → Prop) : Prop :=
  ∀ (pins : List (Addr × Obj)) (s : Shared) (σ : St) (H : Hp) (x : V) (xs : List V) (v : Value) (us : List Value) (Q : VK), Inv X pins σ H s → RelV x v → Vals xs us → r x xs H Q →
    wpAny (model X.prog X.w) X.A (call (.builtin id) (v :: us)) (EP X pins σ Q) X.xe s
section
variable {X : Cx} {a b : Expr} {ta tb : TE} {pos : Pos}
/-- a[b] -/
theorem pe_ix {r : R2} (hr : IxR X r) (ha : PE X a ta) (hb : PE X b tb) (hs : PlainIx b) : PE X (.Subscript a b pos) (tOp r ta tb) := by
  intro pins s σ H Q I h
  exact Subscript_ (binT ha hb I h fun v u s2 x y H2 I2 rx ry q => hr a b pins s2 σ H2 x y v u Q I2 rx ry q (hs _ _))
def rIxL (K : PySem.W.Frag) : R2 := fun x y H Q => ∃ p xs i v, x = .ref p ∧ y = .int i ∧ SqL K H p xs ∧ atI xs i = some v ∧ Q v H
theorem ix_list : IxR X (rIxL X.K) := by
  intro value slice pins s σ H x y v u Q I rx ry h hs
  obtain ⟨p, xs, i, z, rfl, rfl, hq, he, q⟩ := h
  cases rx
  obtain ⟨t, rfl⟩ := ry
  obtain ⟨its, r, pl, hz⟩ := I.list hq
  obtain ⟨j, h1, h2, h3, h4, h5⟩ := atI_get he
  obtain ⟨w, ew, rw'⟩ := r.get h2
  have hl := r.length
  have hn := line63
  have fin : EP X pins σ Q w s := ⟨z, H, I, rw', q⟩
  by_cases h0 : 0 ≤ i
  · have hj : i.toNat = j := by
      rw [seqIndex_of h0 h5] at h1
      exact Option.some.inj h1
    exact item_listR pl.isList h0 (by omega) (by rw [hj]; simpa using ew) fin hs
  · have hj : (i + (its.toArray.size : Int)).toNat = j := by
      rw [seqIndex_neg (by omega) h4] at h1
      rw [List.size_toArray, ← hl]
      exact Option.some.inj h1
    exact subscriptTail_builtinR (x := w) pl.isList.typeIs slot_list_getitem.lookup
      (wpAny_getItem_list_neg (Q := fun r s' => r = w ∧ EP X pins σ Q r s') pl.isList (by omega) (by rw [List.size_toArray] <;> omega) (by omega) (by rw [hj]; simpa using ew) ⟨rfl, fin⟩) hs
/-- the list's object behind a store -/
theorem mapSeq_set (its : List Value) (n j : Nat) (u : Value) : Obj.mapSeq (·.setIfInBounds j u) { cls := .type "list", data := .seq its.toArray n } = { cls := .type "list", data := .seq (its.set j u).toArray n } := by
  simp [Obj.mapSeq]
theorem Inv.lst {pins : List (Addr × Obj)} {σ : St} {H : Hp} {s : Shared} {p : Addr} {xs : List V} (I : Inv X pins σ H s) (h : H p = some (.lst xs)) :
    ∃ (its : List Value) (n : Nat), Vals xs its ∧ s.heap.get? p = some { cls := .type "list", data := .seq its.toArray n } ∧ xs.length ≤ sizeLine := by
  obtain ⟨z, its, n, r, e⟩ := I.hok p _ h
  exact ⟨its, n, r, e, z⟩
/-- the list at p is written by an update of its object -/
theorem Inv.lstUpd {pins : List (Addr × Obj)} {σ : St} {H : Hp} {s : Shared} {p : Addr} {xs ys : List V} {its its' : List Value} {n n' : Nat} {f : Obj → Obj} (I : Inv X pins σ H s) (h : H p = some (.lst xs))
    (ho : s.heap.get? p = some { cls := .type "list", data := .seq its.toArray n }) (hf : f { cls := .type "list", data := .seq its.toArray n } = { cls := .type "list", data := .seq its'.toArray n' }) (r : Vals ys its') (hz : ys.length ≤ sizeLine) (t : Nat) :
    Inv X pins σ (upd H p (.lst ys)) { s with heap := s.heap.update p f, toks := t } := by
  have e : (s.heap.update p f).get? p = some { cls := .type "list", data := .seq its'.toArray n' } := by
    rw [Heap.get?_update_self f ho (by rw [hf] <;> rfl), hf]
  refine I.write (x := p) (e := p) (by rw [h]; trivial) (.inl rfl) (fun b u hb q => (Heap.get?_update_other _ _ (Ne.symm hb)).trans q) ⟨_, e⟩ ?_
  exact ⟨hz, its', n', r, e⟩
def rSetL : V → V → V → Hp → (Hp → Prop) → Prop := fun o i v H Q => ∃ p xs k j, o = .ref p ∧ i = .int k ∧ H p = some (.lst xs) ∧ ixN xs.length k = some j ∧ Q (upd H p (.lst (xs.set j v)))
theorem set_list : PSet X rSetL := by
  intro pins s σ H o i v ov iv u Q I ro ri rv h
  obtain ⟨p, xs, k, j, rfl, rfl, hp, hj, q⟩ := h
  cases ro
  obtain ⟨t, rfl⟩ := ri
  obtain ⟨its, n, r, ho, hz⟩ := I.lst hp
  obtain ⟨h1, h2, h3, h4⟩ := ixN_seq hj
  have hl := r.length
  have hn := line63
  have I' : Inv X pins σ (upd H p (.lst (xs.set j v))) { s with heap := s.heap.update p (Obj.mapSeq (·.setIfInBounds j u)) } :=
    I.lstUpd hp ho (mapSeq_set its n j u) (r.set rv j) (by rw [List.length_set]; exact hz) s.toks
  by_cases h0 : 0 ≤ k
  · have hk : k.toNat = j := by
      rw [seqIndex_of h0 h4] at h1
      exact Option.some.inj h1
    exact PySem.W.ki_setAt ho h0 (by omega) (by rw [List.size_toArray, ← hl]; exact h4) (by rw [hk]; exact ⟨_, I', q⟩)
  · have hk : (k + (its.toArray.size : Int)).toNat = j := by
      rw [seqIndex_neg (by omega) h3] at h1
      rw [List.size_toArray, ← hl]
      exact Option.some.inj h1
    exact PySem.W.ki_setBack ho (by omega) (by rw [List.size_toArray, ← hl]; exact h3) (by omega) (by rw [hk]; exact ⟨_, I', q⟩)
theorem slice_bounds (lo hi : Option Int) (n : Nat) : (sliceBounds lo hi none n).1 = ((HT.sIx n 0 lo : Nat) : Int) ∧ (sliceBounds lo hi none n).2.1 = ((HT.sIx n n hi : Nat) : Int) ∧ (sliceBounds lo hi none n).2.2 = 1 := by
  refine ⟨?_, ?_, rfl⟩
  · cases lo with
    | none => simp [sliceBounds, HT.sIx]
    | some i =>
      simp only [sliceBounds, HT.sIx, Option.getD_none, show (1 : Int) > 0 by decide, if_true]
      by_cases h : i < 0
      · simp only [h, if_true] <;> omega
      · simp only [h, if_false] <;> omega
  · cases hi with
    | none => simp [sliceBounds, HT.sIx]
    | some i =>
      simp only [sliceBounds, HT.sIx, Option.getD_none, show (1 : Int) > 0 by decide, if_true]
      by_cases h : i < 0
      · simp only [h, if_true] <;> omega
      · simp only [h, if_false] <;> omega
theorem slicePick_cut (its : List Value) (lo hi : Option Int) : slicePick its.toArray lo hi none = ((its.drop (HT.sIx its.length 0 lo)).take (HT.sIx its.length its.length hi - HT.sIx its.length 0 lo)).toArray := by
  obtain ⟨h1, h2, h3⟩ := slice_bounds lo hi its.toArray.size
  unfold slicePick
  rw [h1, h2, h3]
  simp only [sliceRange_one, pick_run, List.size_toArray] <;> rfl
/-- xs[lo:hi] of a list: a new list -/
def rSlL (K : PySem.W.Frag) : V → Option Int → Option Int → Hp → VK → Prop := fun x lo hi H Q => ∃ a xs, x = .ref a ∧ SqL K H a xs ∧ ∀ p, H p = none → Q (.ref p) (upd H p (.lst (cutV xs lo hi)))
theorem sl_list : SlR X (rSlL X.K) := by
  intro pins s σ H x v vl vu lo hi sl Q I rx hs pl pu h
  obtain ⟨a, xs, rfl, hx, q⟩ := h
  cases rx
  obtain ⟨its, r, ht, hz⟩ := I.list hx
  have hlen := r.length
  refine ⟨"list", _, slot_list_getitem.lookup, ht.isList.typeIs, ?_⟩
  refine wpAny_getItem_list_slice ht.isList hs pl pu .none (by simp) ?_ (by rw [List.size_toArray] <;> omega)
  rw [slicePick_cut, ← hlen]
  refine ⟨.ref s.heap.objs.size, _, I.laid (t' := s.toks) (o := .lst (cutV xs lo hi)) (fun b ob q => Heap.get?_push_of_some _ q) (Nat.le_refl _) ?_, rfl, q _ (I.hok.fresh (Nat.le_refl _))⟩
  exact ⟨Nat.le_trans (cutV_length xs lo hi) hz, _, 0, (r.drop (HT.sIx xs.length 0 lo)).take (HT.sIx xs.length xs.length hi - HT.sIx xs.length 0 lo), Heap.get?_push_size _ rfl⟩
theorem call_len_seq : CallR X (.builtin "len") (fun xs H Q => ∃ p ys, xs = [.ref p] ∧ (SqL X.K H p ys ∨ SqT X.K H p ys) ∧ Q (.int ys.length) H) := by
  intro pins s σ H xs us Q I r h
  obtain ⟨p, ys, rfl, hq, q⟩ := h
  obtain ⟨u, rfl, rx⟩ := vals1 r
  cases rx
  have hn := line63
  rcases hq with hq | hq
  · obtain ⟨its, r', pl, hz⟩ := I.list hq
    have hlen := r'.length
    exact Calls.call_len_list pl.isList (by simp only [List.size_toArray] <;> omega) ⟨.int ys.length, H, I.tok _, ⟨s.toks + 1, by rw [List.size_toArray, hlen]⟩, q⟩
  · obtain ⟨its, r', pl, hz⟩ := I.tuple hq
    have hlen := r'.length
    exact len_tuple pl (by simp only [List.size_toArray] <;> omega) ⟨.int ys.length, H, I.tok _, ⟨s.toks + 1, by rw [List.size_toArray, hlen]⟩, q⟩
/-- the value is of that builtin type -/
def tyV (K : PySem.W.Frag) (T : String) (x : V) (H : Hp) : Prop := match x with
  | .str _ => T = "str"
  | .int _ => T = "int"
  | .ref p => (T = "list" ∧ ∃ xs, SqL K H p xs) ∨ (T = "tuple" ∧ ∃ o, K.lookup p = some o ∧ o.cls = .type "tuple" ∧ o.dict = none) ∨
      (T = "dict" ∧ ((∃ kvs, H p = some (.dK kvs)) ∨ ∃ kvs, H p = some (.dT kvs))) ∨ (T = "set" ∧ ∃ S n, H p = some (.set S n))
  | _ => False
theorem tyV_is {pins : List (Addr × Obj)} {σ : St} {H : Hp} {s : Shared} {T : String} {x : V} {v : Value} (I : Inv X pins σ H s) (r : RelV x v) (ty : tyV X.K T x H) :
    s.TypeIs v T ∧ ∀ a, v = .ref a → ∃ ob, s.heap.get? a = some ob ∧ ob.dict = none := by
  cases x with
  | str z =>
    obtain ⟨t, rfl⟩ := r
    cases (show T = "str" from ty)
    exact ⟨typeIs_str s z t, fun _ e => nomatch e⟩
  | int i =>
    obtain ⟨t, rfl⟩ := r
    cases (show T = "int" from ty)
    exact ⟨typeIs_int s i t, fun _ e => nomatch e⟩
  | ref p =>
    cases r
    rcases ty with ⟨rfl, xs, hq⟩ | ⟨rfl, o, hk, hc, hd⟩ | ⟨rfl, hk⟩ | ⟨rfl, S, n, hk⟩
    · obtain ⟨its, _, pl, _⟩ := I.list hq
      refine ⟨pl.isList.typeIs, fun a e => ?_⟩
      cases e
      obtain ⟨o, n, e, c, hd, _⟩ := pl
      exact ⟨o, e, hd⟩
    · refine ⟨⟨o, I.kIn p o hk, hc⟩, fun a e => ?_⟩
      cases e
      exact ⟨o, I.kIn _ o hk, hd⟩
    · have z : ∃ o, s.heap.get? p = some o ∧ o.ExactDict := by
        rcases hk with ⟨kvs, hk⟩ | ⟨kvs, hk⟩
        · obtain ⟨_, _, _, _, o, _, _, e, ex, _⟩ := I.hok p _ hk
          exact ⟨o, e, ex⟩
        · obtain ⟨_, _, _, _, o, _, _, e, ex, _⟩ := I.hok p _ hk
          exact ⟨o, e, ex⟩
      obtain ⟨o, e, ex⟩ := z
      refine ⟨⟨o, e, ex.1⟩, fun a e2 => ?_⟩
      cases e2
      exact ⟨o, e, ex.2.1⟩
    · obtain ⟨o, _, _, _, e, ex, _⟩ := I.hok p _ hk
      refine ⟨⟨o, e, ex.1⟩, fun a e2 => ?_⟩
      cases e2
      exact ⟨o, e, ex.2.1⟩
  | _ => exact False.elim ty
def tBM0 (K : PySem.W.Frag) (T : String) (r : V → List V → Hp → VK → Prop) (to : TE) : TE := fun σ H Q => to σ H fun x H1 => tyV K T x H1 ∧ r x [] H1 Q
def tBM (K : PySem.W.Frag) (T : String) (r : V → List V → Hp → VK → Prop) (to : TE) (t : TA) : TE := fun σ H Q => to σ H fun x H1 => tyV K T x H1 ∧ t σ H1 fun xs H2 => r x xs H2 Q
variable {o e : Expr} {es : List Expr} {to : TE} {t : TA} {name : Str} {apos cpos : Pos} {T id : String} {r : V → List V → Hp → VK → Prop}
theorem pe_bm0 (pa : PlainAttrs T) (slot : Slot T name id) (hty : typeOf (.builtin id) = pure (.type "method_descriptor")) (hm : MtR X id r) (ho : PE X o to)
    (hbase : attributeBase o name X.env (eval o X.env) = eval o X.env := by rfl) (hline : (apos.endLine == cpos.line) = true := by rfl) : PE X (.Call (.Attribute o name apos) [] [] cpos) (tBM0 X.K T r to) := by
  intro pins s σ H Q I h
  refine wpAny_Call_method0_late hbase hline (thn (ho pins s σ H _ I h) fun v s1 ⟨x, H1, I1, r1, ty, q1⟩ => ?_)
  obtain ⟨h1, h2⟩ := tyV_is I1 r1 ty
  exact ⟨T, id, pa, slot, hty, h1, h2, Calls.callWith_builtin rfl (PySem.evalArgs_none (hm pins s1 σ H1 x [] v [] Q I1 r1 .nil q1))⟩
theorem pe_bm (pa : PlainAttrs T) (slot : Slot T name id) (hty : typeOf (.builtin id) = pure (.type "method_descriptor")) (hm : MtR X id r) (ho : PE X o to) (ha : PA X (e :: es) t)
    (hbase : attributeBase o name X.env (eval o X.env) = eval o X.env := by rfl)
    (hfew : ((backTo cpos (starEach (e :: es) X.env)).all (fun x => !x.1) && (backToKw cpos (keywordEach [] X.env)).all (fun x => x.1.isSome)
      && decide ((e :: es).length + ([] : List Keyword).length + (if ([] : List Keyword).isEmpty then 0 else 1) < 30)) = true := by rfl)
    (hline : (apos.endLine == cpos.line) = true := by rfl) (hs : starEach (e :: es) X.env = (false, eval e X.env) :: starEach es X.env := by rfl) (hplain : (backTo cpos (starEach es X.env)).any (·.1) = false := by rfl) :
    PE X (.Call (.Attribute o name apos) (e :: es) [] cpos) (tBM X.K T r to t) := by
  intro pins s σ H Q I h
  refine wpAny_Call_method_late hbase hfew hline rfl (thn (ho pins s σ H _ I h) fun v s1 ⟨x, H1, I1, r1, ty, q1⟩ => ?_)
  obtain ⟨h1, h2⟩ := tyV_is I1 r1 ty
  refine ⟨T, id, pa, slot, hty, h1, h2, ?_⟩
  have hA := ha cpos pins s1 σ H1 _ I1 q1
  rw [hs] at hA ⊢
  refine Calls.callWith_builtin (by show (false || (backTo cpos (starEach es X.env)).any (·.1)) = false; rw [hplain] <;> rfl) (Calls.evalArgs_plain ?_)
  exact thn hA fun us s2 ⟨vs, H2, I2, r2, q2⟩ => hm pins s2 σ H2 x vs v us Q I2 r1 r2 q2
end
end L2
namespace L2
open PySem PySem.Spec PyProof.Rows
def MtM (X : Cx) (id : String) (r : V → List V → Hp → VK → Prop) : Prop :=
  ∀ (pins : List (Addr × Obj)) (s : Shared) (σ : St) (H : Hp) (x : V) (xs : List V) (v : Value) (us : List Value) (Q : VK), Inv X pins σ H s → RelV x v → Vals xs us → r x xs H Q →
    wpAny (model X.prog X.w) X.A (call (.builtin id) (v :: us)) (EP X pins σ Q) X.xe s
theorem Vals.one : ∀ {x : V} {us : List Value}, Vals [x] us → ∃ u, us = [u] ∧ RelV x u
  | _, _, .cons r .nil => ⟨_, rfl, r⟩
theorem Vals.rep {xs : List V} {us : List Value} (h : Vals xs us) : ∀ k : Nat, Vals (List.replicate k xs).flatten (List.replicate k us).flatten
  | 0 => .nil
  | k + 1 => by
    rw [List.replicate_succ, List.replicate_succ, List.flatten_cons, List.flatten_cons]
    exact Vals.append h (Vals.rep h k)
theorem foldl_rep (its : List Value) : ∀ (k : Nat) (acc : List Value),
    List.foldl (fun x1 x2 => x1 ++ x2) acc.toArray (List.replicate k its.toArray) = (acc ++ (List.replicate k its).flatten).toArray
  | 0, acc => by simp
  | k + 1, acc => by
    have e : acc.toArray ++ its.toArray = (acc ++ its).toArray := by simp
    have e2 : (acc ++ its) ++ (List.replicate k its).flatten = acc ++ (List.replicate (k + 1) its).flatten := by
      rw [List.replicate_succ, List.flatten_cons, List.append_assoc]
    rw [← e2, ← foldl_rep its k (acc ++ its), ← e, List.replicate_succ, List.foldl_cons]
section
variable {X : Cx} {pins : List (Addr × Obj)} {σ : St} {H : Hp} {s : Shared} {l b : Addr} {xs ys zs : List V}
theorem Inv.lset {its its' : List Value} {n : Nat} {f : Array Value → Array Value} {t' : Nat} (I : Inv X pins σ H s) (hH : H l = some (.lst xs))
    (e : s.heap.get? l = some { cls := .type "list", data := .seq its.toArray n }) (hf : f its.toArray = its'.toArray) (hv : Vals ys its') (hz : ys.length ≤ sizeLine) :
    Inv X pins σ (upd H l (.lst ys)) { s with heap := s.heap.update l (Obj.mapSeq f), toks := t' } := by
  have q := PySem.IsL.update e f
  rw [hf] at q
  refine I.write (x := l) (e := l) (by rw [hH]; exact trivial) (.inl rfl) (fun b' u hb hu => (Heap.get?_update_other s.heap (Obj.mapSeq f) (Ne.symm hb)).trans hu) ⟨_, q⟩ ?_
  exact ⟨hz, its', _, hv, q⟩
theorem Inv.lnew {its : List Value} {t' : Nat} (I : Inv X pins σ H s) (hv : Vals ys its) (hz : ys.length ≤ sizeLine) :
    Inv X pins σ (upd H s.heap.objs.size (.lst ys)) { s with heap := s.heap.push { cls := .type "list", data := .seq its.toArray }, toks := t' } :=
  I.laid (fun _ _ q => Heap.get?_push_of_some _ q) (Nat.le_refl _) ⟨hz, its, 0, hv, Heap.get?_push_size _ rfl⟩
theorem Inv.fresh (I : Inv X pins σ H s) : H s.heap.objs.size = none := I.hok.fresh (Nat.le_refl _)
theorem Inv.lstM (I : Inv X pins σ H s) (hH : H l = some (.lst xs)) : xs.length ≤ sizeLine ∧ ∃ (its : List Value) (n : Nat), Vals xs its ∧ xs.length = its.length ∧ s.heap.get? l = some { cls := .type "list", data := .seq its.toArray n } := by
  obtain ⟨z, its, n, r, e⟩ := I.hok l _ hH
  exact ⟨z, its, n, r, r.length, e⟩
theorem notLongL {n : Nat} (h : n ≤ sizeLine) : Builtin.List.listTooLong n = false := by
  unfold Builtin.List.listTooLong
  exact decide_eq_false (by omega)
end
section
variable {X : Cx}
def rExtend : V → List V → Hp → VK → Prop := fun x vs H Q => ∃ l b xs zs, x = .ref l ∧ vs = [.ref b] ∧ H l = some (.lst xs) ∧ H b = some (.lst zs) ∧ xs.length + zs.length ≤ sizeLine ∧ Q .non (upd H l (.lst (xs ++ zs)))
theorem mt_extend : MtM X "list.extend" rExtend := by
  intro pins s σ H x vs v us Q I rx rv h
  obtain ⟨l, b, xs, zs, rfl, rfl, hH, hB, hz, q⟩ := h
  cases rx
  obtain ⟨u, rfl, ru⟩ := rv.one
  cases ru
  obtain ⟨z, its, n, r, hl, e⟩ := I.lstM hH
  obtain ⟨z2, its2, n2, r2, hl2, e2⟩ := I.lstM hB
  have hsz : its.toArray.size + its2.toArray.size ≤ sizeLine := by rw [List.size_toArray, List.size_toArray]; omega
  have hlong : ¬ (!its.toArray.isEmpty && Builtin.List.listTooLong (its.toArray.size + its2.toArray.size)) = true := by
    rw [notLongL hsz, Bool.and_false]
    exact Bool.false_ne_true
  refine call_meets F.slot_list_extend ⟨_, e, rfl⟩ F.entry_list_extend (F.args_list_extend_2 _ _)
    (AutoSeq1.list_extend_list_list_0 l its.toArray n b its2.toArray n2 hlong (by rw [List.size_toArray]; omega) (by omega)) ⟨e, e2, ?_⟩
  refine ⟨.non, _, I.lset (its' := its ++ its2) hH e (by simp) (r.append r2) ?_, rfl, q⟩
  rw [List.length_append]
  omega
def rCat : R2 := fun x y H Q => ∃ l b xs zs, x = .ref l ∧ y = .ref b ∧ H l = some (.lst xs) ∧ H b = some (.lst zs) ∧ xs.length + zs.length ≤ sizeLine ∧ ∀ p, H p = none → Q (.ref p) (upd H p (.lst (xs ++ zs)))
theorem op_cat : OpR X (binaryOp .Add) rCat := by
  intro pins s σ H x y v u Q I rx ry h
  obtain ⟨l, b, xs, zs, rfl, rfl, hH, hB, hz, q⟩ := h
  cases rx
  cases ry
  obtain ⟨z, its, n, r, hl, e⟩ := I.lstM hH
  obtain ⟨z2, its2, n2, r2, hl2, e2⟩ := I.lstM hB
  refine PySem.P.add_list e e2 ?_ (by rw [List.size_toArray, List.size_toArray]; omega)
  have ea : its.toArray ++ its2.toArray = (its ++ its2).toArray := by simp
  rw [ea]
  exact ⟨.ref _, _, I.lnew (t' := s.toks) (r.append r2) (by rw [List.length_append]; omega), rfl, q _ I.fresh⟩
/-- a list times an int (a negative one is nothing) -/
def rRep : R2 := fun x y H Q => ∃ l k xs, x = .ref l ∧ y = .int k ∧ H l = some (.lst xs) ∧ -(2 ^ 63) ≤ k ∧ k < 2 ^ 63 ∧ xs.length * k.toNat ≤ sizeLine ∧
  ∀ p, H p = none → Q (.ref p) (upd H p (.lst (List.replicate k.toNat xs).flatten))
theorem len_rep {α : Type} (xs : List α) (k : Nat) : (List.replicate k xs).flatten.length = k * xs.length := by
  induction k with
  | zero => simp
  | succ k ih => rw [List.replicate_succ, List.flatten_cons, List.length_append, ih, Nat.succ_mul, Nat.add_comm]
theorem op_rep : OpR X (binaryOp .Mult) rRep := by
  intro pins s σ H x y v u Q I rx ry h
  obtain ⟨l, k, xs, rfl, rfl, hH, h1, h2, hz, q⟩ := h
  cases rx
  obtain ⟨t, rfl⟩ := ry
  obtain ⟨z, its, n, r, hl, e⟩ := I.lstM hH
  have hlen : its.toArray.size * k.toNat ≤ sizeLine := by rw [List.size_toArray, ← hl]; exact hz
  have hcap : ¬ its.toArray.size * k.toNat > (2 ^ 63 - 1) / 8 := by
    have : (sizeLine : Nat) ≤ (2 ^ 63 - 1) / 8 := by decide
    omega
  have hfit : ¬ (!Builtin.List.listFitsIndex k) = true := by
    rw [fitsIndex_both h1 h2]
    exact Bool.false_ne_true
  have hlong : ¬ Builtin.List.listTooLong (its.toArray.size * k.toNat) = true := by
    rw [notLongL hlen]
    exact Bool.false_ne_true
  have hnew : List.foldl (fun x1 x2 => x1 ++ x2) #[] (List.replicate (if its.toArray.isEmpty = true then 0 else k.toNat) its.toArray) = (List.replicate k.toNat its).flatten.toArray := by
    have f0 : ∀ m : Nat, List.foldl (fun x1 x2 => x1 ++ x2) #[] (List.replicate m its.toArray) = (List.replicate m its).flatten.toArray := fun m => by
      have := foldl_rep its m []
      rw [List.nil_append] at this
      exact this
    rw [f0]
    cases its with
    | nil => simp
    | cons a r' => rw [if_neg (by simp)]
  refine wpAny_binaryOp_repeat_ref (T := "list") (U := "int") (by decide) ⟨_, e, rfl⟩ (fun s' => typeIs_int s' k t) noFill_list_mul F.fills_int_mul F.slot_int_rmul repeat_list F.slot_int_index.lookup
    (call_meets F.slot_int_rmul (typeIs_int s k t) F.entry_int_rmul (F.args_int_rmul_2 _ _) (int___rmul___int_list k t l its.toArray n)
      ⟨e, rfl, ⟨_, e, rfl⟩, call_meets F.slot_list_mul ⟨_, e, rfl⟩ F.entry_list_mul (F.args_list_mul_2 _ _) (AutoListH.list___mul___list_int_3 l its.toArray n k t hfit hcap hlong) ⟨e, ?_⟩⟩)
  rw [hnew]
  exact ⟨.ref _, _, I.lnew (t' := s.toks) (r.rep k.toNat) (by rw [len_rep, Nat.mul_comm]; exact hz), rfl, q _ I.fresh⟩
end
section
variable {prog : Program} {w : World} {A : Around} {E : Value → Shared → Prop} {s : Shared}
end
section
variable {X : Cx}
end
end L2
namespace L2
open PySem PySem.Spec PyProof.Rows
section
variable {prog : Program} {w : World} {A : Around} {E : Value → Shared → Prop} {s : Shared} {l : Addr} {its : List Value} {ns : List Int} {Q : Value → Shared → Prop}
end
section
variable {X : Cx}
end
section
variable {X : Cx}
end
section
variable {X : Cx}
end
section
variable {X : Cx}
end
mutual
inductive Dp (K : PySem.W.Frag) (H : Hp) : V → PyData → Prop
  | non : Dp K H .non .none
  | bl (b : Bool) : Dp K H (.bl b) (.bool b)
  | int (i : Int) : Dp K H (.int i) (.int i)
  | str (x : Str) : Dp K H (.str x) (.str x)
  | lst {a : Addr} {xs : List V} {ds : List PyData} : SqL K H a xs → DpAll K H xs ds → Dp K H (.ref a) (.list ds)
  | tup {a : Addr} {xs : List V} {ds : List PyData} : SqT K H a xs → DpAll K H xs ds → Dp K H (.ref a) (.tuple ds)
inductive DpAll (K : PySem.W.Frag) (H : Hp) : List V → List PyData → Prop
  | nil : DpAll K H [] []
  | cons {v : V} {vs : List V} {d : PyData} {ds : List PyData} : Dp K H v d → DpAll K H vs ds → DpAll K H (v :: vs) (d :: ds)
end
section
variable {X : Cx} {pins : List (Addr × Obj)} {σ : St} {H : Hp} {s : Shared}
mutual
theorem Dp.reads (I : Inv X pins σ H s) : ∀ (d : PyData) (v : V) (u : Value), Dp X.K H v d → RelV v u → ∃ as, Reads s.heap u d as
  | .none, _, _, h, r => by
    cases h
    cases r
    exact ⟨_, Reads.none⟩
  | .bool b, _, _, h, r => by
    cases h
    cases r
    exact ⟨_, Reads.bool b⟩
  | .int i, _, _, h, r => by
    cases h
    obtain ⟨t, rfl⟩ := r
    exact ⟨_, Reads.int i t⟩
  | .str x, _, _, h, r => by
    cases h
    obtain ⟨t, rfl⟩ := r
    exact ⟨_, Reads.str x t⟩
  | .list ds, _, _, h, r => by
    cases h with
    | lst hs ha =>
      cases r
      obtain ⟨its, rv, ⟨o, n, ho, hc, _, hd⟩, _⟩ := I.list hs
      obtain ⟨as, hr⟩ := Dp.readsAll I ds _ its ha rv
      exact ⟨_, Reads.list ho hc hd hr⟩
  | .tuple ds, _, _, h, r => by
    cases h with
    | tup hs ha =>
      cases r
      obtain ⟨its, rv, ⟨o, ho, hc, n, hd⟩, _⟩ := I.tuple hs
      obtain ⟨as, hr⟩ := Dp.readsAll I ds _ its ha rv
      exact ⟨_, Reads.tuple ho hc hd hr⟩
  | .dict _, _, _, h, _ => by cases h
theorem Dp.readsAll (I : Inv X pins σ H s) : ∀ (ds : List PyData) (vs : List V) (us : List Value), DpAll X.K H vs ds → Vals vs us → ∃ as, ReadsAll s.heap us ds as
  | [], _, _, h, r => by
    cases h
    cases r
    exact ⟨_, ReadsAll.nil⟩
  | d :: ds, _, _, h, r => by
    cases h with
    | cons h1 h2 =>
      cases r with
      | cons r1 r2 =>
        obtain ⟨as, q1⟩ := Dp.reads I d _ _ h1 r1
        obtain ⟨bs, q2⟩ := Dp.readsAll I ds _ _ h2 r2
        exact ⟨_, ReadsAll.cons q1 q2⟩
end
end
section
variable {X : Cx}
def rNeD (K : PySem.W.Frag) : R2 := fun x y H Q => ∃ d e, Dp K H x d ∧ Dp K H y e ∧ SeqAt.shaped d = true ∧ SeqAt.shaped e = true ∧ Q (.bl (!PyData.eqv d e)) H
theorem op_neD (hu : X.A.units + 64 < cLine) : OpR X (compareOp .NotEq) (rNeD X.K) := by
  intro pins s σ H x y v u Q I rx ry h
  obtain ⟨d, e, hd, he, sd, se, q⟩ := h
  obtain ⟨as, r1⟩ := Dp.reads I d x v hd rx
  obtain ⟨bs, r2⟩ := Dp.reads I e y u he ry
  exact SeqAt.compareNe_shaped r1 r2 sd se hu ⟨.bl _, H, I, rfl, q⟩
end
end L2
namespace L2
open PySem PySem.Spec PyProof.Rows
abbrev CellAt (h : Heap) (c : Addr) (v : Option Value) : Prop := h.IsCell c v
def relS (scope sc : Scope) : Scope :=
  { scope with names := scope.names.map fun (n, k) => if (k == .free && sc.kind == .function && sc.names.lookup n == some .cell) then (n, .cell) else (n, k) }
def cloFrom (cells : List (Str × Addr)) : List (Str × NameKind) → List (Str × Addr) → List (Str × Addr)
  | [], acc => acc
  | (n, k) :: r, acc => if k == .free then cloFrom cells r ((n, (cells.lookup n).getD 0) :: acc) else cloFrom cells r acc
theorem closure_loop (env : Env) (f : Str × NameKind → List (Str × Addr) → Sem (ForInStep (List (Str × Addr))))
    (hf : ∀ n k c, f (n, k) c = if k == .free then (do let a ← cellOf env n; pure (.yield ((n, a) :: c))) else pure (.yield c)) :
    ∀ (names : List (Str × NameKind)) (acc : List (Str × Addr)), (∀ y ∈ names, y.2 = .free → ∃ c, env.cells.lookup y.1 = some c) → forIn names acc f = pure (cloFrom env.cells names acc)
  | [], acc, _ => by rw [List.forIn_nil]; rfl
  | (n, k) :: r, acc, h => by
    rw [List.forIn_cons, hf]
    have ih := fun acc => closure_loop env f hf r acc fun y hy => h y (List.mem_cons_of_mem _ hy)
    unfold cloFrom
    by_cases hk : (k == NameKind.free) = true
    · rw [if_pos hk, if_pos hk]
      obtain ⟨c, hc⟩ := h (n, k) List.mem_cons_self (by simpa using hk)
      have e : cellOf env n = pure c := by unfold cellOf; rw [hc]
      rw [e]
      have e2 : (env.cells.lookup n).getD 0 = c := by rw [hc]; rfl
      rw [e2]
      exact ih _
    · rw [if_neg hk, if_neg hk]
      exact ih _
theorem closure_ok {scope : Scope} {env : Env} (h : ∀ y ∈ scope.names, y.2 = .free → ∃ c, env.cells.lookup y.1 = some c) : closureFor scope env = pure (cloFrom env.cells scope.names []) := by
  simp only [closureFor]
  rw [closure_loop env _ (fun n k c => rfl) scope.names [] h]
  rfl
theorem mem_lookup {α : Type} : ∀ {l : List (Str × α)} {n : Str} {c : α}, (n, c) ∈ l → ∃ c', l.lookup n = some c'
  | (k, v) :: r, n, c, h => by
    rw [List.lookup_cons]
    cases hb : n == k with
    | true => exact ⟨_, rfl⟩
    | false =>
      rcases List.mem_cons.mp h with e | h
      · cases e; simp at hb
      · exact mem_lookup h
theorem cloFrom_mem {cells : List (Str × Addr)} : ∀ {names : List (Str × NameKind)} {acc : List (Str × Addr)} {n : Str} {c : Addr}, (n, c) ∈ cloFrom cells names acc → (n, c) ∈ acc ∨ ((n, .free) ∈ names ∧ c = (cells.lookup n).getD 0)
  | [], _, _, _, h => .inl h
  | (m, k) :: r, acc, n, c, h => by
    unfold cloFrom at h
    split at h
    · rename_i hk
      have hk : k = .free := by simpa using hk
      rcases cloFrom_mem h with h | ⟨h1, h2⟩
      · rcases List.mem_cons.mp h with e | h
        · cases e; exact .inr ⟨hk ▸ List.mem_cons_self, rfl⟩
        · exact .inl h
      · exact .inr ⟨List.mem_cons_of_mem _ h1, h2⟩
    · rcases cloFrom_mem h with h | ⟨h1, h2⟩
      · exact .inl h
      · exact .inr ⟨List.mem_cons_of_mem _ h1, h2⟩
theorem cloFrom_acc {cells : List (Str × Addr)} : ∀ {names : List (Str × NameKind)} {acc : List (Str × Addr)} {p : Str × Addr}, p ∈ acc → p ∈ cloFrom cells names acc
  | [], _, _, h => h
  | (m, k) :: r, acc, p, h => by
    unfold cloFrom
    split
    · exact cloFrom_acc (List.mem_cons_of_mem _ h)
    · exact cloFrom_acc h
theorem cloFrom_has {cells : List (Str × Addr)} : ∀ {names : List (Str × NameKind)} {acc : List (Str × Addr)} {n : Str}, (n, .free) ∈ names → (n, (cells.lookup n).getD 0) ∈ cloFrom cells names acc
  | (m, k) :: r, acc, n, h => by
    unfold cloFrom
    rcases List.mem_cons.mp h with e | h
    · cases e
      exact cloFrom_acc List.mem_cons_self
    · split
      · exact cloFrom_has h
      · exact cloFrom_has h
theorem cells_mem : ∀ {names : List (Str × NameKind)} {h : Heap} {acc : List (Str × Addr)} {x : Str} {c : Addr}, (x, c) ∈ cellsFrom h.objs.size names acc →
    (x, c) ∈ acc ∨ ((x, .cell) ∈ names ∧ h.objs.size ≤ c ∧ CellAt (pushCells h names) c none)
  | [], _, _, _, _, h => .inl h
  | (n, k) :: r, h, acc, x, c, hm => by
    unfold cellsFrom at hm
    unfold pushCells
    split at hm
    · rename_i hk
      rw [if_pos hk]
      have hk : k = .cell := by simpa using hk
      rw [← Heap.size_push h { cls := .type "cell", data := .cell none }] at hm
      rcases cells_mem hm with hm | ⟨h1, h2, h3⟩
      · rcases List.mem_cons.mp hm with e | hm
        · cases e
          exact .inr ⟨hk ▸ List.mem_cons_self, Nat.le_refl _, _, pushCells_keeps r _ _ _ (Heap.get?_push_size _ rfl), rfl⟩
        · exact .inl hm
      · rw [Heap.size_push] at h2
        exact .inr ⟨List.mem_cons_of_mem _ h1, Nat.le_of_succ_le h2, h3⟩
    · rename_i hk
      rw [if_neg hk]
      rcases cells_mem hm with hm | ⟨h1, h2, h3⟩
      · exact .inl hm
      · exact .inr ⟨List.mem_cons_of_mem _ h1, h2, h3⟩
theorem cells_acc : ∀ {names : List (Str × NameKind)} {n : Nat} {acc : List (Str × Addr)} {p : Str × Addr}, p ∈ acc → p ∈ cellsFrom n names acc
  | [], _, _, _, h => h
  | (m, k) :: r, n, acc, p, h => by
    unfold cellsFrom
    split
    · exact cells_acc (List.mem_cons_of_mem _ h)
    · exact cells_acc h
theorem cells_has : ∀ {names : List (Str × NameKind)} {n : Nat} {acc : List (Str × Addr)} {x : Str}, (x, .cell) ∈ names → ∃ c, (x, c) ∈ cellsFrom n names acc
  | (m, k) :: r, n, acc, x, h => by
    unfold cellsFrom
    rcases List.mem_cons.mp h with e | h
    · cases e
      exact ⟨n, cells_acc List.mem_cons_self⟩
    · split
      · exact cells_has h
      · exact cells_has h
theorem cells_inj : ∀ {names : List (Str × NameKind)} {h : Heap} {acc : List (Str × Addr)} {x y : Str} {c : Addr}, (∀ p ∈ acc, p.2 < h.objs.size) → (∀ x y c, (x, c) ∈ acc → (y, c) ∈ acc → x = y) →
    (x, c) ∈ cellsFrom h.objs.size names acc → (y, c) ∈ cellsFrom h.objs.size names acc → x = y
  | [], _, _, _, _, _, _, hi, h1, h2 => hi _ _ _ h1 h2
  | (n, k) :: r, h, acc, x, y, c, hl, hi, h1, h2 => by
    unfold cellsFrom at h1 h2
    split at h1
    · rename_i hk
      rw [if_pos hk] at h2
      rw [← Heap.size_push h { cls := .type "cell", data := .cell none }] at h1 h2
      refine cells_inj (h := h.push _) (fun p hp => ?_) (fun x y c a b => ?_) h1 h2
      · rw [Heap.size_push]
        rcases List.mem_cons.mp hp with rfl | hp
        · exact Nat.lt_succ_self _
        · exact Nat.lt_succ_of_lt (hl p hp)
      · rcases List.mem_cons.mp a with e | a <;> rcases List.mem_cons.mp b with e' | b
        · cases e; cases e'; rfl
        · cases e; exact absurd (hl _ b) (Nat.lt_irrefl _)
        · cases e'; exact absurd (hl _ a) (Nat.lt_irrefl _)
        · exact hi _ _ _ a b
    · rename_i hk
      rw [if_neg hk] at h2
      exact cells_inj hl hi h1 h2
theorem newEnv_comp {M : Model} {A : Around} {E : Value → Shared → Prop} {s : Shared} {scope : Scope} {globals : Addr} {closure : List (Str × Addr)} {qual : Str} {func : Option Addr} {code : Value} {around : Env} {builtins : Addr} {Q : Env → Shared → Prop}
    (h : Q (newEnv scope s.heap.objs.size globals (cellsFrom (s.heap.objs.size + 1) scope.names closure) qual func code (some around) builtins)
      { s with heap := pushCells (s.heap.push { cls := .type "dict", data := .dict #[] }) scope.names }) :
    wpAny M A (newFunctionEnv scope globals closure [] qual func code (some around) builtins) Q E s := by
  simp only [newFunctionEnv, Option.isSome_some, if_true]
  refine wpAny_bind (wpAny_alloc ?_)
  refine wpAny_bind (wpAny_layCells _ (fun n k c => rfl) scope.names closure _ _ ?_)
  rw [show ({ s with heap := s.heap.push { cls := .type "dict", data := .dict #[] } } : Shared).heap.objs.size = s.heap.objs.size + 1 from Heap.size_push ..]
  rw [List.forIn_nil]
  exact wpAny_bind (wpAny_pure (wpAny_pure h))
/-- every name of the written scope, in the scope that runs -/
theorem lookup_relS {sc : Scope} : ∀ {names : List (Str × NameKind)} {x : Str} {k : NameKind},
    (names.map fun (n, k) => if (k == NameKind.free && sc.kind == .function && sc.names.lookup n == some .cell) then (n, NameKind.cell) else (n, k)).lookup x = some k →
    ∃ k', names.lookup x = some k' ∧ (k = k' ∨ (k' = .free ∧ k = .cell))
  | [], _, _, h => by simp at h
  | (n, k₀) :: r, x, k, h => by
    have ih := @lookup_relS sc r x k
    have h' : List.lookup x ((if (k₀ == NameKind.free && sc.kind == .function && sc.names.lookup n == some .cell) = true then (n, NameKind.cell) else (n, k₀)) :: (r.map _)) = some k := h
    cases hx : x == n with
    | true =>
      simp only [List.lookup_cons, hx]
      by_cases hc : (k₀ == NameKind.free && sc.kind == .function && sc.names.lookup n == some .cell) = true
      · rw [if_pos hc] at h'
        simp only [List.lookup_cons, hx] at h'
        cases h'
        simp only [Bool.and_eq_true, beq_iff_eq] at hc
        exact ⟨k₀, rfl, .inr ⟨hc.1.1, rfl⟩⟩
      · rw [if_neg hc] at h'
        simp only [List.lookup_cons, hx] at h'
        cases h'
        exact ⟨_, rfl, .inl rfl⟩
    | false =>
      simp only [List.lookup_cons, hx]
      by_cases hc : (k₀ == NameKind.free && sc.kind == .function && sc.names.lookup n == some .cell) = true
      · rw [if_pos hc] at h'
        simp only [List.lookup_cons, hx] at h'
        exact ih h'
      · rw [if_neg hc] at h'
        simp only [List.lookup_cons, hx] at h'
        exact ih h'
/-- the names of a comprehension's block: its own (with their places in N), or captured -/
structure BlkOk (N : List Str) (sc scope : Scope) (own : List (Str × Nat)) : Prop where
  kind : scope.kind = .function
  uniq : ∀ y ∈ scope.names, scope.names.lookup y.1 = some y.2
  ix : ∀ p ∈ own, N[p.2]? = some p.1
  free : ∀ y ∈ scope.names, y.2 = .free → sc.names.lookup y.1 = some .cell ∨ sc.names.lookup y.1 = some .free
  own : ∀ y ∈ scope.names, y.2 = .local ∨ y.2 = .cell → y.1 ∈ own.map (·.1) ∨ y.1 ∉ N
/-- the slots of the block's own names forgotten -/
def wipe (σ : St) : List Nat → St
  | [] => σ
  | v :: vs => (wipe σ vs).set v none
theorem wipe_length (σ : St) : ∀ vs : List Nat, (wipe σ vs).length = σ.length
  | [] => rfl
  | v :: vs => by unfold wipe; rw [List.length_set, wipe_length σ vs]
theorem wipe_some {σ : St} {i : Nat} {x : V} : ∀ {vs : List Nat}, (wipe σ vs)[i]? = some (some x) → σ[i]? = some (some x) ∧ i ∉ vs
  | [], h => ⟨h, by simp⟩
  | v :: vs, h => by
    unfold wipe at h
    by_cases hi : v = i
    · subst hi
      by_cases hv : v < (wipe σ vs).length
      · rw [List.getElem?_set_self hv] at h; cases h
      · rw [List.getElem?_eq_none (by simpa using hv)] at h; cases h
    · rw [List.getElem?_set_ne hi] at h
      obtain ⟨h1, h2⟩ := wipe_some h
      exact ⟨h1, by simp only [List.mem_cons, not_or]; exact ⟨fun e => hi e.symm, h2⟩⟩
/-- the context of a block that starts at s, its iterator's objects at fp -/
abbrev Cx.blk (X : Cx) (s : Shared) (H : Hp) (scope : Scope) (cenv : Env) (fp : List Addr) : Cx := { X with s₀ := s, H₀ := H, env := cenv, outer := X.stack, ex := fp, fn := fun x => scope.names.lookup x == some .cell, pn := [], xe := fun _ _ => False }
section
variable {X : Cx} {pins : List (Addr × Obj)} {σ : St} {H : Hp} {s : Shared}
theorem block_start {scope : Scope} {own : List (Str × Nat)} {fp : List Addr} (I : Inv X pins σ H s) (ok : BlkOk X.N X.env.scope scope own) (hN : X.N.Nodup) (hfp : ∀ b ∈ fp, FpOk X pins H b ∧ b < s.heap.objs.size) :
    Inv (X.blk s H scope (compEnvC scope (cellsFrom (s.heap.objs.size + 1) scope.names (cloFrom X.env.cells scope.names [])) s.heap.objs.size X.env) fp) [] (wipe σ (own.map (·.2))) H { s with heap := pushCells (s.heap.push { cls := .type "dict", data := .dict #[] }) scope.names } := by
  have hfree : ∀ y ∈ scope.names, y.2 = .free → ∃ c, X.env.cells.lookup y.1 = some c := fun y hy e => by
    rcases ok.free y hy e with k | k
    · exact I.ok.has _ (.inl k)
    · exact I.ok.has _ (.inr k)
  generalize hcenv : compEnvC scope (cellsFrom (s.heap.objs.size + 1) scope.names (cloFrom X.env.cells scope.names [])) s.heap.objs.size X.env = cenv
  have kp : ∀ b o, s.heap.get? b = some o → (pushCells (s.heap.push { cls := .type "dict", data := .dict #[] }) scope.names).get? b = some o := fun b o e => pushCells_keeps _ _ _ _ (Heap.get?_push_of_some _ e)
  have hL : cenv.locals = s.heap.objs.size := by rw [← hcenv]; rfl
  have hcl : cenv.cells = cellsFrom (s.heap.objs.size + 1) scope.names (cloFrom X.env.cells scope.names []) := by rw [← hcenv]; rfl
  have hsc : cenv.scope = relS scope X.env.scope := by rw [← hcenv]; rfl
  rw [← Heap.size_push s.heap { cls := .type "dict", data := .dict #[] }] at hcl
  have cm : ∀ {y c}, (y, c) ∈ cloFrom X.env.cells scope.names [] → X.env.cells.lookup y = some c ∧ c < s.heap.objs.size := fun {y c} hm => by
    rcases cloFrom_mem hm with hm | ⟨h1, rfl⟩
    · cases hm
    · obtain ⟨c, hc⟩ := hfree _ h1 rfl
      rw [hc]
      obtain ⟨w, z⟩ := I.cell _ _ hc
      exact ⟨rfl, z.lt⟩
  have mem : ∀ {y c}, cenv.cells.lookup y = some c → (X.env.cells.lookup y = some c ∧ c < s.heap.objs.size) ∨ (s.heap.objs.size + 1 ≤ c ∧ CellAt (pushCells (s.heap.push { cls := .type "dict", data := .dict #[] }) scope.names) c none) := fun {y c} e => by
    rw [hcl] at e
    rcases cells_mem (PySem.mem_of_lookup e) with hm | ⟨_, h2, h3⟩
    · exact .inl (cm hm)
    · rw [Heap.size_push] at h2; exact .inr ⟨h2, h3⟩
  have look : ∀ {y}, scope.names.lookup y = some .free → ∃ c, cenv.cells.lookup y = some c ∧ X.env.cells.lookup y = some c := fun {y} hl => by
    have hy : (y, NameKind.free) ∈ scope.names := PySem.mem_of_lookup hl
    obtain ⟨c', e'⟩ := mem_lookup (cells_acc (names := scope.names) (n := (s.heap.push { cls := .type "dict", data := .dict #[] }).objs.size) (cloFrom_has (cells := X.env.cells) (acc := []) hy))
    rw [← hcl] at e'
    refine ⟨c', e', ?_⟩
    rw [hcl] at e'
    rcases cells_mem (PySem.mem_of_lookup e') with hm | ⟨h1, _, _⟩
    · exact (cm hm).1
    · have := ok.uniq _ h1
      rw [hl] at this; cases this
  have okB : (X.blk s H scope cenv fp).Ok := by
    refine ⟨I.ok.mod, by show cenv.scope.kind = _; rw [hsc]; exact ok.kind, by show cenv.globals = _; rw [← hcenv]; exact I.ok.glob, by show cenv.builtins = _; rw [← hcenv]; exact I.ok.blt, by show s.heap.objs.size ≤ cenv.locals; rw [hL]; exact Nat.le_refl _,
      fun y z c e1 e2 => ?_, fun y hy => ?_, fun y c z e => ?_, I.ok.hd, I.ok.frames, .inl rfl, fun b hb => ⟨?_, fun y c e z => ?_⟩, I.bs, Nat.le_trans I.ok.bsz I.sz, fun b o e hb => ?_, fun b hb z => ?_, I.stack, I.stkFree⟩
    · have e1 : cenv.cells.lookup y = some c := e1
      have e2 : cenv.cells.lookup z = some c := e2
      rw [hcl] at e1 e2
      refine cells_inj (fun p hp => ?_) (fun y z c a b => I.ok.inj y z c (cm a).1 (cm b).1) (PySem.mem_of_lookup e1) (PySem.mem_of_lookup e2)
      rw [Heap.size_push]
      exact Nat.lt_succ_of_lt (cm (y := p.1) (c := p.2) hp).2
    · show ∃ c, cenv.cells.lookup y = some c
      have key : ∀ k, cenv.kindOf y = some k → (k = .cell ∨ k = .free) → ∃ c, cenv.cells.lookup y = some c := fun k hk hk' => by
        unfold Env.kindOf at hk
        rw [hsc] at hk
        obtain ⟨k', e, r⟩ := lookup_relS hk
        have : k' = .cell ∨ k' = .free := by
          rcases r with rfl | ⟨rfl, _⟩
          · exact hk'
          · exact .inr rfl
        rcases this with rfl | rfl
        · obtain ⟨c, hm⟩ := cells_has (n := (s.heap.push { cls := .type "dict", data := .dict #[] }).objs.size) (acc := cloFrom X.env.cells scope.names []) (PySem.mem_of_lookup e)
          obtain ⟨c', e'⟩ := mem_lookup hm
          exact ⟨c', by rw [hcl]; exact e'⟩
        · obtain ⟨c, h1, _⟩ := look e
          exact ⟨c, h1⟩
      rcases hy with hy | hy
      · exact key _ hy (.inl rfl)
      · exact key _ hy (.inr rfl)
    · have z : (scope.names.lookup y == some NameKind.cell) = true := z
      have z : scope.names.lookup y = some .cell := by simpa using z
      have e : cenv.cells.lookup y = some c := e
      rw [hcl] at e
      rcases cells_mem (PySem.mem_of_lookup e) with hm | ⟨_, h2, _⟩
      · rcases cloFrom_mem hm with hm | ⟨h1, _⟩
        · cases hm
        · have q := ok.uniq _ h1
          rw [z] at q; cases q
      · rw [Heap.size_push] at h2
        exact Nat.le_of_succ_le h2
    · show b ≠ cenv.locals
      rw [hL]; exact Nat.ne_of_lt (hfp b hb).2
    · have e : cenv.cells.lookup y = some c := e
      rcases mem e with ⟨h1, _⟩ | ⟨h1, _⟩
      · exact (hfp b hb).1.2.2.2.2.1 y c h1 z
      · have h2 : s.heap.objs.size + 1 ≤ b := by rw [← z]; exact h1
        exact absurd (Nat.lt_of_lt_of_le (hfp b hb).2 (Nat.le_of_succ_le h2)) (Nat.lt_irrefl _)
    · rcases (hfp b hb).1.2.2.2.1 with z | z
      · exact I.ok.noex b o e z
      · exact absurd (Nat.lt_of_lt_of_le (Heap.lt_size e) (Nat.le_trans I.ok.bsz z)) (Nat.lt_irrefl _)
    · rcases List.mem_cons.mp (I.stkSub b z) with z | z
      · exact (hfp b hb).1.2.1 z
      · exact (hfp b hb).1.2.2.1 z
  refine ⟨okB, rfl, I.bare, Un.kept kp, ⟨fun _ => none, ?_, fun i y av e1 e2 e3 => ?_⟩, fun y c e => ?_, ?_, fun y c e => ?_, fun p hp => ?_, I.hok.kept kp, by rw [wipe_length]; exact I.len⟩
  · show Heap.Ns _ cenv.locals _
    rw [hL]
    exact Heap.Ns.keeps (Heap.Ns.new ..) fun b o e => pushCells_keeps _ _ _ _ e
  · obtain ⟨e2, hne⟩ := wipe_some e2
    have hfr : scope.names.lookup y = some .free ∧ (cenv.kindOf y = some .cell ∨ cenv.kindOf y = some .free) := by
      have key : ∀ k, cenv.scope.names.lookup y = some k → k = .local ∨ k = .cell ∨ k = .free → scope.names.lookup y = some .free ∧ (cenv.kindOf y = some .cell ∨ cenv.kindOf y = some .free) := fun k hk hk' => by
        have hk0 := hk
        rw [hsc] at hk
        obtain ⟨k', e, r⟩ := lookup_relS hk
        have no : ¬ (k' = .local ∨ k' = .cell) := fun hh => by
          rcases ok.own _ (PySem.mem_of_lookup e) hh with e' | e'
          · obtain ⟨p, hp, hpy⟩ := List.mem_map.mp e'
            have e3 := ok.ix p hp
            have : p.1 = y := hpy
            rw [this] at e3
            exact hne (List.mem_map.mpr ⟨p, hp, nodup_ix hN e3 e1⟩)
          · exact e' (List.mem_of_getElem? e1)
        rcases r with rfl | ⟨rfl, rfl⟩
        · rcases hk' with rfl | rfl | rfl
          · exact absurd (.inl rfl) no
          · exact absurd (.inr rfl) no
          · exact ⟨e, .inr hk0⟩
        · exact ⟨e, .inl hk0⟩
      have e3 : Vis cenv.scope y := e3
      rcases e3 with e3 | e3 | e3
      · exact key _ e3 (.inl rfl)
      · exact key _ e3 (.inr (.inl rfl))
      · exact key _ e3 (.inr (.inr rfl))
    obtain ⟨m, hn, hl⟩ := I.loc
    have hvis : Vis X.env.scope y := (ok.free _ (PySem.mem_of_lookup hfr.1) rfl).elim (fun k => .inr (.inl k)) (fun k => .inr (.inr k))
    obtain ⟨w, r, q⟩ := hl i y av e1 e2 hvis
    refine ⟨w, r, .inr ⟨hfr.2, ?_⟩⟩
    obtain ⟨c, h1, h2⟩ := look hfr.1
    rcases q with ⟨k, _⟩ | ⟨_, c', e', z⟩
    · have k : X.env.scope.names.lookup y = some .local := k
      rcases ok.free _ (PySem.mem_of_lookup hfr.1) rfl with k' | k' <;> rw [show X.env.scope.names.lookup y = _ from k'] at k <;> cases k
    · rw [h2] at e'; cases e'
      exact ⟨c, h1, z.keeps kp⟩
  · have e : cenv.cells.lookup y = some c := e
    rcases mem e with ⟨h1, _⟩ | ⟨_, z⟩
    · obtain ⟨w, z⟩ := I.cell y c h1
      exact ⟨w, z.keeps kp⟩
    · exact ⟨_, z⟩
  · show H cenv.locals = none
    rw [hL]; exact I.hok.fresh (Nat.le_refl _)
  · have e : cenv.cells.lookup y = some c := e
    rcases mem e with ⟨h1, _⟩ | ⟨h1, _⟩
    · exact I.freeC y c h1
    · exact I.hok.fresh (Nat.le_of_succ_le h1)
  · exact absurd (show p ∈ ([] : List (Addr × Obj)) ++ [] from hp) (by simp)
/-- an item appended to a tracked list -/
theorem app_ok {E : Value → Shared → Prop} {D : Addr} {xs : List V} {y : V} {v : Value} {Q : Value → Shared → Prop} (I : Inv X pins σ H s) (hD : H D = some (.lst xs)) (hz : xs.length < sizeLine) (r : RelV y v)
    (h : ∀ s', Inv X pins σ (upd H D (.lst (xs ++ [y]))) s' → Q .none s') : wpAny (model X.prog X.w) X.A (call (.builtin "list.append") [.ref D, v]) Q E s := by
  obtain ⟨hz', its, n, ri, e⟩ := I.hok D _ hD
  have hl := ri.length
  refine append_at (hsz := by rw [List.size_toArray]; omega) e fun h' sb ho' => ?_
  refine h { s with heap := h' } (I.write (t' := s.toks) (by rw [hD]; trivial) (.inl rfl) (fun b u hb q => (sb.2 b hb).trans q) ⟨_, ho'⟩ ⟨by rw [List.length_append]; exact hz, its ++ [v], n + 1, ri.append (.cons r .nil), ?_⟩)
  rw [ho']
  simp
/-- a clause's tests -/
def PTs (X : Cx) (ifs : List Expr) (t : TT) : Prop :=
  ∀ (pins : List (Addr × Obj)) (s : Shared) (σ : St) (H : Hp) (Q : Bool → Hp → Prop), Inv X pins σ H s → t σ H Q →
    wpAny (model X.prog X.w) X.A (forIn ifs true fun c r => if r = true then do let ok ← isTrue c X.env (eval c X.env); pure (ForInStep.yield ok) else pure (ForInStep.yield r)) (TP X pins σ Q) X.xe s
def tYes : TT := fun _ H Q => Q true H
theorem pts_nil : PTs X [] tYes := fun _ _ _ H _ I h => wpAny_tests_nil ⟨H, I, h⟩
end
theorem thnF {α : Type} {t : Sem α} {Q Q' : α → Shared → Prop} {M : Model} {A : Around} {E : Value → Shared → Prop} {s : Shared} (h : wpAny M A t Q (fun _ _ => False) s) (hQ : ∀ a s, Q a s → Q' a s) : wpAny M A t Q' E s := wpAny_mono h hQ fun _ _ z => False.elim z
/-- the loop of a list comprehension's block, the target of any form (codeAny_compLoop_tests asks a target that no tuple goes to; statement and proof follow it, PyProof/CompMap.lean:41-61, with the step letOwnedTupleGo kept) -/
theorem compLoop_any {prog : Program} {w : World} {A : Around} {R : Result → Shared → Prop} {s : Shared} {elt target iter : Expr} {ifs : List Expr} {scope : Scope} {pos : Pos} {it acc : Value} {env : Env} (I : Nat → Shared → Prop)
    (turn : ∀ n s, I n s → wpAny (model prog w) A (pyNext it) (fun r s₁ => match r with
      | none => R (.ok .next) s₁
      | some v => wpAny (model prog w) A (letOwnedTupleGo target it v) (fun _ s₁' => wpAny (model prog w) A (assign target env v) (fun _ s₂ =>
          wpAny (model prog w) A (forIn ifs true fun c r => if r = true then do let ok ← isTrue c env (eval c env); pure (ForInStep.yield ok) else pure (ForInStep.yield r)) (fun ok s₃ =>
            if ok = true then wpAny (model prog w) A (eval elt env) (fun x s₄ =>
              wpAny (model prog w) A (call (.builtin "list.append") [acc, x]) (fun _ s₅ => ∃ m, m < n ∧ I m s₅) (notedBy (model prog w) A env fun e s' => R (.error e) s') s₄) (notedBy (model prog w) A env fun e s' => R (.error e) s') s₃
            else ∃ m, m < n ∧ I m s₃) (notedBy (model prog w) A env fun e s' => R (.error e) s') s₂) (notedBy (model prog w) A env fun e s' => R (.error e) s') s₁') (notedBy (model prog w) A env fun e s' => R (.error e) s') s₁) (notedBy (model prog w) A env fun e s' => R (.error e) s') s)
    (n : Nat) (h : I n s) :
    codeAny (model prog w) A (.compLoop (.ListComp elt [⟨target, iter, ifs, 0⟩] scope pos) 0 it acc env) R s := by
  refine codeAny_loop rfl I (fun n s hI => ?_) n h
  show wpAny _ A ((compTurn (.ListComp elt [⟨target, iter, ifs, 0⟩] scope pos) 0 it acc env).onRaise (fun x => do noteFrame x env; theTreesLotGoes x)) _ _ s
  refine wpAny_noted ?_
  rw [compTurn_list]
  refine wpAny_bind (wpAny_standAt (wpAny_bind (wpAny_mono (turn n s hI) (fun r s₁ h₁ => ?_) fun _ _ h' => h')))
  cases r with
  | none => exact wpAny_pure h₁
  | some v =>
    refine wpAny_bind (wpAny_mono h₁ (fun _ s₁' h₁' => ?_) fun _ _ h' => h')
    refine wpAny_bind (wpAny_mono h₁' (fun _ s₂ h₂ => wpAny_bind (wpAny_mono h₂ (fun ok s₃ h₃ => ?_) fun _ _ h' => h')) fun _ _ h' => h')
    cases ok with
    | false => exact wpAny_pure ⟨rfl, h₃⟩
    | true =>
      exact wpAny_bind (wpAny_bind (wpAny_mono h₃ (fun x s₄ h₄ => wpAny_bind (wpAny_mono h₄ (fun _ s₅ h₅ => wpAny_pure (wpAny_pure ⟨rfl, h₅⟩)) fun _ _ h' => h')) fun _ _ h' => h'))
section
variable {X : Cx}
/-- [elt for target in iter if ..]: D the new list; W by the turn and a measure, Nx what a turn is to reach -/
def tLc (wi : TI) (g : TG) (tt : TT) (te : TE) (vs : List Nat) : TE := fun σ H Q => wi σ H fun J H1 => ∀ D, H1 D = none → ∃ W : Nat → Nat → Hp → Prop, (∃ m, W 0 m (upd H1 D (.lst []))) ∧ ∀ i m H, W i m H →
  (J.stop i H ∧ Q (.ref D) H) ∨ (J.go i H ∧ ∃ Nx : Hp → Prop, (∀ H', Nx H' → ∃ m', m' < m ∧ W (i + 1) m' H') ∧ ∀ x H', J.yld i H x H' → g x (wipe σ vs) H' fun σ2 H2 => wipe σ2 vs = wipe σ vs ∧ tt σ2 H2 fun b H3 =>
    if b = true then te σ2 H3 fun y H4 => ∃ acc, H4 D = some (.lst acc) ∧ acc.length < sizeLine ∧ Nx (upd H4 D (.lst (acc ++ [y]))) else Nx H3)
theorem lc_core {pins : List (Addr × Obj)} {s : Shared} {σ : St} {H : Hp} {Q : VK} {elt tg iter : Expr} {ifs : List Expr} {scope : Scope} {own : List (Str × Nat)} {pos pos' : Pos} {wi : TI} {g : TG} {tt : TT} {te : TE} {use : Option (Value → Sem Unit)} {Qf : Value → Shared → Prop}
    (hc : X.calm = true) (hN : X.N.Nodup) (I : Inv X pins σ H s) (hi : PI X tg iter wi) (ok : BlkOk X.N X.env.scope scope own)
    (hg : ∀ (s : Shared) (H : Hp) (C : Addr) (cl : List (Str × Addr)) (fp : List Addr), PG (X.blk s H scope (compEnvC scope cl C X.env) fp) tg g) (ht : ∀ (s : Shared) (H : Hp) (C : Addr) (cl : List (Str × Addr)) (fp : List Addr), PTs (X.blk s H scope (compEnvC scope cl C X.env) fp) ifs tt)
    (he : ∀ (s : Shared) (H : Hp) (C : Addr) (cl : List (Str × Addr)) (fp : List Addr), PE (X.blk s H scope (compEnvC scope cl C X.env) fp) elt te) (hs : ∀ x, foldedSetIterable iter X.env x = pure x)
    (h : tLc wi g tt te (own.map (·.2)) σ H Q)
    (hRR : ∀ D C s' m H', Inv X pins σ H' s' → Q (.ref D) H' → s'.heap.Ns C m → FpOk X pins H' C → compPost (model X.prog X.w) X.A X.xe use Qf (.ref D) C (.ok .next) s') :
    wpAny (model X.prog X.w) X.A (comprehension (.ListComp elt [⟨tg, iter, ifs, 0⟩] scope pos) scope X.env pos' (newList []) false (eval iter X.env) use) Qf X.xe s := by
  have hfree : ∀ y ∈ scope.names, y.2 = .free → ∃ c, X.env.cells.lookup y.1 = some c := fun y hy e => by
    rcases ok.free y hy e with k | k
    · exact I.ok.has _ (.inl k)
    · exact I.ok.has _ (.inr k)
  refine wpAny_comprehension_free (use := use) rfl hs (closure_ok hfree) ok.kind (fun y hy e => by rw [ok.uniq y hy, e])
    (thn (hi pins s σ H _ I h) fun xv s1 hx => thn hx fun itv s2 h2 => ?_)
  obtain ⟨it, fp, tn, J, H2, e, I2, T, st2, f2, q⟩ := h2
  subst e
  refine wpAny_newObj_type (newEnv_comp ?_) (by show 0 ≤ sizeLine; decide)
  generalize hD : s2.heap.objs.size = D
  have hDn : H2 D = none := I2.hok.fresh (Nat.le_of_eq hD)
  obtain ⟨W, ⟨m0, w0⟩, turn⟩ := q D hDn
  -- the new list
  generalize hs3 : ({ s2 with heap := s2.heap.push { cls := .type "list", data := .seq ([] : List Value).toArray } } : Shared) = s3
  have I3 : Inv X pins σ (upd H2 D (.lst [])) s3 := by
    rw [← hs3]
    refine I2.laid (t' := s2.toks) (fun b o e => Heap.get?_push_of_some _ e) (Nat.le_of_eq hD) ⟨Nat.zero_le _, [], 0, .nil, ?_⟩
    rw [← hD]
    exact Heap.get?_push_size _ rfl
  have h3 : s3.heap = s2.heap.push { cls := .type "list", data := .seq ([] : List Value).toArray } := by rw [← hs3]
  have sz : ∀ b ∈ fp, b < s2.heap.objs.size := fun b hb => by
    obtain ⟨o, e, _⟩ := T.obj _ _ st2 b hb
    exact Heap.lt_size e
  have f3 : ∀ b ∈ fp, FpOk X pins (upd H2 D (.lst [])) b ∧ b < s3.heap.objs.size := fun b hb => by
    have hlt := sz b hb
    refine ⟨⟨?_, (f2 b hb).2⟩, by rw [h3, Heap.size_push]; exact Nat.lt_succ_of_lt hlt⟩
    rw [upd_ne (by rw [← hD]; exact Nat.ne_of_lt hlt)]
    exact (f2 b hb).1
  have st3 : tn 0 s3.heap := T.keep _ _ _ st2 fun b _ o e => by rw [h3]; exact Heap.get?_push_of_some _ e
  have I4 := block_start I3 ok hN f3
  have pg := hg s3 (upd H2 D (.lst [])) s3.heap.objs.size (cellsFrom (s3.heap.objs.size + 1) scope.names (cloFrom X.env.cells scope.names [])) fp
  have pt := ht s3 (upd H2 D (.lst [])) s3.heap.objs.size (cellsFrom (s3.heap.objs.size + 1) scope.names (cloFrom X.env.cells scope.names [])) fp
  have pe := he s3 (upd H2 D (.lst [])) s3.heap.objs.size (cellsFrom (s3.heap.objs.size + 1) scope.names (cloFrom X.env.cells scope.names [])) fp
  show codeAny _ _ (.compStart (.ListComp elt [⟨tg, iter, ifs, 0⟩] scope pos) 0 (.ref it) (.ref D) (compEnvC scope (cellsFrom (s3.heap.objs.size + 1) scope.names (cloFrom X.env.cells scope.names [])) s3.heap.objs.size X.env)) (compPost (model X.prog X.w) X.A X.xe use Qf (.ref D) s3.heap.objs.size) { s3 with heap := pushCells (s3.heap.push { cls := .type "dict", data := .dict #[] }) scope.names }
  have nfp : ∀ b ∈ fp, (upd H2 D (.lst [])) b = none := fun b hb => (f3 b hb).1.1
  generalize hce : compEnvC scope (cellsFrom (s3.heap.objs.size + 1) scope.names (cloFrom X.env.cells scope.names [])) s3.heap.objs.size X.env = ce at I4 pg pt pe ⊢
  have cL : ce.locals = s3.heap.objs.size := by subst hce; rfl
  generalize hH3 : upd H2 D (.lst []) = H3 at I3 I4 pg pt pe w0 nfp f3
  generalize hs4 : ({ s3 with heap := pushCells (s3.heap.push { cls := .type "dict", data := .dict #[] }) scope.names } : Shared) = s4 at I4 ⊢
  have st4 : tn 0 s4.heap := T.keep _ _ _ st3 fun b _ o e => by rw [← hs4]; exact pushCells_keeps _ _ _ _ (Heap.get?_push_of_some _ e)
  have stat : ∀ {σ' : St} {H' : Hp} {s' : Shared}, Inv (X.blk s3 H3 scope ce fp) [] σ' H' s' → (∀ b ∈ fp, H' b = none) → ∀ b ∈ fp, FpOk (X.blk s3 H3 scope ce fp) [] H' b := fun {σ' H' s'} I' hn b hb =>
    ⟨hn b hb, (I'.ok.exf b hb).1, I'.ok.exfs b hb, .inl hb, fun x c e => (I'.ok.exf b hb).2 x c e, fun p hp => absurd (show p ∈ ([] : List (Addr × Obj)) ++ [] from hp) (by simp)⟩
  have loop : codeAny (model X.prog X.w) X.A (.compLoop (.ListComp elt [⟨tg, iter, ifs, 0⟩] scope pos) 0 (.ref it) (.ref D) ce) (compPost (model X.prog X.w) X.A X.xe use Qf (.ref D) s3.heap.objs.size) s4 := by
    refine compLoop_any (fun n s' => ∃ i H', Inv (X.blk s3 H3 scope ce fp) [] (wipe σ (own.map (·.2))) H' s' ∧ tn i s'.heap ∧ (∀ b ∈ fp, H' b = none) ∧ W i n H') ?_ m0 ⟨0, H3, I4, st4, nfp, w0⟩
    rintro n s5 ⟨i, H5, I5, st5, n5, w5⟩
    rcases turn i n H5 w5 with ⟨stop, qq⟩ | ⟨go, Nx, hNx, step⟩
    · have td := T.done (X.blk s3 H3 scope ce fp) rfl rfl rfl hc i [] s5 _ H5 (fun _ _ => False) I5 (stat I5 n5) st5 stop
      refine thnF td fun r s6 ⟨hr, I6⟩ => ?_
      subst hr
      -- back in the def's context
      have I7 : Inv X pins σ H5 s6 := I3.call' (ch := fp) I6.os I6.base I6.hok I6.bare fun b hb => ⟨(f3 b hb).1.2.2.2.1, (f3 b hb).1.2.1, (f3 b hb).1.2.2.2.2.1, (f3 b hb).1.2.2.2.2.2⟩
      have nC : H5 s3.heap.objs.size = none := by
        have z : H5 ce.locals = none := I6.free
        rw [cL] at z
        exact z
      obtain ⟨m, hn, _⟩ := I6.loc
      have hn : s6.heap.Ns ce.locals m := hn
      rw [cL] at hn
      exact hRR D s3.heap.objs.size s6 m H5 I7 qq hn (I3.fpOk (Nat.le_refl _) nC)
    · have ti := T.item (X.blk s3 H3 scope ce fp) rfl rfl rfl hc i [] s5 _ H5 (fun _ _ => False) I5 (stat I5 n5) st5 go
      refine thnF ti fun r s6 ⟨u, hr, h6⟩ => ?_
      subst hr
      refine thnF h6 fun _ s7 ⟨x, H7, I7, r7, y7, st7, n7⟩ => ?_
      have I7' := I7.pinned (stat I7 n7) (T.obj _ _ st7)
      refine thnF (pg _ s7 _ H7 x u _ I7' r7 (step x H7 y7)) fun _ s8 ⟨σ8, H8, I8, hw8, q8⟩ => ?_
      refine thnF (pt _ s8 σ8 H8 _ I8 q8) fun b s9 ⟨H9, I9, q9⟩ => ?_
      -- the turn's end
      have fin : ∀ {s' : Shared} {H' : Hp}, Inv (X.blk s3 H3 scope ce fp) ([] ++ pinsAt fp s7.heap) σ8 H' s' → Nx H' → ∃ m, m < n ∧ ∃ i H', Inv (X.blk s3 H3 scope ce fp) [] (wipe σ (own.map (·.2))) H' s' ∧ tn i s'.heap ∧ (∀ b ∈ fp, H' b = none) ∧ W i m H' := fun {s' H'} I' nx => by
        obtain ⟨m', hm, w'⟩ := hNx H' nx
        have pin' : ∀ b ∈ fp, ∀ o, s7.heap.get? b = some o → s'.heap.get? b = some o ∧ H' b = none := fun b hb o e =>
          let z := I'.pin (b, o) (List.mem_append_right _ (List.mem_append_right _ (mem_pinsAt hb e)))
          ⟨z.1, z.2.1⟩
        have hl : (wipe σ (own.map (·.2))).length = σ8.length := by rw [← hw8, wipe_length]
        refine ⟨m', hm, i + 1, H', (I'.unpinned (pins := [])).weak hl (fun j v e => ?_), T.keep _ _ _ st7 fun b hb o e => (pin' b hb o e).1, fun b hb => ?_, w'⟩
        · rw [← hw8] at e
          exact (wipe_some e).1
        · obtain ⟨o, e, _⟩ := T.obj _ _ st7 b hb
          exact (pin' b hb o e).2
      cases b with
      | false =>
        simp only [Bool.false_eq_true, if_false] at q9 ⊢
        exact fin I9 q9
      | true =>
        simp only [if_true] at q9 ⊢
        refine thnF (pe _ s9 σ8 H9 _ I9 q9) fun z s10 ⟨yv, H10, I10, r10, acc, hD10, hz10, nx⟩ => ?_
        exact app_ok (X := X.blk s3 H3 scope ce fp) I10 hD10 hz10 r10 fun s11 I11 => fin I11 nx
  exact codeAny_compStart_list loop (T.self X.A 0 _ _ _ st4 loop)
/-- as a value -/
theorem pe_lc {elt tg iter : Expr} {ifs : List Expr} {scope : Scope} {own : List (Str × Nat)} {pos : Pos} {wi : TI} {g : TG} {tt : TT} {te : TE} (hc : X.calm = true) (hN : X.N.Nodup) (hi : PI X tg iter wi) (ok : BlkOk X.N X.env.scope scope own)
    (hg : ∀ (s : Shared) (H : Hp) (C : Addr) (cl : List (Str × Addr)) (fp : List Addr), PG (X.blk s H scope (compEnvC scope cl C X.env) fp) tg g) (ht : ∀ (s : Shared) (H : Hp) (C : Addr) (cl : List (Str × Addr)) (fp : List Addr), PTs (X.blk s H scope (compEnvC scope cl C X.env) fp) ifs tt)
    (he : ∀ (s : Shared) (H : Hp) (C : Addr) (cl : List (Str × Addr)) (fp : List Addr), PE (X.blk s H scope (compEnvC scope cl C X.env) fp) elt te) (hs : ∀ x, foldedSetIterable iter X.env x = pure x := by intro _; rfl) :
    PE X (.ListComp elt [⟨tg, iter, ifs, 0⟩] scope pos) (tLc wi g tt te (own.map (·.2))) := by
  intro pins s σ H Q I h
  rw [eval_ListComp]
  refine lc_core hc hN I hi ok hg ht he hs h fun D C s' m H' I' q hn f => ⟨m, hn, fun h'' sb => ?_⟩
  obtain ⟨f0, f1, f2, f3, f4, f5⟩ := f
  exact ⟨.ref D, H', I'.turned (t' := s'.toks) (fun b o hb e => (sb.2 b hb).trans e) f0 f1 f3 f4 f5, rfl, q⟩
end
/-- over a range: Pv by the turn and the heap (the new list at D within) -/
theorem lc_range {lo : Int} {n : Nat} {g : TG} {tt : TT} {te : TE} {vs : List Nat} {σ : St} {H1 : Hp} {D : Addr} {Qd : Hp → Prop} (Pv : Nat → Hp → Prop) (h0 : Pv 0 (upd H1 D (.lst [])))
    (hs : ∀ i H, i < n → Pv i H → g (.int (lo + i)) (wipe σ vs) H fun σ2 H2 => wipe σ2 vs = wipe σ vs ∧ tt σ2 H2 fun b H3 =>
      if b = true then te σ2 H3 fun y H4 => ∃ acc, H4 D = some (.lst acc) ∧ acc.length < sizeLine ∧ Pv (i + 1) (upd H4 D (.lst (acc ++ [y]))) else Pv (i + 1) H3) (hd : ∀ H, Pv n H → Qd H) :
    ∃ W : Nat → Nat → Hp → Prop, (∃ m, W 0 m (upd H1 D (.lst []))) ∧ ∀ i m H, W i m H →
      ((Itr lo n).stop i H ∧ Qd H) ∨ ((Itr lo n).go i H ∧ ∃ Nx : Hp → Prop, (∀ H', Nx H' → ∃ m', m' < m ∧ W (i + 1) m' H') ∧ ∀ x H', (Itr lo n).yld i H x H' → g x (wipe σ vs) H' fun σ2 H2 => wipe σ2 vs = wipe σ vs ∧ tt σ2 H2 fun b H3 =>
        if b = true then te σ2 H3 fun y H4 => ∃ acc, H4 D = some (.lst acc) ∧ acc.length < sizeLine ∧ Nx (upd H4 D (.lst (acc ++ [y]))) else Nx H3) := by
  refine ⟨fun i m H => m = n - i ∧ i ≤ n ∧ Pv i H, ⟨n, by simp, Nat.zero_le _, h0⟩, ?_⟩
  rintro i m H ⟨rfl, hi, p⟩
  by_cases hlt : i < n
  · refine .inr ⟨hlt, Pv (i + 1), fun H' p' => ⟨n - (i + 1), by omega, rfl, hlt, p'⟩, fun x H' y => ?_⟩
    obtain ⟨e, y⟩ := y
    subst e y
    exact hs i _ hlt p
  · have e : i = n := by omega
    subst e
    exact .inl ⟨Nat.le_refl _, hd H p⟩
def blkC (N : List Str) (sc scope : Scope) (own : List (Str × Nat)) : Bool :=
  (match scope.kind with | .function => true | _ => false) && (scope.names.all fun y => decide (scope.names.lookup y.1 = some y.2)) && (own.all fun p => decide (N[p.2]? = some p.1)) &&
    (scope.names.all fun y => match y.2 with
      | .free => (match sc.names.lookup y.1 with | some .cell => true | some .free => true | _ => false)
      | .local => decide (y.1 ∈ own.map (·.1)) || decide (y.1 ∉ N)
      | .cell => decide (y.1 ∈ own.map (·.1)) || decide (y.1 ∉ N)
      | _ => true)
theorem blkOk_by {N : List Str} {sc scope : Scope} {own : List (Str × Nat)} (h : blkC N sc scope own = true) : BlkOk N sc scope own := by
  unfold blkC at h
  simp only [Bool.and_eq_true, List.all_eq_true, decide_eq_true_eq] at h
  obtain ⟨⟨⟨h1, h2⟩, h3⟩, h4⟩ := h
  refine ⟨?_, h2, h3, fun y hy e => ?_, fun y hy e => ?_⟩
  · split at h1
    · assumption
    · cases h1
  · have q := h4 y hy
    simp only [e] at q
    split at q <;> first | exact .inl (by assumption) | exact .inr (by assumption) | cases q
  · have q := h4 y hy
    rcases e with e | e <;> (simp only [e, Bool.or_eq_true, decide_eq_true_eq] at q; exact q)
end L2
namespace L2
open PySem PySem.Spec PyProof.Rows
section
variable {prog : Program} {w : World} {A : Around} {R : Result → Shared → Prop} {s : Shared} {elt t0 i0 t1 i1 : Expr} {ifs0 ifs1 : List Expr} {scope : Scope} {pos : Pos} {it acc : Value} {env : Env}
end
section
variable {X : Cx}
end
end L2
namespace L2
open PySem PySem.Spec PyProof.Rows
section
variable {κ : Type} [DecidableEq κ]
end
section
variable {P : Program} {w : World} {H : Hp} {h : Heap} {a : Addr}
end
section
variable {X : Cx} {pins : List (Addr × Obj)} {σ : St} {H : Hp} {s : Shared} {a : Addr} {y v : V} {u r : Value} {o : Option V} {A : Around} {E : Value → Shared → Prop}
end
section
variable {X : Cx} {pins : List (Addr × Obj)} {σ : St} {H : Hp} {s : Shared} {a : Addr} {kvs : List (Key × V)} {k : Key} {u : Value} {A : Around} {E : Value → Shared → Prop}
end
section
variable {X : Cx} {o i e value : Expr} {pos pos' tpos : Pos} {td ty tv : TE}
end
section
variable {X : Cx} {pos : Pos}
end
/-- a method call o.m(e) of a built-in, with one argument: what must be seen of the text -/
structure M1 (X : Cx) (o : Expr) (m : Str) (apos : Pos) (e : Expr) (cpos : Pos) : Prop where
  base : attributeBase o m X.env (eval o X.env) = eval o X.env
  few : ((backTo cpos (starEach [e] X.env)).all (fun x => !x.1) && (backToKw cpos (keywordEach [] X.env)).all (fun x => x.1.isSome)
    && decide (([e] : List Expr).length + ([] : List Keyword).length + (if ([] : List Keyword).isEmpty then 0 else 1) < 30)) = true
  line : (apos.endLine == cpos.line) = true
  trees : backTo cpos (starEach [e] X.env) = [(false, eval e X.env)]
structure M2 (X : Cx) (o : Expr) (m : Str) (apos : Pos) (e f : Expr) (cpos : Pos) : Prop where
  base : attributeBase o m X.env (eval o X.env) = eval o X.env
  few : ((backTo cpos (starEach [e, f] X.env)).all (fun x => !x.1) && (backToKw cpos (keywordEach [] X.env)).all (fun x => x.1.isSome)
    && decide (([e, f] : List Expr).length + ([] : List Keyword).length + (if ([] : List Keyword).isEmpty then 0 else 1) < 30)) = true
  line : (apos.endLine == cpos.line) = true
  trees : backTo cpos (starEach [e, f] X.env) = [(false, eval e X.env), (false, eval f X.env)]
section
variable {X : Cx} {pins : List (Addr × Obj)} {σ : St} {H : Hp} {s : Shared} {a : Addr} {y d : V} {u r : Value} {o : Option V} {A : Around} {E : Value → Shared → Prop}
end
section
variable {X : Cx} {o e f : Expr} {apos cpos : Pos} {td ty tx : TE}
end
section
variable {X : Cx} {pins : List (Addr × Obj)} {σ : St} {H : Hp} {s : Shared} {a : Addr} {kvs : List (Key × V)} {A : Around} {E : Value → Shared → Prop}
end
section
variable {X : Cx} {pins : List (Addr × Obj)} {σ : St} {H : Hp} {s : Shared} {a : Addr} {y : V} {u : Value} {A : Around} {E : Value → Shared → Prop}
end
end L2
namespace L2
open PySem PySem.Spec PyProof.Rows
section
variable {prog : Program} {w : World} {A : Around} {E : Value → Shared → Prop}
end
section
variable {X : Cx}
end
end L2
namespace L2
open PySem PySem.Spec PyProof.Rows
section
variable {X : Cx} {pins : List (Addr × Obj)} {σ : St} {H : Hp} {s : Shared} {h' : Heap}
end
section
variable {X : Cx}
theorem pi_one {tg : Expr} {pins : List (Addr × Obj)} {σ : St} {H : Hp} {s : Shared} {R : It → Hp → Prop} {J : It} {tn : Nat → Heap → Prop} {tk : Nat} (I : Inv X pins σ H s) (o : Obj)
    (T : Turn X.prog X.w X.K tg J [s.heap.objs.size] s.heap.objs.size tn) (st : tn 0 (s.heap.push o)) (q : R J H) : PIE X pins σ tg R (.ref s.heap.objs.size) { s with heap := s.heap.push o, toks := tk } := by
  refine ⟨s.heap.objs.size, [s.heap.objs.size], tn, J, H, rfl, I.kept fun b ob e => Heap.get?_push_of_some _ e, T, st, fun b hb => ?_, q⟩
  have e : b = s.heap.objs.size := by simpa using hb
  subst e
  exact I.fpOk (Nat.le_refl _) (I.hok.fresh (Nat.le_refl _))
end
/-- lo, lo + c, .. (n of them) -/
def Itc (lo c : Int) (n : Nat) : It := ⟨fun i _ => i < n, fun i H x H' => H' = H ∧ x = .int (lo + (i : Nat) * c), fun i _ => n ≤ i⟩
theorem turn_rangeC {P : Program} {w : World} {K : PySem.W.Frag} {tg : Expr} (it : Addr) (lo c : Int) (n : Nat) : Turn P w K tg (Itc lo c n) [it] it (fun i h => IsRangeIter h it (lo + (i : Nat) * c) ((n : Int) - (i : Nat)) c) where
  mem := by simp
  obj := fun i h st b hb => by
    have e : b = it := by simpa using hb
    subst e
    exact ⟨_, st, fun v z => nomatch z⟩
  keep := fun i h h' st k => k it (by simp) _ st
  item := by
    intro X hP hw hK hc i pins s σ H E I hf st hg
    subst hP hw hK
    obtain ⟨f0, f1, f2, f3, f4, f5⟩ := hf it (by simp)
    have W := Walks.range (prog := X.prog) (w := X.w) (I.ok.hd hc) it lo c n
    refine W.item i s _ _ hg st fun v h' tk hv st' kk => ?_
    obtain ⟨t, rfl⟩ := hv
    have I1 : Inv X pins σ H { s with heap := h', toks := tk } := I.turned (fun b o hb e => kk b o (by simpa using hb) e) f0 f1 f3 f4 f5
    exact ⟨_, rfl, go_of (s := { s with heap := h', toks := tk }) (n := "range_iterator") st' rfl rfl (by decide) ⟨.int (lo + (i : Nat) * c), H, I1, ⟨t, rfl⟩, ⟨rfl, rfl⟩, st', fun b hb => (hf b hb).1⟩⟩
  done := by
    intro X hP hw hK hc i pins s σ H E I hf st hg
    subst hP hw hK
    obtain ⟨f0, f1, f2, f3, f4, f5⟩ := hf it (by simp)
    exact wpAny_pyNext_range_end (I.ok.hd hc) st (by have : n ≤ i := hg; omega) fun h' eb => ⟨rfl, I.turned (t' := s.toks) (fun b o hb e => eb b o hb e) f0 f1 f3 f4 f5⟩
  self := fun A i s Q E st h => wpAny_pyIter_rangeiter st h
/-- range(i, j, c): small bounds, n items -/
def RgC (i j c : Int) (n : Nat) : Prop := c ≠ 0 ∧ c.natAbs < 1073741824 ∧ Builtin.Range.small i j c = true ∧ Builtin.Range.rangeSize i j c = n
def iRng3 (ta : TA) : TI := fun σ H R => ta σ H fun vs H1 => ∃ (i j c : Int) (n : Nat), vs = [.int i, .int j, .int c] ∧ RgC i j c n ∧ R (Itc i c n) H1
section
variable {X : Cx} {tg : Expr}
theorem pi_range3 {a b c : Expr} {ta : TA} {p pos : Pos} (hg : Gl X "range") (hm : X.mg "range" = none) (ha : PA X [a, b, c] ta)
    (hs : starEach [a, b, c] X.env = (false, eval a X.env) :: starEach [b, c] X.env := by rfl) (hpl : (backTo pos (starEach [b, c] X.env)).any (·.1) = false := by rfl) :
    PI X tg (.Call (.Name "range" p) [a, b, c] [] pos) (iRng3 ta) := by
  intro pins s σ H R I h
  refine Call_ (ld_blt I hg hm boot_range (PyProof.Rows.callWith_type1 (thn (ha pos pins s σ H _ I h) fun us s1 ⟨vs, H1, I1, r1, q1⟩ => ?_) hs hpl))
  obtain ⟨i, j, k, n, e, ⟨c0, c1, c2, c3⟩, q⟩ := q1
  subst e
  cases r1 with
  | cons r rr =>
    cases rr with
    | cons r' rr =>
      cases rr with
      | cons r'' rr =>
        cases rr
        obtain ⟨t, rfl⟩ := r
        obtain ⟨t', rfl⟩ := r'
        obtain ⟨t'', rfl⟩ := r''
        refine call_range_3 c0 ?_ (.inl (PyProof.noPylong_small c1))
        refine wpAny_pyIter_range (IsRange.new ..) c2 ?_
        have I2 : Inv X pins σ H1 { s1 with heap := s1.heap.push { cls := .type "range", data := .fields #[.int i t, .int j t', .int k t''] } } := I1.kept (t' := s1.toks) fun b o e => Heap.get?_push_of_some _ e
        refine pi_one (tk := s1.toks) I2 _ (turn_rangeC _ i k n) ?_ q
        have e1 : i + ((0 : Nat) : Int) * k = i := by simp
        have e2 : (n : Int) - ((0 : Nat) : Int) = Builtin.Range.rangeSize i j k := by rw [c3]; simp
        show IsRangeIter _ _ (i + ((0 : Nat) : Int) * k) ((n : Int) - ((0 : Nat) : Int)) k
        rw [e1, e2]
        exact Heap.get?_push_size _ rfl
end
section
variable {X : Cx} {tg : Expr}
end
section
variable {prog : Program} {w : World} {A : Around} {E : Value → Shared → Prop} {s : Shared}
end
section
variable {X : Cx} {pins : List (Addr × Obj)} {σ : St} {H : Hp} {s : Shared} {d : Addr} {o : Obj}
end
section
variable {P : Program} {w : World} {K : PySem.W.Frag} {tg : Expr} {d : Addr} {o : Obj} {es : Array DictEntry} {ep : Nat}
end
section
variable {X : Cx} {tg e : Expr} {td : TE} {apos cpos : Pos}
end
end L2
section 
namespace Bits
open PySem PyProof.Rows
end Bits
end 
section 
namespace TL
open PySem PySem.Builtin PySem.Builtin.Str PySem.StrLaws
end TL
end 
namespace L2
open PySem PySem.Spec PyProof.Rows
section
variable {X : Cx} {pins : List (Addr × Obj)} {σ : St} {H : Hp} {s : Shared} {Q : VK}
end
section
variable {X : Cx}
end
section
variable {X : Cx} {o e : Expr} {to te : TE}
end
end L2
namespace L2
open PySem PySem.Spec PyProof.Rows
section
variable {X : Cx}
end
end L2
namespace Att
open PySem PySem.W PySem.Calls PyProof.Rows
theorem ints_of_wellAll {P : Params} {h : Heap} : ∀ (ns : List Int) (vs : List Value), WellAll P h vs (ns.map WData.int) → IntsAre vs ns := by
  intro ns
  induction ns with
  | nil =>
    intro vs w
    rw [List.map_nil] at w
    cases w
    exact .nil
  | cons n ns ih =>
    intro vs w
    rw [List.map_cons] at w
    cases w with
    | cons a b =>
      cases a
      exact .cons _ _ (ih _ b)
section
variable {prog : Program} {w : World} {A : Around} {E : Value → Shared → Prop} {s : Shared} {K : Frag}
end
end Att
namespace L2
open PySem PySem.Spec PyProof.Rows
theorem vals_ints : ∀ {vs : List Value} {ns : List Int}, IntsAre vs ns → Vals (ns.map V.int) vs
  | _, _, .nil => .nil
  | _, _, .cons n t h => .cons ⟨t, rfl⟩ (vals_ints h)
end L2
namespace L2
open PySem PySem.Spec PyProof.Rows
end L2
namespace L2
open PySem PySem.Spec PyProof.Rows
/-- the j-th statement of a class's body -/
def inClass (s : Stmt) (j : Nat) : Stmt := match s with
  | .ClassDef _ _ _ body _ _ _ _ _ _ _ => body.getD j (.Pass ⟨0, 0, 0, 0⟩)
  | _ => .Pass ⟨0, 0, 0, 0⟩
def defArgs (s : Stmt) : Arguments := match s with
  | .FunctionDef _ a _ _ _ _ _ _ _ _ => a
  | _ => { posonlyargs := [], args := [], vararg := none, kwonlyargs := [], kw_defaults := [], kwarg := none, defaults := [] }
def defBody (s : Stmt) : List Stmt := match s with
  | .FunctionDef _ _ b _ _ _ _ _ _ _ => b
  | _ => []
def defScope (s : Stmt) : Scope := match s with
  | .FunctionDef _ _ _ _ _ _ sc _ _ _ => sc
  | _ => { kind := .function, names := [], isGenerator := false, isCoroutine := false }
abbrev CX0 : CXT := fun _ _ _ _ _ _ => False
abbrev E0 : XK := fun _ _ _ => False
theorem pass0 {X : Cx} : Passes CX0 X E0 := fun _ _ _ _ _ _ _ h => h.elim
structure Fun (K : PySem.W.Frag) (x qual : Str) (st : Stmt) (f : Addr) (fd : FuncData) : Prop where
  ex : ∃ (oc : Value) (od : Option Addr) (kV doc pm : Value) (an : Option Addr) (cdv ct : Value) (osl : Array (Option Value)),
    fd = PySem.W.fnOf x qual (defArgs st) (defBody st) (defScope st) .none kV doc pm an cdv ct ∧ K.lookup f = some ⟨oc, od, .func fd, osl⟩ ∧ PySem.W.codeIn K cdv qual = true
  kp : PySem.W.keepIn K (.ref f) = true
section
variable {P : Program} {w : World} {K : PySem.W.Frag} {mg : Str → Option Value} {base : Heap}
/-- how its arguments bind (no defaults): h is «fun _ _ _ _ _ _ us hl => match us, hl with | [_, _], _ => rfl», one _ a parameter -/
theorem Fun.binds {x qual : Str} {st : Stmt} {f : Addr} {fd : FuncData} {ps : List Str} (F : Fun K x qual st f fd)
    (h : ∀ (kV doc pm : Value) (an : Option Addr) (cdv ct : Value) (us : List Value), us.length = ps.length → bindArgs (PySem.W.fnOf x qual (defArgs st) (defBody st) (defScope st) .none kV doc pm an cdv ct) ⟨us, []⟩ = pure (ps.zip us)) : Binds K fd ps [] := by
  obtain ⟨oc, od, kV, doc, pm, an, cdv, ct, osl, rfl, lk, hcd⟩ := F.ex
  exact .all (h kV doc pm an cdv ct)
theorem fun_mk {x qual : Str} {st : Stmt} {f : Addr} {oc : Value} {od an : Option Addr} {osl : Array (Option Value)} {kV doc pm cdv ct : Value} (l : K.lookup f = some ⟨oc, od, .func (PySem.W.fnOf x qual (defArgs st) (defBody st) (defScope st) .none kV doc pm an cdv ct), osl⟩)
    (c : PySem.W.codeIn K cdv qual = true) (k : PySem.W.keepIn K (.ref f) = true) : Fun K x qual st f (PySem.W.fnOf x qual (defArgs st) (defBody st) (defScope st) .none kV doc pm an cdv ct) := ⟨⟨oc, od, kV, doc, pm, an, cdv, ct, osl, rfl, l, c⟩, k⟩
end
theorem small1000 {n : Nat} (h : n ≤ 1000) : n < sizeLine := Nat.lt_of_le_of_lt h (by decide)
section
variable {X : Cx}
theorem pv (i : Nat) {x : Str} {pos : Pos} (hN : X.N[i]? = some x := by rfl) (hv : Vis X.env.scope x := by first | exact Or.inl rfl | exact Or.inr (Or.inl rfl) | exact Or.inr (Or.inr rfl)) (hd : (x == ("__debug__" : Str)) = false := by decide)
    (hcd : (x == ("__classdict__" : Str)) = false := by decide) : PE X (.Name x pos) (tVar i) := pe_var hN hv hd hcd
end
theorem iteF {A B : Prop} (h : B) : if false = true then A else B := by
  rw [if_neg Bool.false_ne_true]
  exact h
theorem iteT {A B : Prop} (h : A) : if true = true then A else B := by
  rw [if_pos rfl]
  exact h
/-- all that was tracked is as it was -/
def Same (H H' : Hp) : Prop := ∀ b o, H b = some o → H' b = some o
theorem Same.trans {H H1 H2 : Hp} (a : Same H H1) (b : Same H1 H2) : Same H H2 := fun c o h => b c o (a c o h)
theorem Same.free {H H' : Hp} (e : Same H H') {l : Addr} (h : H' l = Option.none) : H l = Option.none := by
  cases q : H l with
  | none => rfl
  | some o =>
    rw [e l o q] at h
    cases h
theorem Same.seq {K : PySem.W.Frag} {H H' : Hp} {a : Addr} {xs : List V} (e : Same H H') (h : SqL K H a xs) : SqL K H' a xs := by
  rcases h with (h | ⟨o, h⟩) | h
  · exact .inl (.inl (e _ _ h))
  · exact .inl (.inr ⟨o, e _ _ h⟩)
  · exact .inr h
section
variable {κ : Type} [DecidableEq κ]
theorem nd_snoc : ∀ {l : List κ} {k : κ}, l.Nodup → ¬ k ∈ l → (l ++ [k]).Nodup
  | [], k, _, _ => by simp
  | a :: r, k, h, hk => by
    obtain ⟨h1, h2⟩ := List.nodup_cons.mp h
    show (a :: (r ++ [k])).Nodup
    refine List.nodup_cons.mpr ⟨fun m => ?_, nd_snoc h2 fun m => hk (List.mem_cons.mpr (Or.inr m))⟩
    rcases List.mem_append.mp m with q | q
    · exact h1 q
    · exact hk (List.mem_cons.mpr (Or.inl (List.mem_singleton.mp q).symm))
end
theorem at_of {xs : List V} {z : Int} {j : Nat} {v : V} (e : z = (j : Int)) (h : xs[j]? = some v) : atI xs z = some v := by
  rw [e]
  exact atI_nat h
theorem nd_ix {α : Type} {l : List α} (hN : l.Nodup) {i j : Nat} {x : α} (a : l[i]? = some x) (b : l[j]? = some x) : i = j := by
  obtain ⟨h1, e1⟩ := List.getElem?_eq_some_iff.mp a
  obtain ⟨h2, e2⟩ := List.getElem?_eq_some_iff.mp b
  exact (List.getElem_inj hN).mp (e1.trans e2.symm)
end L2
end

section
set_option linter.all false
namespace Bm
open Kg26
theorem two_pos (k : Nat) : 0 < 2 ^ k := Nat.pow_pos (by decide)
/-- the ratio alone counts -/
theorem nearest_scale {n d k : Nat} (hk : 0 < k) : nearest (n * k) (d * k) = nearest n d := by
  unfold nearest
  have h1 : n * k / (d * k) = n / d := Nat.mul_div_mul_right n d hk
  have h2 : n * k % (d * k) = n % d * k := Nat.mul_mod_mul_right k n d
  have e1 : (2 * (n % d * k) < d * k) = (2 * (n % d) < d) := by
    rw [← Nat.mul_assoc]; exact propext (Nat.mul_lt_mul_right hk)
  have e2 : (d * k < 2 * (n % d * k)) = (d < 2 * (n % d)) := by
    rw [← Nat.mul_assoc]; exact propext (Nat.mul_lt_mul_right hk)
  simp only [h1, h2, e1, e2]
theorem bits_scale {n d k : Nat} (hk : 0 < k) : bits (n * k) (d * k) = bits n d := by
  unfold bits
  simp only [Nat.mul_div_mul_right n d hk]
  rw [show d * k * 2 ^ (if n / d < 2 ^ 53 then 0 else (n / d).log2 - 52) = d * 2 ^ (if n / d < 2 ^ 53 then 0 else (n / d).log2 - 52) * k from Nat.mul_right_comm _ _ _]
  rw [nearest_scale hk]
theorem nearest_one (n : Nat) : nearest n 1 = n := by
  unfold nearest
  simp [Nat.mod_one]
theorem bits_zero (d : Nat) : bits 0 d = 0 := by
  unfold bits nearest
  simp
/-- rounding by putting on just under a half -/
theorem nearest_pow (w k : Nat) : nearest w (2 ^ (k + 1)) = (w + 2 ^ k - 1 + w / 2 ^ (k + 1) % 2) / 2 ^ (k + 1) := by
  unfold nearest
  have hp := two_pos k
  have e : 2 ^ (k + 1) = 2 * 2 ^ k := by rw [Nat.pow_succ, Nat.mul_comm]
  rw [e]
  generalize 2 ^ k = h at *
  have hm := Nat.mod_add_div w (2 * h)
  have hl := Nat.mod_lt w (show 0 < 2 * h by omega)
  generalize w % (2 * h) = r at *
  generalize hq : w / (2 * h) = q at *
  have key : ∀ z, z < 2 * h → (2 * h * q + z) / (2 * h) = q := fun z hz => by
    rw [Nat.mul_add_div (by omega), Nat.div_eq_of_lt hz]; omega
  have key2 : ∀ z, 2 * h ≤ z → z < 2 * (2 * h) → (2 * h * q + z) / (2 * h) = q + 1 := fun z hz hz2 => by
    rw [Nat.mul_add_div (by omega)]
    have : z / (2 * h) = 1 := Nat.div_eq_of_lt_le (by omega) (by omega)
    omega
  have e2 : w + h - 1 + q % 2 = 2 * h * q + (r + h - 1 + q % 2) := by omega
  rw [e2]
  have hq2 : q % 2 < 2 := Nat.mod_lt _ (by decide)
  simp only
  split
  · rw [key _ (by omega)]
  · split
    · rw [key2 _ (by omega) (by omega)]
    · rename_i h1 h2
      have hr : r = h := by omega
      rcases Nat.mod_two_eq_zero_or_one q with z | z
      · rw [z, key _ (by omega)]; rfl
      · rw [z, key2 _ (by omega) (by omega)]
theorem log2_mul_pow {w : Nat} (hw : w ≠ 0) (p : Nat) : (w * 2 ^ p).log2 = w.log2 + p := by
  induction p with
  | zero => simp
  | succ p ih =>
    rw [Nat.pow_succ, ← Nat.mul_assoc]
    have : w * 2 ^ p * 2 = 2 * (w * 2 ^ p) := Nat.mul_comm _ _
    rw [this, Nat.log2_two_mul (Nat.mul_ne_zero hw (Nat.ne_of_gt (two_pos p))), ih]; omega
theorem log2_div_pow {w p : Nat} (h : w / 2 ^ p ≠ 0) : (w / 2 ^ p).log2 + p = w.log2 := by
  have hw : w ≠ 0 := by intro e; subst e; simp at h
  have hb := (Nat.log2_eq_iff h).mp rfl
  have hp := two_pos p
  refine ((Nat.log2_eq_iff hw).mpr ⟨?_, ?_⟩).symm
  · rw [Nat.pow_add]
    exact (Nat.le_div_iff_mul_le hp).mp hb.1
  · have := (Nat.div_lt_iff_lt_mul hp).mp hb.2
    rw [← Nat.pow_add] at this
    rw [show (w / 2 ^ p).log2 + p + 1 = (w / 2 ^ p).log2 + 1 + p by omega]
    exact this
/-- the program's rounding, without the look at what is not finite -/
def rnd (w : Nat) (p : Int) : Nat :=
  if w = 0 then 0 else
    let drop : Int := max ((w.log2 : Int) + 1 - 53) (-p)
    (p + drop).toNat * 2 ^ 52 + (if 0 < drop then (w + 2 ^ (drop - 1).toNat - 1 + w / 2 ^ drop.toNat % 2) / 2 ^ drop.toNat else w * 2 ^ (-drop).toNat)
theorem rnd_up {w : Nat} (hw : w ≠ 0) (p : Nat) : rnd w (p : Int) = bits (w * 2 ^ p) 1 := by
  have hl := log2_mul_pow hw p
  have hq : w * 2 ^ p ≠ 0 := Nat.mul_ne_zero hw (Nat.ne_of_gt (two_pos p))
  have hlt := @Nat.log2_lt _ 53 hq
  unfold rnd bits
  rw [if_neg hw]
  simp only [Nat.div_one]
  by_cases c : w.log2 + p < 53
  · rw [if_pos (hlt.mp (by omega))]
    have hd : max ((w.log2 : Int) + 1 - 53) (-(p : Int)) = -(p : Int) := by omega
    rw [hd, if_neg (by omega)]
    simp only [Nat.pow_zero, Nat.mul_one, nearest_one]
    rw [show ((p : Int) + -(p : Int)).toNat = 0 by omega, show (-(-(p : Int))).toNat = p by omega]
  · have c' : ¬ (w * 2 ^ p < 2 ^ 53) := fun z => c (by have := hlt.mpr z; omega)
    simp only [if_neg c']
    have hd : max ((w.log2 : Int) + 1 - 53) (-(p : Int)) = (w.log2 : Int) - 52 := by omega
    rw [hd, hl]
    rw [show ((p : Int) + ((w.log2 : Int) - 52)).toNat = w.log2 + p - 52 by omega]
    refine congrArg _ ?_
    rw [Nat.one_mul]
    by_cases c2 : 52 < w.log2
    · rw [if_pos (by omega)]
      obtain ⟨k, hk⟩ : ∃ k, w.log2 = k + 53 := ⟨w.log2 - 53, by omega⟩
      rw [show (((w.log2 : Int) - 52) - 1).toNat = k by omega, show ((w.log2 : Int) - 52).toNat = k + 1 by omega, show w.log2 + p - 52 = (k + 1) + p by omega, Nat.pow_add 2 (k + 1) p, nearest_scale (two_pos p)]
      exact (nearest_pow w k).symm
    · rw [if_neg (by omega)]
      obtain ⟨j, hj⟩ : ∃ j, w.log2 + j = 52 := ⟨52 - w.log2, by omega⟩
      rw [show (-((w.log2 : Int) - 52)).toNat = j by omega]
      have e : w * 2 ^ p = w * 2 ^ j * 2 ^ (w.log2 + p - 52) := by rw [Nat.mul_assoc, ← Nat.pow_add]; congr 2; omega
      rw [e]
      have := nearest_scale (n := w * 2 ^ j) (d := 1) (k := 2 ^ (w.log2 + p - 52)) (two_pos _)
      rw [Nat.one_mul] at this
      rw [this, nearest_one]
theorem rnd_down {w : Nat} (hw : w ≠ 0) {p : Nat} (hp : 0 < p) : rnd w (-(p : Int)) = bits w (2 ^ p) := by
  have hlt : w / 2 ^ p < 2 ^ 53 ↔ w.log2 < 53 + p := by
    rw [Nat.div_lt_iff_lt_mul (two_pos p), ← Nat.pow_add]
    exact (Nat.log2_lt hw).symm
  unfold rnd bits
  rw [if_neg hw]
  by_cases c : w.log2 < 53 + p
  · simp only [if_pos (hlt.mpr c)]
    have hd : max ((w.log2 : Int) + 1 - 53) (-(-(p : Int))) = (p : Int) := by omega
    rw [hd, if_pos (by omega)]
    obtain ⟨k, rfl⟩ : ∃ k, p = k + 1 := ⟨p - 1, by omega⟩
    rw [show (-((k + 1 : Nat) : Int) + ((k + 1 : Nat) : Int)).toNat = 0 by omega, show (((k + 1 : Nat) : Int) - 1).toNat = k by omega, show ((k + 1 : Nat) : Int).toNat = k + 1 by omega, Nat.pow_zero, Nat.mul_one, nearest_pow]
  · simp only [if_neg (fun z => c (hlt.mp z))]
    have hq : w / 2 ^ p ≠ 0 := by
      intro z
      exact c (hlt.mp (by rw [z]; decide))
    have hl := log2_div_pow hq
    have hd : max ((w.log2 : Int) + 1 - 53) (-(-(p : Int))) = (w.log2 : Int) - 52 := by omega
    rw [hd, if_pos (by omega)]
    obtain ⟨k, hk⟩ : ∃ k, w.log2 = k + 53 := ⟨w.log2 - 53, by omega⟩
    rw [show (-(p : Int) + ((w.log2 : Int) - 52)).toNat = (w / 2 ^ p).log2 - 52 by omega]
    refine congrArg _ ?_
    rw [show (((w.log2 : Int) - 52) - 1).toNat = k by omega, show ((w.log2 : Int) - 52).toNat = k + 1 by omega, ← Nat.pow_add, show p + ((w / 2 ^ p).log2 - 52) = k + 1 by omega, nearest_pow]
/-- whole times two to the place is n by d -/
theorem rnd_eq {w n d : Nat} {p : Int} (hd : 0 < d) (h : n * 2 ^ (-p).toNat = w * 2 ^ p.toNat * d) : rnd w p = bits n d := by
  by_cases hw : w = 0
  · subst hw
    have : n = 0 := by
      rw [Nat.zero_mul, Nat.zero_mul] at h
      exact (Nat.mul_eq_zero.mp h).resolve_right (Nat.ne_of_gt (two_pos _))
    rw [this, bits_zero]; rfl
  · by_cases hp : 0 ≤ p
    · obtain ⟨k, rfl⟩ : ∃ k : Nat, p = k := ⟨p.toNat, by omega⟩
      rw [show (-(k : Int)).toNat = 0 by omega, Nat.pow_zero, Nat.mul_one, Int.toNat_natCast] at h
      rw [h, rnd_up hw]
      have := bits_scale (n := w * 2 ^ k) (d := 1) hd
      rw [Nat.one_mul] at this
      exact this.symm
    · obtain ⟨k, rfl, hk⟩ : ∃ k : Nat, p = -(k : Int) ∧ 0 < k := ⟨(-p).toNat, by omega, by omega⟩
      rw [show (-(k : Int)).toNat = 0 by omega, show (-(-(k : Int))).toNat = k by omega, Nat.pow_zero, Nat.mul_one] at h
      rw [rnd_down hw hk, ← bits_scale (n := w) (d := 2 ^ k) hd, ← h, Nat.mul_comm (2 ^ k) d]
      exact bits_scale (two_pos k)
def whole (x : Nat) : Nat := if x % 2 ^ 63 < 2 ^ 52 then x % 2 ^ 52 else 2 ^ 52 + x % 2 ^ 52
def place (x : Nat) : Nat := x % 2 ^ 63 / 2 ^ 52 - 1
theorem units_eq (x : Nat) : units (rest x) = whole x * 2 ^ place x := by
  unfold units rest whole place SIGN
  by_cases h : x % 2 ^ 63 < 2 ^ 52
  · rw [if_pos h, if_pos h, Nat.div_eq_of_lt h, Nat.zero_sub, Nat.pow_zero, Nat.mul_one]
    omega
  · rw [if_neg h, if_neg h]
    congr 2
    omega
theorem whole_lt (x : Nat) : whole x < 2 ^ 53 := by
  unfold whole
  have : x % 2 ^ 52 < 2 ^ 52 := Nat.mod_lt _ (by decide)
  split <;> omega
theorem place_le {x : Nat} (h : fin x = true) : place x ≤ 2045 := by
  unfold fin at h
  have h2 : rest x < INF := by simp at h; exact h.2
  unfold rest SIGN INF at h2
  unfold place
  omega
theorem whole_zero {x : Nat} : whole x = 0 ↔ rest x = 0 := by
  unfold whole rest SIGN
  split <;> omega
theorem units_zero {x : Nat} : units (rest x) = 0 ↔ rest x = 0 := by
  rw [units_eq, Nat.mul_eq_zero]
  constructor
  · rintro (h | h)
    · exact whole_zero.mp h
    · exact absurd h (Nat.ne_of_gt (two_pos _))
  · intro h; exact .inl (whole_zero.mpr h)
theorem mul_key (a b t : Nat) : rnd (whole a * whole b) ((place a : Int) + (place b : Int) - (t : Int)) = bits (units (rest a) * units (rest b)) (2 ^ t) := by
  refine rnd_eq (two_pos _) ?_
  rw [units_eq, units_eq]
  have e : whole a * 2 ^ place a * (whole b * 2 ^ place b) = whole a * whole b * 2 ^ (place a + place b) := by
    rw [Nat.pow_add]; simp only [Nat.mul_assoc, Nat.mul_left_comm, Nat.mul_comm]
  rw [e]
  generalize whole a * whole b = w
  have q : ∀ i j k l : Nat, i + j = k + l → w * 2 ^ i * 2 ^ j = w * 2 ^ k * 2 ^ l := fun i j k l h => by
    rw [Nat.mul_assoc, Nat.mul_assoc, ← Nat.pow_add, ← Nat.pow_add, h]
  exact q _ _ _ _ (by omega)
theorem mul_eq (a b : Nat) : mul a b = signed (neg a != neg b) (rnd (whole a * whole b) ((place a : Int) + (place b : Int) - 1074)) := by
  have key : rnd (whole a * whole b) ((place a : Int) + (place b : Int) - 1074) = bits (units (rest a) * units (rest b)) ONE := by
    unfold ONE
    generalize hk : (1074 : Nat) = t
    have ht : (1074 : Int) = (t : Int) := by rw [← hk]; rfl
    rw [ht]
    exact mul_key a b t
  unfold mul
  rw [key]
/-- the sum's whole number -/
def total (a b : Nat) : Int :=
  let p := min (place a) (place b)
  let x : Int := (whole a * 2 ^ (place a - p) : Nat)
  let y : Int := (whole b * 2 ^ (place b - p) : Nat)
  (if neg a = true then -x else x) + (if neg b = true then -y else y)
theorem value_eq (a : Nat) {p : Nat} (h : p ≤ place a) : value a = (if neg a = true then -((whole a * 2 ^ (place a - p) : Nat) : Int) else ((whole a * 2 ^ (place a - p) : Nat) : Int)) * (2 ^ p : Nat) := by
  unfold value
  rw [units_eq]
  have e : whole a * 2 ^ place a = whole a * 2 ^ (place a - p) * 2 ^ p := by
    rw [Nat.mul_assoc, ← Nat.pow_add, Nat.sub_add_cancel h]
  rw [e]
  split
  · rw [Int.natCast_mul, Int.neg_mul]
  · rw [Int.natCast_mul]
theorem total_eq (a b : Nat) : value a + value b = total a b * (2 ^ min (place a) (place b) : Nat) := by
  rw [value_eq a (Nat.min_le_left _ (place b)), value_eq b (Nat.min_le_right (place a) _), ← Int.add_mul]
  rfl
theorem add_eq (a b : Nat) : add a b = if total a b = 0 then some (if neg a = true ∧ neg b = true then SIGN else 0) else signed (decide (total a b < 0)) (rnd (total a b).natAbs ((min (place a) (place b) : Nat) : Int)) := by
  unfold add
  have hp : (0 : Int) < ((2 ^ min (place a) (place b) : Nat) : Int) := by exact_mod_cast two_pos _
  have e := total_eq a b
  simp only
  rw [e]
  by_cases h : total a b = 0
  · rw [h, Int.zero_mul, if_pos rfl, if_pos rfl]
    by_cases hn : neg a = true ∧ neg b = true
    · rw [if_pos hn, if_pos]
      refine ⟨?_, hn⟩
      rw [h, Int.zero_mul] at e
      unfold value at e
      rw [if_pos hn.1, if_pos hn.2] at e
      exact units_zero.mp (by omega)
    · rw [if_neg hn, if_neg]
      rintro ⟨_, z⟩
      exact hn z
  · rw [if_neg h, if_neg]
    · congr 1
      · congr 1
        refine propext ⟨fun z => ?_, fun z => Int.mul_neg_of_neg_of_pos z hp⟩
        rcases Int.lt_or_le (total a b) 0 with q | q
        · exact q
        · have := Int.mul_nonneg q (Int.le_of_lt hp); omega
      · symm
        refine rnd_eq (by decide) ?_
        rw [Int.natAbs_mul, Int.natAbs_natCast, show (-((min (place a) (place b) : Nat) : Int)).toNat = 0 by omega, Nat.pow_zero, Nat.mul_one, Nat.mul_one, Int.toNat_natCast]
    · intro z
      rcases Int.mul_eq_zero.mp z with q | q
      · exact h q
      · omega
theorem signed_fin {s : Bool} {r c : Nat} (h : signed s r = some c) : fin c = true := by
  unfold signed at h
  split at h
  · rename_i hr
    cases h
    unfold INF at hr
    unfold fin rest SIGN INF
    simp only [Bool.and_eq_true, decide_eq_true_eq]
    split <;> omega
  · cases h
theorem mul_fin {a b c : Nat} (h : mul a b = some c) : fin c = true := signed_fin (by rw [mul_eq] at h; exact h)
theorem add_fin {a b c : Nat} (h : add a b = some c) : fin c = true := by
  rw [add_eq] at h
  split at h
  · cases h; split <;> decide
  · exact signed_fin h
theorem lor_one (q : Nat) : q ||| 1 = q / 2 * 2 + 1 := by
  have h1 : (q ||| 1) / 2 = q / 2 := by
    have := @Nat.or_div_two q 1
    simpa using this
  have h2 : (q ||| 1) % 2 = 1 := by
    have := @Nat.or_mod_two_eq_one q 1
    exact this.mpr (.inr rfl)
  omega
/-- a quotient whose last bit tells that something was left over -/
def sticky (N W : Nat) : Nat := if N / W * W ≠ N then N / W ||| 1 else N / W
theorem sticky_half (N W : Nat) : sticky N W / 2 = N / W / 2 := by
  unfold sticky
  split
  · rw [lor_one]; omega
  · rfl
theorem sticky_div (N W t : Nat) : sticky N W / 2 ^ (t + 1) = N / W / 2 ^ (t + 1) := by
  rw [Nat.pow_succ, Nat.mul_comm, ← Nat.div_div_eq_div_mul, ← Nat.div_div_eq_div_mul, sticky_half]
theorem sticky_log2 {N W : Nat} (h : N / W ≠ 0) : (sticky N W).log2 = (N / W).log2 := by
  unfold sticky
  split
  · rw [lor_one]
    have hb := (Nat.log2_eq_iff h).mp rfl
    refine (Nat.log2_eq_iff (by omega)).mpr ⟨by omega, ?_⟩
    rw [Nat.pow_succ] at *
    omega
  · rfl
theorem nearest_sticky {N W : Nat} (hW : 0 < W) (t : Nat) : nearest N (W * 2 ^ (t + 2)) = nearest (sticky N W) (2 ^ (t + 2)) := by
  have hs := sticky_div N W (t + 1)
  have hq : N / (W * 2 ^ (t + 2)) = N / W / 2 ^ (t + 2) := by rw [Nat.div_div_eq_div_mul]
  have hr : N % (W * 2 ^ (t + 2)) = W * (N / W % 2 ^ (t + 2)) + N % W := by
    rw [Nat.mod_mul]; omega
  unfold nearest
  simp only [hs, hq, hr]
  have hx := Nat.mod_lt (N / W) (two_pos (t + 2))
  have hR := Nat.mod_lt N hW
  have hm := Nat.div_add_mod N W
  have e4 : 2 ^ (t + 2) = 2 * (2 * 2 ^ t) := by rw [Nat.pow_succ, Nat.pow_succ]; omega
  have ht := two_pos t
  have hx' : sticky N W % 2 ^ (t + 2) = if N % W = 0 then N / W % 2 ^ (t + 2) else N / W % 2 ^ (t + 2) / 2 * 2 + 1 := by
    unfold sticky
    have c : (N / W * W ≠ N) = (N % W ≠ 0) := propext ⟨fun h z => h (by rw [Nat.mul_comm]; omega), fun h z => h (by rw [Nat.mul_comm] at z; omega)⟩
    simp only [c]
    by_cases z : N % W = 0
    · simp [z]
    · simp only [z, ne_eq, not_false_eq_true, if_true, if_false]
      rw [lor_one, e4]
      generalize N / W = Q
      have h1 : (Q / 2 * 2 + 1) % (2 * (2 * 2 ^ t)) = (Q / 2 % (2 * 2 ^ t)) * 2 + 1 := by
        rw [Nat.mod_mul]
        have a1 : (Q / 2 * 2 + 1) % 2 = 1 := by omega
        have a2 : (Q / 2 * 2 + 1) / 2 = Q / 2 := by omega
        rw [a1, a2]; omega
      have h2 : Q % (2 * (2 * 2 ^ t)) = Q % 2 + 2 * (Q / 2 % (2 * 2 ^ t)) := Nat.mod_mul
      rw [h1, h2]
      omega
  rw [hx', e4] at *
  generalize 2 ^ t = h at *
  generalize N / W % (2 * (2 * h)) = x at *
  generalize N % W = R at *
  by_cases z : R = 0
  · subst z
    simp only [Nat.add_zero, if_true]
    have f1 : (2 * (W * x) < W * (2 * (2 * h))) = (2 * x < 2 * (2 * h)) := by
      rw [show 2 * (W * x) = W * (2 * x) from Nat.mul_left_comm _ _ _]; exact propext (Nat.mul_lt_mul_left hW)
    have f2 : (W * (2 * (2 * h)) < 2 * (W * x)) = (2 * (2 * h) < 2 * x) := by
      rw [show 2 * (W * x) = W * (2 * x) from Nat.mul_left_comm _ _ _]; exact propext (Nat.mul_lt_mul_left hW)
    simp only [f1, f2]
  · simp only [z, if_false]
    by_cases c : x < 2 * h
    · have g1 : 2 * (W * x + R) < W * (2 * (2 * h)) := by
        have : W * (x + 1) ≤ W * (2 * h) := Nat.mul_le_mul_left W (by omega)
        rw [Nat.mul_add] at this
        have e : W * (2 * (2 * h)) = 2 * (W * (2 * h)) := Nat.mul_left_comm _ _ _
        omega
      have g2 : 2 * (x / 2 * 2 + 1) < 2 * (2 * h) := by omega
      simp only [if_pos g1, if_pos g2]
    · have g1 : W * (2 * (2 * h)) < 2 * (W * x + R) := by
        have : W * (2 * h) ≤ W * x := Nat.mul_le_mul_left W (by omega)
        have e : W * (2 * (2 * h)) = 2 * (W * (2 * h)) := Nat.mul_left_comm _ _ _
        omega
      have g2 : 2 * (2 * h) < 2 * (x / 2 * 2 + 1) := by omega
      rw [if_neg (Nat.lt_asymm g1), if_pos g1, if_neg (Nat.lt_asymm g2), if_pos g2]
theorem bits_sticky_down {N W : Nat} (hW : 0 < W) (hQ : 2 ^ 55 ≤ N / W) (b : Nat) : bits N (W * 2 ^ b) = bits (sticky N W) (2 ^ b) := by
  have hQ0 : N / W ≠ 0 := by have := two_pos 55; omega
  have hlog : 55 ≤ (N / W).log2 := (Nat.le_log2 hQ0).mpr hQ
  unfold bits
  by_cases hb : b = 0
  · subst hb
    simp only [Nat.pow_zero, Nat.mul_one, Nat.div_one, Nat.one_mul]
    have hl := sticky_log2 hQ0
    have hs0 : sticky N W ≠ 0 := by
      intro z; rw [z] at hl
      have : Nat.log2 0 = 0 := by decide
      omega
    have c1 : ¬ N / W < 2 ^ 53 := by omega
    have c2 : ¬ sticky N W < 2 ^ 53 := fun z => by have := (Nat.log2_lt hs0).mpr z; omega
    simp only [if_neg c1, if_neg c2, hl]
    refine congrArg _ ?_
    obtain ⟨k, hk⟩ : ∃ k, (N / W).log2 - 52 = k + 2 := ⟨(N / W).log2 - 54, by omega⟩
    rw [hk]
    exact nearest_sticky hW k
  · obtain ⟨b, rfl⟩ : ∃ c, b = c + 1 := ⟨b - 1, by omega⟩
    have hq : N / (W * 2 ^ (b + 1)) = N / W / 2 ^ (b + 1) := by rw [Nat.div_div_eq_div_mul]
    simp only [sticky_div N W b, hq, Nat.mul_assoc, ← Nat.pow_add]
    refine congrArg _ ?_
    obtain ⟨k, hk⟩ : ∃ k, b + 1 + (if N / W / 2 ^ (b + 1) < 2 ^ 53 then 0 else (N / W / 2 ^ (b + 1)).log2 - 52) = k + 2 := by
      by_cases c : N / W / 2 ^ (b + 1) < 2 ^ 53
      · rw [if_pos c]
        rcases Nat.lt_or_ge b 1 with z | z
        · obtain rfl : b = 0 := by omega
          exfalso
          have : 2 ^ 54 ≤ N / W / 2 ^ (0 + 1) := by
            rw [Nat.le_div_iff_mul_le (two_pos _)]; exact hQ
          omega
        · exact ⟨b - 1, by omega⟩
      · rw [if_neg c]
        have h0 : N / W / 2 ^ (b + 1) ≠ 0 := by intro z; rw [z] at c; exact c (by decide)
        have := log2_div_pow h0
        exact ⟨b + 1 + ((N / W / 2 ^ (b + 1)).log2 - 52) - 2, by omega⟩
    rw [hk]
    exact nearest_sticky hW k
theorem bits_sticky_up {N W : Nat} (hW : 0 < W) (hQ : 2 ^ 55 ≤ N / W) (a : Nat) : bits (N * 2 ^ a) W = bits (sticky N W * 2 ^ a) 1 := by
  have hQ0 : N / W ≠ 0 := by have := two_pos 55; omega
  have hlog : 55 ≤ (N / W).log2 := (Nat.le_log2 hQ0).mpr hQ
  have hl := sticky_log2 hQ0
  have hs0 : sticky N W ≠ 0 := by
    intro z; rw [z] at hl
    have : Nat.log2 0 = 0 := by decide
    omega
  have hN0 : N * 2 ^ a / W ≠ 0 := by
    intro z
    have h1 : N / W ≤ N * 2 ^ a / W := Nat.div_le_div_right (Nat.le_mul_of_pos_right N (two_pos a))
    omega
  have lN : (N * 2 ^ a / W).log2 = (N / W).log2 + a := by
    have hb := (Nat.log2_eq_iff hQ0).mp rfl
    refine (Nat.log2_eq_iff hN0).mpr ⟨?_, ?_⟩
    · rw [Nat.le_div_iff_mul_le hW, Nat.pow_add]
      have := (Nat.le_div_iff_mul_le hW).mp hb.1
      calc 2 ^ (N / W).log2 * 2 ^ a * W = 2 ^ (N / W).log2 * W * 2 ^ a := Nat.mul_right_comm _ _ _
        _ ≤ N * 2 ^ a := Nat.mul_le_mul_right _ this
    · rw [Nat.div_lt_iff_lt_mul hW]
      have := (Nat.div_lt_iff_lt_mul hW).mp hb.2
      calc N * 2 ^ a < 2 ^ ((N / W).log2 + 1) * W * 2 ^ a := Nat.mul_lt_mul_of_pos_right this (two_pos a)
        _ = 2 ^ ((N / W).log2 + 1) * 2 ^ a * W := Nat.mul_right_comm _ _ _
        _ = 2 ^ ((N / W).log2 + a + 1) * W := by rw [← Nat.pow_add]; congr 2; omega
  have lS : (sticky N W * 2 ^ a).log2 = (N / W).log2 + a := by rw [log2_mul_pow hs0, hl]
  have hS0 : sticky N W * 2 ^ a ≠ 0 := Nat.mul_ne_zero hs0 (Nat.ne_of_gt (two_pos a))
  have c1 : ¬ N * 2 ^ a / W < 2 ^ 53 := fun z => by have := (Nat.log2_lt hN0).mpr z; omega
  have c2 : ¬ sticky N W * 2 ^ a < 2 ^ 53 := fun z => by have := (Nat.log2_lt hS0).mpr z; omega
  unfold bits
  simp only [Nat.div_one, if_neg c1, if_neg c2, lN, lS, Nat.one_mul]
  refine congrArg _ ?_
  obtain ⟨k, hk⟩ : ∃ k, (N / W).log2 + a - 52 = (k + 2) + a := ⟨(N / W).log2 - 54, by omega⟩
  rw [hk, Nat.pow_add 2 (k + 2) a, ← Nat.mul_assoc, nearest_scale (two_pos a), nearest_scale (two_pos a)]
  exact nearest_sticky hW k
theorem rnd_sticky {N W n d : Nat} {p : Int} (hW : 0 < W) (hQ : 2 ^ 55 ≤ N / W) (hd : 0 < d) (h : n * 2 ^ (-p).toNat * W = N * 2 ^ p.toNat * d) : rnd (sticky N W) p = bits n d := by
  have hQ0 : N / W ≠ 0 := by have := two_pos 55; omega
  have hs0 : sticky N W ≠ 0 := by
    intro z
    have hl := sticky_log2 hQ0
    have hlog : 55 ≤ (N / W).log2 := (Nat.le_log2 hQ0).mpr hQ
    rw [z] at hl
    have : Nat.log2 0 = 0 := by decide
    omega
  by_cases hp : 0 ≤ p
  · obtain ⟨k, rfl⟩ : ∃ k : Nat, p = k := ⟨p.toNat, by omega⟩
    rw [show (-(k : Int)).toNat = 0 by omega, Nat.pow_zero, Nat.mul_one, Int.toNat_natCast] at h
    rw [rnd_up hs0, ← bits_sticky_up hW hQ, ← bits_scale (n := N * 2 ^ k) (d := W) hd, ← h, Nat.mul_comm W d]
    exact bits_scale hW
  · obtain ⟨k, rfl, hk⟩ : ∃ k : Nat, p = -(k : Int) ∧ 0 < k := ⟨(-p).toNat, by omega, by omega⟩
    rw [show (-(k : Int)).toNat = 0 by omega, show (-(-(k : Int))).toNat = k by omega, Nat.pow_zero, Nat.mul_one] at h
    rw [rnd_down hs0 hk, ← bits_sticky_down hW hQ, ← bits_scale (n := N) (d := W * 2 ^ k) hd, ← h]
    rw [show n * 2 ^ k * W = n * (W * 2 ^ k) by rw [Nat.mul_assoc, Nat.mul_comm (2 ^ k) W], Nat.mul_comm (W * 2 ^ k) d]
    exact bits_scale (Nat.mul_pos hW (two_pos k))
theorem div_key (a b t : Nat) (hb : whole b ≠ 0) : rnd (sticky (whole a * 2 ^ 110) (whole b)) ((place a : Int) - (place b : Int) + (t : Int) - 110) = bits (units (rest a) * 2 ^ t) (units (rest b)) := by
  have hW : 0 < whole b := Nat.pos_of_ne_zero hb
  have hu : 0 < units (rest b) := by rw [units_eq]; exact Nat.mul_pos hW (two_pos _)
  by_cases ha : whole a = 0
  · rw [units_eq a, ha, Nat.zero_mul, Nat.zero_mul, Nat.zero_mul, bits_zero]
    unfold sticky
    rw [Nat.zero_div, Nat.zero_mul]
    rfl
  · refine rnd_sticky hW ?_ hu ?_
    · rw [Nat.le_div_iff_mul_le hW]
      have h1 := whole_lt b
      have h2 : 1 * 2 ^ 110 ≤ whole a * 2 ^ 110 := Nat.mul_le_mul_right _ (Nat.pos_of_ne_zero ha)
      have h3 : 2 ^ 55 * whole b ≤ 2 ^ 55 * 2 ^ 53 := Nat.mul_le_mul_left _ (Nat.le_of_lt h1)
      exact Nat.le_trans (Nat.le_trans h3 (by decide)) h2
    · rw [units_eq, units_eq]
      generalize whole a = x
      generalize whole b = y
      generalize hc : (110 : Nat) = c
      have hc' : (110 : Int) = (c : Int) := by rw [← hc]; rfl
      rw [hc']
      have q : ∀ i j k l m n : Nat, i + j + k = l + m + n → x * 2 ^ i * 2 ^ j * 2 ^ k * y = x * 2 ^ l * 2 ^ m * (y * 2 ^ n) := fun i j k l m n h => by
        have e1 : x * 2 ^ i * 2 ^ j * 2 ^ k * y = x * y * 2 ^ (i + j + k) := by rw [Nat.pow_add, Nat.pow_add]; simp only [Nat.mul_assoc, Nat.mul_left_comm, Nat.mul_comm]
        have e2 : x * 2 ^ l * 2 ^ m * (y * 2 ^ n) = x * y * 2 ^ (l + m + n) := by rw [Nat.pow_add, Nat.pow_add]; simp only [Nat.mul_assoc, Nat.mul_left_comm, Nat.mul_comm]
        rw [e1, e2, h]
      exact q _ _ _ _ _ _ (by omega)
theorem div_eq (a b : Nat) : div a b = if whole b = 0 then none else signed (neg a != neg b) (rnd (sticky (whole a * 2 ^ 110) (whole b)) ((place a : Int) - (place b : Int) + 1074 - 110)) := by
  unfold div
  by_cases h : whole b = 0
  · rw [if_pos h, if_pos (whole_zero.mp h)]
  · rw [if_neg h, if_neg (fun z => h (whole_zero.mpr z))]
    have key : rnd (sticky (whole a * 2 ^ 110) (whole b)) ((place a : Int) - (place b : Int) + 1074 - 110) = bits (units (rest a) * ONE) (units (rest b)) := by
      unfold ONE
      generalize hk : (1074 : Nat) = t
      have ht : (1074 : Int) = (t : Int) := by rw [← hk]; rfl
      rw [ht]
      exact div_key a b t h
    rw [key]
theorem div_fin {a b c : Nat} (h : div a b = some c) : fin c = true := by
  rw [div_eq] at h
  split at h
  · cases h
  · exact signed_fin h
theorem sub_fin {a b c : Nat} (h : sub a b = some c) : fin c = true := add_fin h
end Bm
end

section
set_option linter.all false
namespace Bm
open PySem PyProof.Rows
theorem and_nat (a b : Nat) : Builtin.bitAnd (a : Int) (b : Int) = ((a &&& b : Nat) : Int) := by
  rw [bitAnd_pp (Int.natCast_nonneg a) (Int.natCast_nonneg b)]; rfl
theorem or_nat (a b : Nat) : Builtin.bitOr (a : Int) (b : Int) = (a : Int) + b - ((a &&& b : Nat) : Int) := by
  rw [bitOr_and, and_nat]
theorem xor_nat (a b : Nat) : Builtin.bitXor (a : Int) (b : Int) = (a : Int) + b - 2 * ((a &&& b : Nat) : Int) := by
  rw [bitXor_and, and_nat]
theorem and_uns (x : Nat) : Builtin.bitAnd (x : Int) 9223372036854775807 = ((x % 2 ^ 63 : Nat) : Int) := by
  have := and_nat x (2 ^ 63 - 1)
  rw [Nat.and_two_pow_sub_one_eq_mod] at this
  exact this
theorem and_frac (x : Nat) : Builtin.bitAnd (x : Int) 4503599627370495 = ((x % 2 ^ 52 : Nat) : Int) := by
  have := and_nat x (2 ^ 52 - 1)
  rw [Nat.and_two_pow_sub_one_eq_mod] at this
  exact this
theorem and_inf (x : Nat) : Builtin.bitAnd (x : Int) 9218868437227405312 = ((2 ^ 52 * (x / 2 ^ 52 % 2 ^ 11) : Nat) : Int) := by
  have := and_nat x 9218868437227405312
  have e : x &&& 9218868437227405312 = 2 ^ 52 * (x / 2 ^ 52 % 2 ^ 11) := by
    have h1 : (x &&& 9218868437227405312) % 2 ^ 52 = 0 := by
      rw [Nat.and_mod_two_pow]; exact Nat.and_zero _
    have h2 : (x &&& 9218868437227405312) / 2 ^ 52 = x / 2 ^ 52 % 2 ^ 11 := by
      rw [Nat.and_div_two_pow]; exact Nat.and_two_pow_sub_one_eq_mod _ 11
    have := Nat.div_add_mod (x &&& 9218868437227405312) (2 ^ 52)
    rw [h1, h2] at this
    exact this.symm
  rw [e] at this
  exact this
theorem and_pow2 {x k : Nat} (h : x < 2 ^ (k + 1)) : x &&& 2 ^ k = if 2 ^ k ≤ x then 2 ^ k else 0 := by
  have hp := two_pos k
  have h1 : (x &&& 2 ^ k) % 2 ^ k = 0 := by rw [Nat.and_mod_two_pow, Nat.mod_self, Nat.and_zero]
  have h2 : (x &&& 2 ^ k) / 2 ^ k = x / 2 ^ k % 2 := by rw [Nat.and_div_two_pow, Nat.div_self hp, Nat.and_one_is_mod]
  have h3 := Nat.div_add_mod (x &&& 2 ^ k) (2 ^ k)
  rw [h1, h2] at h3
  rw [Nat.pow_succ] at h
  split
  · have e : x / 2 ^ k = 1 := Nat.div_eq_of_lt_le (by omega) (by omega)
    rw [e] at h3
    omega
  · rw [Nat.div_eq_of_lt (by omega)] at h3
    omega
theorem xor_and_nat : ∀ (n x y : Nat), x + y ≤ n → (x ^^^ y) + 2 * (x &&& y) = x + y
  | 0, x, y, h => by
    obtain rfl : x = 0 := by omega
    obtain rfl : y = 0 := by omega
    rfl
  | n + 1, x, y, h => by
    by_cases z : x + y = 0
    · obtain rfl : x = 0 := by omega
      obtain rfl : y = 0 := by omega
      rfl
    · have ih := xor_and_nat n (x / 2) (y / 2) (by omega)
      have a1 : (x ^^^ y) / 2 = x / 2 ^^^ y / 2 := Nat.xor_div_two
      have a2 : (x &&& y) / 2 = x / 2 &&& y / 2 := Nat.and_div_two
      have b1 : (x ^^^ y) % 2 = x % 2 ^^^ y % 2 := Nat.xor_mod_two_pow (n := 1)
      have b2 : (x &&& y) % 2 = x % 2 &&& y % 2 := Nat.and_mod_two_pow (n := 1)
      rcases Nat.mod_two_eq_zero_or_one x with p | p <;> rcases Nat.mod_two_eq_zero_or_one y with q | q <;> rw [p, q] at b1 b2 <;> simp only [show (0 ^^^ 0 : Nat) = 0 from rfl, show (0 ^^^ 1 : Nat) = 1 from rfl, show (1 ^^^ 0 : Nat) = 1 from rfl, show (1 ^^^ 1 : Nat) = 0 from rfl, show (0 &&& 0 : Nat) = 0 from rfl, show (0 &&& 1 : Nat) = 0 from rfl, show (1 &&& 0 : Nat) = 0 from rfl, show (1 &&& 1 : Nat) = 1 from rfl] at b1 b2 <;> omega
theorem and_sign {x : Nat} (h : x < 2 ^ 64) : Builtin.bitAnd (x : Int) 9223372036854775808 = if Kg26.neg x = true then 9223372036854775808 else 0 := by
  have := and_nat x (2 ^ 63)
  rw [and_pow2 h] at this
  refine this.trans ?_
  unfold Kg26.neg Kg26.SIGN
  simp only [decide_eq_true_eq]
  split <;> rfl
theorem neg_iff (x : Nat) : Kg26.neg x = true ↔ 2 ^ 63 ≤ x := by unfold Kg26.neg Kg26.SIGN; exact decide_eq_true_iff
theorem or_lead (r : Nat) (h : r < 2 ^ 52) : Builtin.bitOr (r : Int) 4503599627370496 = ((2 ^ 52 + r : Nat) : Int) := by
  have := or_nat r (2 ^ 52)
  rw [and_pow2 (by omega), if_neg (by omega)] at this
  refine this.trans ?_
  omega
theorem and_small {k a b : Nat} (ha : a < 2 ^ k) : a &&& (2 ^ k * b) = 0 := by
  have h1 : (a &&& 2 ^ k * b) % 2 ^ k = 0 := by
    rw [Nat.and_mod_two_pow, Nat.mul_mod_right, Nat.and_zero]
  have h2 : (a &&& 2 ^ k * b) / 2 ^ k = 0 := by
    rw [Nat.and_div_two_pow, Nat.div_eq_of_lt ha, Nat.zero_and]
  have := Nat.div_add_mod (a &&& 2 ^ k * b) (2 ^ k)
  rw [h1, h2] at this
  omega
theorem or_sign (c : Bool) {r : Nat} (h : r < 2 ^ 63) : Builtin.bitOr (if c = true then 9223372036854775808 else 0) (r : Int) = (((if c = true then 2 ^ 63 else 0) + r : Nat) : Int) := by
  cases c with
  | false =>
    have := or_nat 0 r
    rw [Nat.zero_and] at this
    refine this.trans ?_
    simp
  | true =>
    have := or_nat (2 ^ 63) r
    have z := and_small (b := 1) h
    rw [Nat.mul_one, Nat.and_comm] at z
    rw [z] at this
    refine this.trans ?_
    simp
/-- the sign of a product -/
theorem and_xor_sign {x y : Nat} (hx : x < 2 ^ 64) (hy : y < 2 ^ 64) : Builtin.bitAnd (Builtin.bitXor (x : Int) (y : Int)) 9223372036854775808 = if (Kg26.neg x != Kg26.neg y) = true then 9223372036854775808 else 0 := by
  have e : Builtin.bitXor (x : Int) (y : Int) = ((x ^^^ y : Nat) : Int) := by
    rw [xor_nat]
    have := xor_and_nat _ x y (Nat.le_refl _)
    omega
  rw [e, and_sign (Nat.xor_lt_two_pow hx hy)]
  have q : Kg26.neg (x ^^^ y) = (Kg26.neg x != Kg26.neg y) := by
    have t : ∀ z : Nat, z < 2 ^ 64 → z.testBit 63 = Kg26.neg z := fun z hz => by
      unfold Kg26.neg Kg26.SIGN
      rw [Nat.testBit_eq_decide_div_mod_eq]
      congr 1
      exact propext ⟨fun z => by omega, fun z => by omega⟩
    rw [← t _ (Nat.xor_lt_two_pow hx hy), Nat.testBit_xor, t x hx, t y hy]
  rw [q]
theorem and_and_sign {x y : Nat} (hx : x < 2 ^ 64) (hy : y < 2 ^ 64) : Builtin.bitAnd (Builtin.bitAnd (x : Int) (y : Int)) 9223372036854775808 = if Kg26.neg x = true ∧ Kg26.neg y = true then 9223372036854775808 else 0 := by
  have hl : x &&& y < 2 ^ 64 := Nat.and_lt_two_pow x hy
  rw [and_nat, and_sign hl]
  have t : ∀ z : Nat, z < 2 ^ 64 → z.testBit 63 = Kg26.neg z := fun z hz => by
    unfold Kg26.neg Kg26.SIGN
    rw [Nat.testBit_eq_decide_div_mod_eq]
    congr 1
    exact propext ⟨fun z => by omega, fun z => by omega⟩
  rw [← t _ hl, Nat.testBit_and, t x hx, t y hy]
  simp only [Bool.and_eq_true]
theorem xor_sign {y : Nat} (hy : y < 2 ^ 64) : Builtin.bitXor (y : Int) 9223372036854775808 = ((Kg26.flip y : Nat) : Int) := by
  have h1 := bitXor_and (y : Int) 9223372036854775808
  rw [and_sign hy] at h1
  rw [h1]
  unfold Kg26.flip Kg26.SIGN
  by_cases c : Kg26.neg y = true
  · rw [if_pos c, if_pos c]
    have := (neg_iff y).mp c
    omega
  · rw [if_neg c, if_neg c]
    omega
end Bm
end

section
set_option linter.all false
namespace Bm
open Kg26
/-- the first t cells -/
def cells (g : Nat → Option Nat) (t : Nat) : Option (List Nat) := (List.range t).mapM g
theorem cells_succ (g : Nat → Option Nat) (t : Nat) : cells g (t + 1) = (cells g t).bind fun acc => (g t).map fun c => acc ++ [c] := by
  unfold cells
  rw [List.range_succ, List.mapM_append]
  cases (List.range t).mapM g with
  | none => rfl
  | some acc =>
    simp only [List.mapM_cons, List.mapM_nil]
    cases g t <;> rfl
theorem cells_none {g : Nat → Option Nat} {t : Nat} (h : cells g t = none) : ∀ {n : Nat}, t ≤ n → cells g n = none := by
  intro n hn
  induction n with
  | zero => obtain rfl : t = 0 := by omega
            exact h
  | succ n ih =>
    by_cases e : t = n + 1
    · subst e; exact h
    · rw [cells_succ, ih (by omega)]; rfl
theorem cells_length {g : Nat → Option Nat} : ∀ {t : Nat} {l : List Nat}, cells g t = some l → l.length = t
  | 0, l, h => by cases h; rfl
  | t + 1, l, h => by
    rw [cells_succ] at h
    cases e : cells g t with
    | none => rw [e] at h; cases h
    | some acc =>
      rw [e] at h
      cases e2 : g t with
      | none => rw [e2] at h; cases h
      | some c =>
        rw [e2] at h
        cases h
        rw [List.length_append, cells_length e]; rfl
theorem cells_fin {g : Nat → Option Nat} (hg : ∀ t c, g t = some c → fin c = true) : ∀ {t : Nat} {l : List Nat}, cells g t = some l → ∀ c ∈ l, fin c = true
  | 0, l, h => by cases h; simp
  | t + 1, l, h => by
    rw [cells_succ] at h
    cases e : cells g t with
    | none => rw [e] at h; cases h
    | some acc =>
      rw [e] at h
      cases e2 : g t with
      | none => rw [e2] at h; cases h
      | some c =>
        rw [e2] at h
        cases h
        intro d hd
        rcases List.mem_append.mp hd with q | q
        · exact cells_fin hg e d q
        · rw [List.mem_singleton.mp q]; exact hg t c e2
section
variable {f g : Nat → Nat → Option Nat}
end
/-- rows and columns as lists -/
def rowAt (a : List Nat) (m i : Nat) : List Nat := (List.range m).map fun x => at_ a (i * m + x)
def colAt (b : List Nat) (k m j : Nat) : List Nat := (List.range m).map fun x => at_ b (x * k + j)
theorem row_slice {a : List Nat} {m i : Nat} (h : i * m + m ≤ a.length) : (a.drop (i * m)).take m = rowAt a m i := by
  apply List.ext_getElem?
  intro x
  unfold rowAt at_
  rw [List.getElem?_map]
  by_cases hx : x < m
  · rw [List.getElem?_take_of_lt hx, List.getElem?_drop, List.getElem?_range hx, List.getElem?_eq_getElem (by omega)]
    simp [List.getD, List.getElem?_eq_getElem (show i * m + x < a.length by omega)]
  · rw [List.getElem?_eq_none (by rw [List.length_take]; omega), List.getElem?_eq_none (l := List.range m) (by simp; omega)]
    rfl
end Bm
end

section
set_option linter.all false
namespace Bm
open PySem PyProof.Rows Kg26
theorem log2_small {w k : Nat} (h : w < 2 ^ k) (hk : k ≤ 4000) : w.log2 < 4000 := by
  by_cases z : w = 0
  · subst z; decide
  · exact Nat.lt_of_lt_of_le ((Nat.log2_lt z).mpr h) hk
theorem intBits_nat {w : Nat} (h : w ≠ 0) : Builtin.Int.intBits (w : Int) = w.log2 + 1 := by
  unfold Builtin.Int.intBits
  rw [if_neg (by simp; omega)]
  rfl
theorem intBits_small {w k : Nat} (h : w < 2 ^ k) (hk : k ≤ 5000) : Builtin.Int.intBits (w : Int) ≤ 5000 := Nat.le_trans (intBits_le_iff.mpr h) hk
theorem intBits_log {w : Nat} (h : w.log2 < 4000) : Builtin.Int.intBits (w : Int) ≤ 5000 := by
  by_cases z : w = 0
  · subst z; decide
  · rw [intBits_nat z]; omega
theorem pow_cast (k : Nat) : ((2 : Int) ^ k) = ((2 ^ k : Nat) : Int) := by rw [Int.natCast_pow]; rfl
theorem fin_eq {x : Nat} (hx : x < 2 ^ 64) : decide (Builtin.bitAnd (x : Int) 9223372036854775807 < 9218868437227405312) = fin x := by
  rw [and_uns]
  unfold fin rest SIGN INF
  rw [decide_eq_true hx, Bool.true_and]
  congr 1
  exact propext ⟨fun h => by omega, fun h => by omega⟩
theorem whole_pos {x : Nat} (h : (Builtin.bitAnd (x : Int) 9218868437227405312 != 0) = true) : Builtin.bitOr (Builtin.bitAnd (x : Int) 4503599627370495) 4503599627370496 = ((whole x : Nat) : Int) := by
  rw [and_inf] at h
  rw [and_frac, or_lead _ (Nat.mod_lt _ (by decide))]
  have h' : ((2 ^ 52 * (x / 2 ^ 52 % 2 ^ 11) : Nat) : Int) ≠ 0 := by simpa using h
  unfold whole
  rw [if_neg (by omega)]
theorem whole_neg {x : Nat} (h : (Builtin.bitAnd (x : Int) 9218868437227405312 != 0) = false) : Builtin.bitAnd (x : Int) 4503599627370495 = ((whole x : Nat) : Int) := by
  rw [and_inf] at h
  rw [and_frac]
  have h' : ((2 ^ 52 * (x / 2 ^ 52 % 2 ^ 11) : Nat) : Int) = 0 := by simpa using h
  unfold whole
  rw [if_pos (by omega)]
theorem field_eq (x : Nat) : Builtin.bitAnd (x : Int) 9223372036854775807 / 2 ^ (52 : Int).toNat = ((x % 2 ^ 63 / 2 ^ 52 : Nat) : Int) := by
  rw [and_uns]
  show ((x % 2 ^ 63 : Nat) : Int) / 2 ^ 52 = _
  omega
theorem kept_pos (w : Nat) {d : Int} (hd : 0 < d) : ((w : Int) + 1 * 2 ^ (d - 1).toNat - 1 + Builtin.bitAnd ((w : Int) / 2 ^ d.toNat) 1) / 2 ^ d.toNat = (((w + 2 ^ (d - 1).toNat - 1 + w / 2 ^ d.toNat % 2) / 2 ^ d.toNat : Nat) : Int) := by
  have e1 : (w : Int) / 2 ^ d.toNat = ((w / 2 ^ d.toNat : Nat) : Int) := by rw [pow_cast]; rfl
  have e2 : Builtin.bitAnd ((w / 2 ^ d.toNat : Nat) : Int) 1 = ((w / 2 ^ d.toNat % 2 : Nat) : Int) := by
    have := and_nat (w / 2 ^ d.toNat) 1
    rw [Nat.and_one_is_mod] at this
    exact this
  rw [e1, e2, pow_cast, pow_cast]
  have hp := two_pos (d - 1).toNat
  have e3 : (w : Int) + 1 * ((2 ^ (d - 1).toNat : Nat) : Int) - 1 + ((w / 2 ^ d.toNat % 2 : Nat) : Int) = ((w + 2 ^ (d - 1).toNat - 1 + w / 2 ^ d.toNat % 2 : Nat) : Int) := by omega
  rw [e3]
  rfl
theorem kept_neg (w : Nat) (d : Int) : (w : Int) * 2 ^ (-d).toNat = ((w * 2 ^ (-d).toNat : Nat) : Int) := by
  rw [pow_cast, Int.natCast_mul]
theorem bits_eq {p d : Int} (h : 0 ≤ p + d) (kept : Nat) : (p + d) * 2 ^ (52 : Int).toNat + (kept : Int) = (((p + d).toNat * 2 ^ 52 + kept : Nat) : Int) := by
  show (p + d) * 2 ^ 52 + (kept : Int) = _
  omega
/-- what is kept of the whole -/
def keptOf (w : Nat) (d : Int) : Nat := if 0 < d then (w + 2 ^ (d - 1).toNat - 1 + w / 2 ^ d.toNat % 2) / 2 ^ d.toNat else w * 2 ^ (-d).toNat
theorem rnd_kept {w : Nat} (hw : w ≠ 0) (p : Int) {d : Int} (hd : d = max ((w.log2 : Int) + 1 - 53) (-p)) : rnd w p = (p + d).toNat * 2 ^ 52 + keptOf w d := by
  unfold rnd keptOf
  rw [if_neg hw, hd]
theorem rnd_zero (p : Int) : rnd 0 p = 0 := rfl
theorem sticky_int (N W : Nat) : (if ((N : Int) / (W : Int)) * (W : Int) = (N : Int) then (N : Int) / (W : Int) else Builtin.bitOr ((N : Int) / (W : Int)) 1) = ((sticky N W : Nat) : Int) := by
  have e : (N : Int) / (W : Int) = ((N / W : Nat) : Int) := rfl
  rw [e]
  have c : (((N / W : Nat) : Int) * (W : Int) = (N : Int)) ↔ N / W * W = N := by
    rw [← Int.natCast_mul]; exact Int.natCast_inj
  unfold sticky
  by_cases h : N / W * W = N
  · rw [if_pos (c.mpr h), if_neg (fun z => z h)]
  · rw [if_neg (fun z => h (c.mp z)), if_pos h]
    have := or_nat (N / W) 1
    refine this.trans ?_
    rw [Nat.and_one_is_mod, lor_one]
    omega
theorem sgn_pos {x : Nat} (hx : x < 2 ^ 64) (z : (Builtin.bitAnd (x : Int) 9223372036854775808 != 0) = true) : neg x = true := by
  rw [and_sign hx] at z
  by_cases c : neg x = true
  · exact c
  · rw [if_neg c] at z; exact absurd z (by decide)
theorem sgn_neg {x : Nat} (hx : x < 2 ^ 64) (z : (Builtin.bitAnd (x : Int) 9223372036854775808 != 0) = false) : ¬ neg x = true := by
  rw [and_sign hx] at z
  intro c
  rw [if_pos c] at z; exact absurd z (by decide)
theorem shl_nat (w a b : Nat) : (w : Int) * 2 ^ ((a : Int) - (b : Int)).toNat = ((w * 2 ^ (a - b) : Nat) : Int) := by
  rw [show ((a : Int) - (b : Int)).toNat = a - b by omega, pow_cast, Int.natCast_mul]
theorem whole_bits (x : Nat) : Builtin.Int.intBits ((whole x : Nat) : Int) ≤ 5000 := intBits_small (whole_lt x) (by decide)
theorem mul_pow_lt {w a b k : Nat} (h : w < 2 ^ a) (hb : b ≤ k) : w * 2 ^ b < 2 ^ (a + k) := by
  rw [Nat.pow_add]
  exact Nat.lt_of_lt_of_le (Nat.mul_lt_mul_of_pos_right h (two_pos b)) (Nat.mul_le_mul_left _ (Nat.pow_le_pow_right (by decide) hb))
theorem total_log {x y : Nat} (fx : fin x = true) (fy : fin y = true) : (total x y).natAbs.log2 < 4000 := by
  have h1 := mul_pow_lt (whole_lt x) (b := place x - min (place x) (place y)) (k := 2045) (by have := place_le fx; omega)
  have h2 := mul_pow_lt (whole_lt y) (b := place y - min (place x) (place y)) (k := 2045) (by have := place_le fy; omega)
  refine log2_small (k := 2099) ?_ (by decide)
  have e : 2 ^ 2099 = 2 ^ (53 + 2045) + 2 ^ (53 + 2045) := by rw [← Nat.two_mul, ← Nat.pow_succ']
  rw [e]
  unfold total
  generalize 2 ^ (53 + 2045) = L at *
  simp only
  split <;> split <;> omega
theorem fin_flip {y : Nat} (h : fin y = true) : fin (Kg26.flip y) = true := by
  unfold fin Kg26.flip at *
  unfold neg rest SIGN INF at *
  simp only [Bool.and_eq_true, decide_eq_true_eq] at *
  split <;> omega
end Bm
end

section
set_option linter.all false
set_option maxRecDepth 100000
namespace Bm
open PySem
/-- the object at e is an exception with the traceback T, in flight at fl -/
structure Exc (h : Heap) (e : Addr) (o : Obj) (T : Addr) (fl : Value) : Prop where
  ob : h.get? e = some o
  fs : ∃ vs, o.data = .fields vs ∧ vs[1]? = some (.ref T)
  tb : ∃ oT ts, h.get? T = some oT ∧ oT.data = .fields ts ∧ ts[3]? = some fl
  ne : T ≠ e
/-- all is kept but the records at cut, and the frames' slots -/
structure Off (fr cut : List Addr) (h h' : Heap) : Prop where
  keep : ∀ b o, h.get? b = some o → b ∉ fr → b ∉ cut → h'.get? b = some o
  slot : ∀ b o, h.get? b = some o → b ∈ fr → b ∉ cut → ∃ sl, h'.get? b = some { o with slots := sl }
  size : h.objs.size ≤ h'.objs.size
theorem Off.refl (fr cut : List Addr) (h : Heap) : Off fr cut h h := ⟨fun _ _ q _ _ => q, fun _ o q _ _ => ⟨o.slots, q⟩, Nat.le_refl _⟩
theorem Off.trans {fr cut : List Addr} {h h1 h2 : Heap} (a : Off fr cut h h1) (b : Off fr cut h1 h2) : Off fr cut h h2 :=
  ⟨fun c o q n m => b.keep c o (a.keep c o q n m) n m, fun c o q n m => by
    obtain ⟨sl, e1⟩ := a.slot c o q n m
    obtain ⟨sl', e2⟩ := b.slot c _ e1 n m
    exact ⟨sl', e2⟩, Nat.le_trans a.size b.size⟩
theorem Off.mono {fr fr' cut cut' : List Addr} {h h' : Heap} (a : Off fr cut h h') (hf : ∀ b ∈ fr, b ∈ fr') (hc : ∀ b ∈ cut, b ∈ cut') : Off fr' cut' h h' :=
  ⟨fun c o q n m => a.keep c o q (fun z => n (hf c z)) fun z => m (hc c z), fun c o q _ m => by
    by_cases z : c ∈ fr
    · exact a.slot c o q z fun z => m (hc c z)
    · exact ⟨o.slots, a.keep c o q z fun z => m (hc c z)⟩, a.size⟩
/-- the same but for the record's fields -/
def SameX (o o' : Obj) : Prop := o'.cls = o.cls ∧ o'.dict = o.dict ∧ o'.slots = o.slots
theorem sameX_map (o : Obj) (f : Array Value → Array Value) : SameX o (o.mapFields f) := by
  obtain ⟨c, d, dt, sl⟩ := o
  cases dt <;> exact ⟨rfl, rfl, rfl⟩
section
variable {M : Model} {A : Around} {E : Value → Shared → Prop} {s : Shared}
theorem set_off {a : Addr} {o : Obj} {vs : Array Value} {i : Nat} {x : Value} {Q : Unit → Shared → Prop} (ha : s.heap.get? a = some o) (hd : o.data = .fields vs) (hi : i < vs.size)
    (h : ∀ h', h'.get? a = some (o.mapFields (·.setIfInBounds i x)) → (∀ b u, b ≠ a → s.heap.get? b = some u → h'.get? b = some u) → h'.objs.size = s.heap.objs.size → Q () { s with heap := h' }) :
    wpAny M A (setField (.ref a) i x) Q E s := by
  refine wpAny_setField ha hd hi (h _ (Heap.get?_update_self _ ha (Obj.isFreed_of_fields (Obj.data_mapFields hd _))) (fun b u hb q => ?_) (Heap.size_after_update ..))
  rw [Heap.get?_update_other _ _ (Ne.symm hb)]; exact q
theorem land {e T : Addr} {o : Obj} {fl : Value} {fm : Option Addr} {Q : Unit → Shared → Prop} (x : Exc s.heap e o T fl)
    (h : ∀ h', Exc h' e o T (fm.elim .none fun f => rawInt f) → Off [] [T] s.heap h' → Q () { s with heap := h' }) : wpAny M A (setFlight (.ref e) fm) Q E s := by
  obtain ⟨vs, hd, h1⟩ := x.fs
  obtain ⟨oT, ts, hT, hdT, h3⟩ := x.tb
  unfold setFlight
  refine wpAny_bind (wpAny_field x.ob hd h1 ?_)
  rw [if_pos (show (Value.ref T != Value.none) = true from by simp)]
  have hsz : 3 < ts.size := (Array.getElem?_eq_some_iff.mp h3).1
  refine set_off hT hdT hsz fun h' q k z => h h' ⟨k e o (Ne.symm x.ne) x.ob, ⟨vs, hd, h1⟩, ⟨_, _, q, Obj.data_mapFields hdT _, by simp [hsz]⟩, x.ne⟩ ⟨fun b u hb _ hc => ?_, fun b u _ hf => absurd hf (by simp), by rw [z]; exact Nat.le_refl _⟩
  exact k b u (fun w => hc (by simp [w])) hb
/-- a new entry for the frame -/
theorem entry {base : Heap} {env : Env} {outer : List Env} {L e : Addr} {o : Obj} {vs : Array Value} {head : Value} {hadNext : Bool} {Q : Unit → Shared → Prop}
    (hfr : A.frames = some (env :: outer)) (hl : s.heap.FunFrames base (env :: outer)) (hf : env.frame = some L) (he : s.heap.get? e = some o) (hd : o.data = .fields vs) (hsz : 1 < vs.size)
    (h : ∀ h' o' T, SameX o o' → Exc h' e o' T (rawInt L) → s.heap.objs.size ≤ T → Off ((env :: outer).filterMap (·.frame)) [e] s.heap h' → Q () { s with heap := h' }) :
    wpAny M A (do let a ← frameOf env; let pl ← entryPlaceOf L hadNext; let b ← EntryCells.newEntry head a .none (rawInt L) .none pl; setField (.ref e) 1 b) Q E s := by
  have hene : e ∉ (env :: outer).filterMap (·.frame) := fun hm => by
    obtain ⟨_, o', ho', hnf⟩ := hl.mem hm
    rw [he] at ho'
    cases ho'
    exact hnf vs hd
  refine wpAny_bind (wpAny_frameOf_fun hfr hl hf fun h₁ hs => wpAny_bind (wpAny_entryPlaceOf fun pl hpl => ?_))
  unfold EntryCells.newEntry newFields
  refine wpAny_bind (wpAny_newObj_type ?_ (hpl.sizeOk5 _ _ _ _ _))
  have e1 : h₁.get? e = some o := (hs.2.1 e hene).trans he
  have hne : h₁.objs.size ≠ e := Nat.ne_of_gt (Heap.lt_size e1)
  refine set_off (Heap.get?_push_of_some _ e1) hd hsz fun h' q k z => ?_
  have kT := k h₁.objs.size _ hne (Heap.get?_push_size h₁ rfl)
  refine h h' _ h₁.objs.size (sameX_map o _) ⟨q, ⟨_, Obj.data_mapFields hd _, by simp [hsz]⟩, ⟨_, _, kT, rfl, ?_⟩, hne⟩ (Nat.le_of_eq hs.1.symm) ⟨fun b u hb hbf hc => ?_, fun b u hb hbf hc => ?_, ?_⟩
  · simp
  · exact k b u (fun w => hc (by simp [w])) (Heap.get?_push_of_some _ ((hs.2.1 b hbf).trans hb))
  · obtain ⟨sl, hq⟩ := hs.2.2 b u hb
    exact ⟨sl, k b _ (fun w => hc (by simp [w])) (Heap.get?_push_of_some _ hq)⟩
  · rw [z, Heap.size_push, hs.1]; exact Nat.le_succ _
/-- the frame is noted on an exception that isn't in flight here -/
theorem note {base : Heap} {env : Env} {outer : List Env} {L e : Addr} {o : Obj} {vs : Array Value} {head : Value} {cut : List Addr} {fl : Value} {Q : Unit → Shared → Prop}
    (hfr : A.frames = some (env :: outer)) (hl : s.heap.FunFrames base (env :: outer)) (hf : env.frame = some L) (he : s.heap.get? e = some o) (hd : o.data = .fields vs) (h1 : vs[1]? = some head) (hec : e ∈ cut)
    (hT : head = .none ∨ ∃ T oT ts, head = .ref T ∧ T ≠ e ∧ T ∈ cut ∧ s.heap.get? T = some oT ∧ oT.data = .fields ts ∧ ts[3]? = some fl) (hnl : ¬ ((fl == rawInt L) = true))
    (h : ∀ h' o' T, SameX o o' → Exc h' e o' T (rawInt L) → s.heap.objs.size ≤ T → Off ((env :: outer).filterMap (·.frame)) cut s.heap h' → Q () { s with heap := h' }) :
    wpAny M A (noteFrame (.ref e) env) Q E s := by
  have hsz : 1 < vs.size := (Array.getElem?_eq_some_iff.mp h1).1
  unfold noteFrame
  simp only [hf]
  refine wpAny_bind (wpAny_field he hd h1 ?_)
  rcases hT with rfl | ⟨T, oT, ts, rfl, hTe, hTc, hT, hdT, h3⟩
  · rw [if_neg (by decide)]
    exact entry hfr hl hf he hd hsz fun h' o' T' a b c d => h h' o' T' a b c (d.mono (fun _ z => z) fun b hb => by rw [List.mem_singleton.mp hb]; exact hec)
  · rw [if_pos (show (Value.ref T != Value.none) = true from by simp)]
    refine wpAny_bind (wpAny_field hT hdT h3 ?_)
    rw [if_neg hnl]
    refine wpAny_bind (set_off hT hdT (Array.getElem?_eq_some_iff.mp h3).1 fun h₁ q k z => ?_)
    refine entry (s := { s with heap := h₁ }) hfr (hl.of_keeps fun b u hb hnf => ⟨u, k b u (fun w => ?_) hb, rfl⟩) hf (k e o (Ne.symm hTe) he) hd hsz fun h' o' T' a b c d => h h' o' T' a b (by rw [← z]; exact c) ?_
    · rw [w, hT] at hb
      cases hb
      exact hnf ts hdT
    · have d' := d.mono (fun _ z => z) (cut' := cut) fun b hb => by rw [List.mem_singleton.mp hb]; exact hec
      refine ⟨fun b u hb hbf hbc => d'.keep b u (k b u (fun w => hbc (w ▸ hTc)) hb) hbf hbc, fun b u hb hbf hbc => d'.slot b u (k b u (fun w => hbc (w ▸ hTc)) hb) hbf hbc, ?_⟩
      have := d'.size
      rw [z] at this
      exact this
end
end Bm
end

section
set_option linter.all false
set_option maxRecDepth 100000
set_option maxHeartbeats 4000000
namespace Bm
open PySem PySem.W PyProof.Rows Builtin
/-- what of the text an exception class of one's own must have: its own or inherited __init__ is the def at f -/
structure XCls (K : Frag) (C f : Addr) : Prop where
  lk : ∃ oc od cd sl, K.lookup C = some ⟨oc, od, .cls cd, sl⟩ ∧ cd.hasDel = false ∧ cd.mro.isEmpty = false ∧ (sl.toList[4]?).join = some (.builtin "Exception.__new__")
  self : mroIn K C (.ref C) = some true
  isE : mroIn K C (.type "Exception") = some true
  isB : mroIn K C (.type "BaseException") = some true
  noA : mroIn K C (.type "AttributeError") = some false
  noN : mroIn K C (.type "NameError") = some false
  call : specialIn K (.ref C) "__call__" = some (some (.builtin "type.__call__"))
  typ : instIn K (.ref C) (.type "type") = some true
  tt : typeIn K (.ref C) = some (.type "type")
  init : findIn K (.ref C) "__init__" = some (some (.ref f))
  fn : typeIn K (.ref f) = some (.type "function")
/-- a new exception: its class, its (empty) arguments at t -/
abbrev excObj (C t : Addr) (d : Option Addr) : Obj := { cls := .ref C, dict := d, data := .fields #[.ref t, .none, .none, .none, .bool false, .none] }
abbrev noArgs : Obj := { cls := .type "tuple", data := .seq #[] }
structure XMakes (M : Model) (h : Heap) (C : Addr) : Prop where
  obj : ∃ oc od cd sl, h.get? C = some ⟨oc, od, .cls cd, sl⟩ ∧ cd.hasDel = false ∧ cd.mro.isEmpty = false
  made : Looks M h (Bind.madeBy (.ref C)) (some "Exception.__new__")
  base : Looks M h (Bind.staticBase (.ref C)) (.ref C)
  self : Looks M h (isSubtype (.ref C) (.ref C)) true
  isE : Looks M h (isSubtype (.ref C) (.type "Exception")) true
  isB : Looks M h (isSubtype (.ref C) (.type "BaseException")) true
  noA : Looks M h (isSubtype (.ref C) (.type "AttributeError")) false
  noN : Looks M h (isSubtype (.ref C) (.type "NameError")) false
  call : Looks M h (specialOf (.ref C) "__call__") (some (.builtin "type.__call__"))
  typ : Looks M h (isInstance (.ref C) (.type "type")) true
theorem XCls.makes {K : Frag} {M : Model} {h : Heap} {C f : Addr} (c : XCls K C f) (X : K.In h) : XMakes M h C := by
  obtain ⟨oc, od, cd, sl, ho, e2, e4, e3⟩ := c.lk
  have hc : clsIn K C = some cd := by unfold clsIn; rw [ho]
  have hm : Looks M h (mroOf (.ref C)) cd.mro := (looks_clsIn X hc).andThen .now
  obtain ⟨c0, l, hl⟩ : ∃ c l, cd.mro = c :: l := by
    cases q : cd.mro with
    | nil => rw [q] at e4; cases e4
    | cons c l => exact ⟨c, l, rfl⟩
  have made : Looks M h (Bind.madeBy (.ref C)) (some "Exception.__new__") := by
    intro A Q E s k q
    unfold Bind.madeBy
    refine wpAny_bind (hm A _ E s k ?_)
    rw [hl, List.forIn_cons]
    refine wpAny_bind (wpAny_bind (wpAny_bind (wpAny_bind (wpAny_loadPart (k _ _ (X _ _ ho)) (wpAny_pure ?_)))))
    dsimp only
    rw [← Array.getElem?_toList, e3]
    exact wpAny_pure (wpAny_pure (wpAny_pure q))
  refine ⟨⟨oc, od, cd, sl, X _ _ ho, e2, e4⟩, made, ?_, looks_mroIn X c.self, looks_mroIn X c.isE, looks_mroIn X c.isB, looks_mroIn X c.noA, looks_mroIn X c.noN, looks_specialIn X c.call, looks_instIn X c.typ⟩
  intro A Q E s k q
  unfold Bind.staticBase
  refine wpAny_bind (hm A _ E s k ?_)
  rw [hl, List.forIn_cons]
  exact wpAny_bind (wpAny_bind (wpAny_bind (made A _ E s k (wpAny_pure (wpAny_pure (wpAny_pure q))))))
section
variable {prog : Program} {w : World} {A : Around} {C : Addr} {R : Result → Shared → Prop} {h : Heap} {g : Array GenState} {d : Drawn} {t : Nat} {os : OsState}
theorem exc_new (Y : XMakes (model prog w) h C)
    (hq : R (.ok (.ret (.ref (h.objs.size + 1)))) ⟨(h.push noArgs).push (excObj C h.objs.size none), g, d, t, os⟩) :
    codeAny (model prog w) A (.call (.builtin "Exception.__new__") ⟨[.ref C], []⟩) R ⟨h, g, d, t, os⟩ := by
  obtain ⟨⟨oc, od, cd, sl, hC, e2, e4⟩, made, base, self, isE, isB, noA, noN, call, typ⟩ := Y
  have F := PySem.F.excBase_Exception
  have hstar := F.noStar
  refine codeAny_call_builtin_code (Code.quiet_builtin _ F.quiet) ?_
  simp only [checkBuiltinCall, F.newKind, F.newSplit, F.newRow]
  repeat (first | simp only [bne_self_eq_false, Bool.false_eq_true, if_false] | lk)
  have hends := F.ends
  have here : Looks (model prog w) h (Bind.madeHere "BaseException.__new__" (.ref C)) () := base.andThen (made.andThen (Looks.of_pure (by simp only [Option.map_some, F.canon, bne_self_eq_false, Bool.false_eq_true, if_false])))
  refine codeAny_builtinAt F.entry ?_
  unfold Builtin.«BaseException.__new__»
  refine PySem.wpAt_bind (show PySem.wpAt _ _ _ (stack >>= _) _ _ _ from PySem.wpAt_bind (PySem.wpAt_stack fun p below => PySem.wpAt_of_wpAny ?_))
  wp_walk
  refine PySem.wpAt_of_wpAny ?_
  rw [F.owner]
  repeat (first | simp only [Bool.false_eq_true, if_false, Bool.not_true] | lk)
  refine wpAny_load (Heap.get?_push_of_some _ (Heap.get?_push_of_some _ hC)) ?_
  dsimp only
  refine wpAny_pure ?_
  rw [e2]
  refine wpAny_pure (wpAny_pure ?_)
  show R (.ok (.ret (.ref (h.push noArgs).objs.size))) _
  rw [Heap.size_push]
  exact hq
/-- C(): the arguments (none) at the heap's end, the exception behind them; then its __init__ -/
theorem exc_make {init : Value} (Y : XMakes (model prog w) h C) (hi : Looks (model prog w) h (typeLookup (.ref C) "__init__") (some init)) (hb : ∀ self, Looks (model prog w) h (bindSpecial init self) (init, [self]))
    (hq : codeAny (model prog w) (A.under (.builtin "type.__call__" ⟨[.ref C], []⟩)) (.call init ⟨[.ref (h.objs.size + 1)], []⟩) (InitBack (h.objs.size + 1) R) ⟨(h.push noArgs).push (excObj C h.objs.size none), g, d, t, os⟩) :
    codeAny (model prog w) A (.call (.ref C) ⟨[], []⟩) R ⟨h, g, d, t, os⟩ := by
  have Y' := Y
  obtain ⟨⟨oc, od, cd, sl, hC, e2, e4⟩, made, base, self, isE, isB, noA, noN, call, typ⟩ := Y
  refine codeAny_of_tree (show wpAny _ _ (callAny (.ref C) _) _ _ _ from nd_load hC ?_)
  show wpAny _ _ (callAny.viaDunder (.ref C) _) _ _ _
  unfold callAny.viaDunder
  refine wpAny_bind (call.at ?_)
  dsimp only
  rw [tc_bind]
  refine wpAny_bind (wpAny_pure (wpAny_bind (wpAny_pure (wpAny_pure (a := Fin.again (.call (.builtin "type.__call__") ⟨[.ref C], []⟩)) (And.intro rfl ?_)))))
  refine codeAny_call_builtin_at (Code.quiet_builtin _ (by decide +kernel)) entry_typeCall (check_slot tc_kind tc_split typ (tc_args _ [] []) ?_)
  unfold Builtin.«type.__call__»
  have hm : Looks (model prog w) h (mroOf (.ref C)) cd.mro := ((Looks.ld (part := none) hC).andThen .now).andThen .now
  repeat (first | simp only [e4, Bool.false_eq_true, if_false] | with_reducible refine wpAny_call ?_ | lk)
  refine exc_new Y' ?_
  have k : ∀ b o, h.get? b = some o → ((h.push noArgs).push (excObj C h.objs.size none)).get? b = some o := fun b o e => Heap.get?_push_of_some _ (Heap.get?_push_of_some _ e)
  have hx : ((h.push noArgs).push (excObj C h.objs.size none)).get? (h.objs.size + 1) = some (excObj C h.objs.size none) := by heap_get
  have t1 : Looks (model prog w) ((h.push noArgs).push (excObj C h.objs.size none)) (typeOf (.ref (h.objs.size + 1))) (.ref C) := (Looks.ld hx).andThen .now
  have s1 := self.keeps k
  have i1 := hi.keeps k
  have b1 := (hb (.ref (h.objs.size + 1))).keeps k
  unfold isInstance callSpecial? specialOf
  repeat (first | with_reducible refine wpAny_call ?_ | lk)
  refine codeAny_mono hq fun r s' z => ?_
  rcases r with e | (v | _ | _ | _) <;> first | exact z | exact z.elim | skip
  obtain ⟨rfl, z'⟩ := z
  exact wpAny_pure (wpAny_pure z')
end
end Bm
end

section
set_option linter.all false
set_option maxRecDepth 100000
set_option maxHeartbeats 4000000
namespace Bm
open PySem PySem.W PyProof.Rows Builtin Builtin.ObjectAttr
theorem refuse_exc (self : Value) : ∀ l : List Addr, refuseLoop self "__setattr__" (l.map Value.ref ++ [.type "Exception", .type "BaseException", .type "object"]) = pure ()
  | [] => PySem.F.store_Exception.passes self
  | c :: r => by
    rw [List.map_cons, List.cons_append, refuseLoop_ref]
    exact refuse_exc self r
/-- what of the text an exception class must have for an attribute to be stored and read -/
structure XAttr (K : Frag) (C : Addr) (name : Str) : Prop where
  cls : ∃ (cd : ClassData) (l : List Addr), clsIn K C = some cd ∧ cd.hasDict = true ∧ cd.mro = l.map Value.ref ++ [.type "Exception", .type "BaseException", .type "object"]
  set : findIn K (.ref C) "__setattr__" = some (some (.builtin "object.__setattr__"))
  get : findIn K (.ref C) "__getattribute__" = some (some (.builtin "BaseException.__getattribute__"))
  hook : findIn K (.ref C) "__getattr__" = some none
  no : findIn K (.ref C) name = some none
  isO : mroIn K C (.type "object") = some true
  isB : mroIn K C (.type "BaseException") = some true
section
variable {prog : Program} {w : World} {A : Around} {E : Value → Shared → Prop} {s : Shared} {K : Frag} {x C t : Addr} {name : Str} {v : Value}
theorem exc_set {Q : Unit → Shared → Prop} (X : K.In s.heap) (c : XAttr K C name) (hx : s.heap.get? x = some (excObj C t none))
    (h : ∀ h' d, s.heap.objs.size ≤ d → h'.get? x = some (excObj C t (some d)) → h'.Ns1 d (fun y => if y = name then some v else none) → (∀ b o, b ≠ x → s.heap.get? b = some o → h'.get? b = some o) → Q () { s with heap := h', toks := s.toks + 2 }) :
    wpAny (model prog w) A (setAttr (.ref x) name v) Q E s := by
  have SF := PySem.F.store_Exception
  obtain ⟨cd, l, hc, hd, hm⟩ := c.cls
  have I : InstAt s.heap x (excObj C t none) C none := ⟨hx, rfl, rfl, trivial⟩
  have hmro : Looks (model prog w) s.heap (mroOf (.ref C)) cd.mro := (looks_clsIn X hc).andThen .now
  have sub : Looks (model prog w) s.heap (isInstance (.ref x) (.type "object")) true := I.type.andThen (looks_mroIn X c.isO)
  refine set_plain X I c.set ?_
  refine codeAny_call_builtin SF.slot.plain SF.entry (@check_slot (model prog w) _ _ { s with toks := s.toks + 1 } "object.__setattr__" "object" "__setattr__" (.ref x) [.str name s.toks, v] [] _ SF.kind SF.split sub (SF.args (.ref x) (.str name s.toks) v) ?_)
  rw [osa_eq, refuse_eq]
  refine wpAny_bind (wpAny_bind (I.type.here (s := { s with toks := s.toks + 1 }) (wpAny_bind (hmro.here (s := { s with toks := s.toks + 1 }) ?_))))
  rw [hm, refuse_exc]
  refine wpAny_pure (wpAny_bind (I.type.here (s := { s with toks := s.toks + 1 }) (wpAny_bind ((looks_findIn X c.no).here (s := { s with toks := s.toks + 1 }) (wpAny_bind (wpAny_pure ?_))))))
  show wpAny _ _ (storeInOwnDict (.ref x) (.ref C) (.str name s.toks) name v false) _ _ _
  unfold storeInOwnDict
  refine wpAny_bind (wpAny_pure (wpAny_bind (wpAny_bind (wpAny_loadPart hx (wpAny_bind ((looks_clsIn X hc).here (s := { s with toks := s.toks + 1 }) ?_))))))
  rw [hd]
  have hxs : x ≠ s.heap.objs.size := Nat.ne_of_lt (Heap.lt_size hx)
  have hx1 : (s.heap.push emptyDict).get? x = some (excObj C t none) := Heap.get?_push_of_some _ hx
  show wpAny _ _ (alloc emptyDict >>= fun d => update x (fun o => { o with dict := some d }) >>= fun _ => (pure (some d) : Sem (Option Addr))) _ _ _
  refine wpAny_bind (wpAny_alloc (wpAny_bind (wpAny_update hx1 (wpAny_pure ?_))))
  have hx2 : ((s.heap.push emptyDict).update x fun o => { o with dict := some s.heap.objs.size }).get? x = some (excObj C t (some s.heap.objs.size)) := Heap.get?_update_self _ hx1 rfl
  have hd2 : ((s.heap.push emptyDict).update x fun o => { o with dict := some s.heap.objs.size }).get? s.heap.objs.size = some emptyDict := (Heap.get?_update_ne _ _ _ _ hxs.symm).trans (Heap.get?_push_at rfl rfl)
  have hn2 : ((s.heap.push emptyDict).update x fun o => { o with dict := some s.heap.objs.size }).Ns s.heap.objs.size (fun _ => none) := ⟨_, #[], _, hd2, rfl, fun e he => absurd he (by simp), fun _ => rfl⟩
  show wpAny _ _ (storeInDict s.heap.objs.size (.str name s.toks) name v) _ _ _
  unfold storeInDict newKeyGuard
  refine wpAny_bind (wpAny_pure (wpAny_bind (wpAny_nsSet1 (Heap.Ns1.of_empty hn2) fun h' hn' hs => ?_)))
  obtain ⟨oD, esD, epD, hoD, hdD, hcD⟩ := hn'.count (Within.cons name v Within.nil)
  refine wpAny_bind (wpAny_lookBehind hoD (by rw [hdD]; exact pastItsLine_dict (Nat.le_trans hcD (by rw [List.length_cons, List.length_nil, sizeLine_eq]; omega))) (wpAny_pure ?_))
  refine h h' s.heap.objs.size (Nat.le_refl _) ((hs.2 x hxs).trans hx2) hn' fun b o hb q => ?_
  exact (hs.2 b (Nat.ne_of_lt (Heap.lt_size q))).trans ((Heap.get?_update_ne _ _ _ _ hb).trans (Heap.get?_push_of_some _ q))
theorem exc_get {o od : Obj} {d : Addr} {vs : Array Value} {expr : Bool} {Q : Value → Shared → Prop} (X : K.In s.heap) (c : XAttr K C name) (hx : s.heap.get? x = some o) (hcl : o.cls = .ref C) (hdt : o.data = .fields vs) (hdi : o.dict = some d)
    (hod : s.heap.get? d = some od) (hl : lookIn name od = some (some v)) (hh : handedIn v = true) (h : Q v { s with toks := s.toks + 1 }) : wpAny (model prog w) A (getAttr (.ref x) name expr) Q E s := by
  obtain ⟨cd, l, hc, hd, hm⟩ := c.cls
  have I : InstAt s.heap x o C (some od) := ⟨hx, hcl, by unfold notCls; rw [hdt], by rw [hdi]; exact hod⟩
  have hf : findObj K C (some od) name = some (.value v) := findObj_own (by unfold hasDictIn; rw [hc]; exact hd) c.no rfl hl
  have sub : Looks (model prog w) s.heap (isInstance (.ref x) (.type "BaseException")) true := I.type.andThen (looks_mroIn X c.isB)
  obtain ⟨hp, g, dr, tk, os⟩ := s
  have L0 := I.type (M := model prog w)
  have L1 := looks_findIn (M := model prog w) X c.get
  have L2 := looks_findIn (M := model prog w) X c.hook
  have L3 := looks_find (M := model prog w) X I hf
  have S := PySem.F.attr_Exception.ga
  unfold getAttr getAttrBy
  refine wpAny_bind (wpAny_mkText (wpAny_holding (wpAny_bind (L0.at (wpAny_bind (L1.at ?_))))))
  dsimp only
  rw [show (onTheHeap (Value.ref C) && Value.builtin "BaseException.__getattribute__" == Value.builtin "object.__getattribute__") = false from by rw [show (Value.builtin "BaseException.__getattribute__" == Value.builtin "object.__getattribute__") = false from by decide +kernel, Bool.and_false], if_neg (by decide)]
  unfold getAttrByItsOwn hookBefore
  rw [if_pos (show onTheHeap (Value.ref C) = true from rfl)]
  refine wpAny_bind (L2.at (wpAny_bind (wpAny_attempt (wpAny_holding ?_))))
  unfold callGetattribute
  rw [show (expr && onTheHeap (Value.builtin "BaseException.__getattribute__")) = false from Bool.and_false _, if_neg (by decide)]
  unfold boundAndCalled
  rw [S.bind]
  refine wpAny_bind (wpAny_pure (wpAny_call ?_))
  refine codeAny_call_builtin S.plain PySem.F.entry_bexc_ga (@check_slot (model prog w) _ _ ⟨hp, g, dr, tk + 1, os⟩ "BaseException.__getattribute__" "BaseException" "__getattribute__" (.ref x) [.str name tk] [] _ (by decide +kernel) (by decide +kernel) sub (PySem.F.args_bexc_ga (.ref x) (.str name tk)) ?_)
  unfold Builtin.«object.__getattribute__»
  repeat lk
  show wpAny _ _ (handedOut v) _ _ _
  rw [handedOut_of hh]
  exact (wpAny_pure h)
/-- raise e, e an exception of one's own that is new -/
theorem raise_exc {env : Env} {xe : Sem Value} {f : Addr} {Q : Flow → Shared → Prop} (c : XCls K C f) (hh : A.handled = none)
    (h : wpAny (model prog w) A xe (fun v s₁ => ∃ e o vs, v = .ref e ∧ K.In s₁.heap ∧ s₁.heap.get? e = some o ∧ o.cls = .ref C ∧ o.data = .fields vs ∧ vs[1]? = some .none ∧ E (.ref e) s₁) E s) :
    wpAny (model prog w) A (raiseStmt env (some xe) none) Q E s := by
  unfold raiseStmt
  refine wpAny_bind (wpAny_mono h (fun v s₁ h₁ => ?_) fun _ _ x => x)
  obtain ⟨e, o, vs, rfl, X, he, hcl, hd, h1, hE⟩ := h₁
  obtain ⟨hp, g, d, tk, os⟩ := s₁
  have T0 : Looks (model prog w) hp (typeOf (.ref e)) (.ref C) := hcl ▸ (Looks.ld he).andThen .now
  have T1 := looks_typeIn (M := model prog w) X c.tt
  have T2 := looks_mroIn (M := model prog w) X c.isB
  obtain ⟨oc, od, odt, osl⟩ := o
  dsimp only at hcl hd he
  subst hcl hd
  unfold excFromValue isExcClass isInstance raisedInstance
  repeat lk
  rw [h1]
  refine wpAny_pure ?_
  rw [if_neg (by decide)]
  exact wpAny_pure (wpAny_raiseNew_none hh hE)
end
end Bm
end

section
set_option linter.all false
set_option maxRecDepth 100000
set_option maxHeartbeats 4000000
namespace Bm
open PySem PySem.Spec PyProof.Rows L2
abbrev XNew (x C t : Addr) : HO := .ext fun h => h.get? x = some (excObj C t none)
abbrev XSet (x C t d : Addr) : HO := .ext fun h => h.get? x = some (excObj C t (some d))
theorem xok {P : Program} {w : World} {H : Hp} {h : Heap} {x : Addr} {o : Obj} (e : h.get? x = some o) : ObjOk P w H h x (.ext fun h => h.get? x = some o) := ⟨e, ⟨o, e⟩, fun _ _ p k => k _ p⟩
abbrev numF (k : Int) : List (Str × V) := [("number", .int k)]
/-- what __init__ promises: the number is kept -/
def spInit (K : PySem.W.Frag) (k : Int) : Sp := fun vs H Q _ => ∃ x C t, vs = [.ref x] ∧ H x = some (XNew x C t) ∧ XAttr K C "number" ∧
  ∀ d, H d = none → d ≠ x → Q .non (upd (upd H d (.xd (numF k))) x (XSet x C t d))
def spBase (K : PySem.W.Frag) : Sp := fun vs H Q _ => ∃ x C t k, vs = [.ref x, .int k] ∧ H x = some (XNew x C t) ∧ XAttr K C "number" ∧
  ∀ d, H d = none → d ≠ x → Q .non (upd (upd H d (.xd (numF k))) x (XSet x C t d))
section
variable {X : Cx} {pins : List (Addr × Obj)} {σ : L2.St} {H : Hp} {s : Shared}
/-- e.number = value of a new exception -/
def sFldX (K : PySem.W.Frag) (ta tv : TE) : TS := fun D σ H => tv σ H fun y H1 => ta σ H1 fun x H2 => ∃ a C t k, y = .int k ∧ x = .ref a ∧ H2 a = some (XNew a C t) ∧ XAttr K C "number" ∧
  ∀ d, H2 d = none → d ≠ a → D.nx σ (upd (upd H2 d (.xd (numF k))) a (XSet a C t d))
theorem ps_fldX {o value : Expr} {pos pos' : Pos} {ta tv : TE} (ha : PE X o ta) (hv : PE X value tv) (hs : swapsWith value (some (.Attribute o "number" pos')) pos.line X.env = pure false := by rfl) :
    PS X (.Assign [.Attribute o "number" pos'] value pos) (sFldX X.K ta tv) := by
  intro pins s σ H D I h
  refine plainObj_wpAny_Assign_Attribute (thn (hv pins s σ H _ I h) fun u s1 ⟨y, H1, I1, ry, q⟩ => thn (ha pins s1 σ H1 _ I1 q) fun ov s2 ⟨x, H2, I2, rx, a, C, t, k, ey, ex, ea, c, q2⟩ => ?_) hs
  subst ex ey
  obtain rfl : ov = Value.ref a := rx
  obtain ⟨tk, rfl⟩ := ry
  have hx : s2.heap.get? a = some (excObj C t none) := (I2.hok a _ ea).1
  refine exc_set I2.kIn c hx fun h' d hd hx' hn hk => ?_
  have nd : H2 d = none := I2.hok.fresh hd
  have da : d ≠ a := fun z => absurd (Heap.lt_size hx) (by rw [← z]; exact Nat.not_lt.mpr hd)
  have mx : ∀ b u, H2 b = some u → (∀ φ, u ≠ .ext φ) → b ≠ a := fun b u e n z => by
    subst z
    rw [ea] at e
    cases e
    exact n _ rfl
  have md : ∀ b u, H2 b = some u → b ≠ d := fun b u e z => by
    subst z
    rw [nd] at e
    cases e
  have up : ∀ b, b ≠ a → b ≠ d → upd (upd H2 d (.xd (numF k))) a (XSet a C t d) b = H2 b := fun b h1 h2 => by rw [upd_ne h1, upd_ne h2]
  refine ⟨σ, _, I2.un (h' := h') (t' := s2.toks + 2) (H' := upd (upd H2 d (.xd (numF k))) a (XSet a C t d)) ⟨?_, ?_, ?_, ?_, ?_, ?_, ?_⟩ ?_, q2 d nd da⟩
  · intro b ob e n _ _
    exact hk b ob (fun z => by rw [z, ea] at n; cases n) e
  · intro b ob e n _ _
    exact ⟨ob.slots, hk b ob (fun z => by rw [z, ea] at n; cases n) e⟩
  · intro b ob e n _
    rw [up b (fun z => by rw [z, ea] at n; cases n) (Nat.ne_of_lt (Nat.lt_of_lt_of_le (Heap.lt_size e) hd))]
    exact n
  · intro b ob e _
    by_cases z : b = a
    · exact ⟨_, z ▸ hx'⟩
    · exact ⟨ob, hk b ob z e⟩
  · intro b xs e
    rw [up b (mx b _ e (by intro φ q; cases q)) (md b _ e)]
    exact e
  · intro b ob u e
    rw [up b (mx b _ e (by intro φ q; cases q)) (md b _ e)]
    exact e
  · intro b ps e
    refine ⟨#[], ?_⟩
    rw [up b (mx b _ e (by intro φ q; cases q)) (md b _ e), e]
    simp
  · intro b u e
    by_cases z : b = a
    · subst z
      rw [upd_same] at e
      cases e
      exact xok hx'
    · rw [upd_ne z] at e
      by_cases z2 : b = d
      · subst z2
        rw [upd_same] at e
        cases e
        refine ⟨_, hn, fun f => ?_⟩
        show RelO (List.lookup f [(("number" : Str), V.int k)]) _
        by_cases hf : f = "number"
        · subst hf
          rw [if_pos rfl, List.lookup_cons, beq_self_eq_true]
          exact ⟨tk, rfl⟩
        · rw [if_neg hf, List.lookup_cons, beq_eq_false_iff_ne.mpr hf]
          exact True.intro
      · rw [upd_ne z2] at e
        refine (I2.hok b u e).stay (fun c v hc q => hk c v ?_ q) (fun c q => ?_) fun c xs q => ?_
        · rcases hc with rfl | hc
          · exact z
          · exact mx c _ hc (by intro φ q; cases q)
        · rw [up c (mx c _ q (by intro φ q; cases q)) (md c _ q)]; exact q
        · rw [up c (mx c _ q (by intro φ q; cases q)) (md c _ q)]; exact q
/-- C.m(e, ..): a def read from its class -/
theorem pe_base {CX : CXT} {k : Nat} {f C : Addr} {fd : FuncData} {ps : List Str} {sp : Sp} {E : XK} {x m : Str} {p pos apos : Pos} {e : Expr} {es : List Expr} {t : TA} {pl : Sem Bool} (hg : Gl X x) (hm : X.mg x = some (.ref C))
    (h1 : PySem.W.specialIn X.K (.ref C) "__getattribute__" = some (some (.builtin "type.__getattribute__"))) (h2 : PySem.W.readsIn X.K C (.type "type") = true) (h3 : PySem.W.findCls X.K (.ref C) (.type "type") m = some (.val (.ref f)))
    (kp : PySem.W.keepIn X.K (.ref f) = true) (F : FnOk X.prog X.w X.K X.mg X.base CX k f fd ps sp) (hr : Room k X.A) (hb : Binds X.K fd ps []) (hx : Passes CX X E) (ha : PA X (e :: es) t)
    (hdb : (x == ("__debug__" : Str)) = false := by decide) (hst : starEach (e :: es) X.env = (false, eval e X.env) :: starEach es X.env := by rfl) (hpl : (backTo pos (starEach es X.env)).any (·.1) = false := by rfl)
    (ht : eval (.Call (.Attribute (.Name x p) m apos) (e :: es) [] pos) X.env = (do
      let ov ← eval (.Name x p) X.env
      standAt apos.atName
      let (f, first) ← holding [ov] (getMethod ov m pl)
      callWith pos f first (backTo pos (starEach (e :: es) X.env)) (backToKw pos (keywordEach [] X.env))) := by rfl) :
    PE X (.Call (.Attribute (.Name x p) m apos) (e :: es) [] pos) (tCall sp [] E t) := by
  intro pins s σ H Q I h
  refine PySem.W.methodCall_KW (pl := pl) (ld_glob I hg hm ?_ hdb) ht
  refine PySem.W.method_cls I.kIn h1 (PySem.W.cls_value I.kIn h2 h3 rfl ?_)
  refine PySem.W.callWith_K (first := []) (h₀ := X.base) I.ok.mod.kin kp (thn (ha pos pins _ σ H _ (I.tok _) h) fun us s2 ⟨vs, H2, I2, r, q2⟩ => ⟨I2.kIn, ?_⟩) hst hpl
  exact run_fn (ds := []) (dvs := []) F hr hb .nil hx I2 r q2
end
/-- the classes of refusals: each is a Refusal, its number can be read -/
structure XR (K : PySem.W.Frag) (R C : Addr) : Prop where
  att : XAttr K C "number"
  hit : PySem.W.exmOne K (.ref C) (.ref R) = some true
/-- a refusal with the number k stands at e, in flight at fl; h₀ is the heap of the entry, fr the frames -/
structure XAt (K : PySem.W.Frag) (R : Addr) (h₀ : Heap) (H : Hp) (fr : List Addr) (h : Heap) (e : Addr) (k : Int) (fl : Value) : Prop where
  new : h₀.objs.size ≤ e
  free : H e = none
  nfr : e ∉ fr
  ex : ∃ (o : Obj) (vs : Array Value) (C d : Addr) (od : Obj) (tk : Tok) (head : Value), h.get? e = some o ∧ o.cls = .ref C ∧ o.dict = some d ∧ o.data = .fields vs ∧ vs[1]? = some head ∧ h.get? d = some od ∧
    PySem.W.lookIn "number" od = some (some (.int k tk)) ∧ XR K R C ∧ H d = none ∧ d ∉ fr ∧ d ≠ e ∧ (∀ v, od.data ≠ .cell v) ∧ h₀.get? d = none ∧
    ((head = .none ∧ fl = .none) ∨ ∃ T oT ts, head = .ref T ∧ T ≠ e ∧ T ≠ d ∧ h.get? T = some oT ∧ oT.data = .fields ts ∧ ts[3]? = some fl ∧ h₀.objs.size ≤ T ∧ H T = none ∧ T ∉ fr)
theorem XAt.base {K : PySem.W.Frag} {R : Addr} {h₀ h₁ : Heap} {H : Hp} {fr : List Addr} {h : Heap} {e : Addr} {k : Int} {fl : Value} (x : XAt K R h₁ H fr h e k fl) (n : h₀.objs.size ≤ h₁.objs.size) (t : ∀ b o, h₀.get? b = some o → ∃ o', h₁.get? b = some o') : XAt K R h₀ H fr h e k fl := by
  obtain ⟨x1, x2, x3, o, vs, C, d, od, tk, head, a1, a2, a3, a4, a5, a6, a7, a8, a9, a10, a11, a12, a12', a13⟩ := x
  have nd : h₀.get? d = none := by
    cases z : h₀.get? d with
    | none => rfl
    | some ob =>
      obtain ⟨o', z'⟩ := t d ob z
      rw [a12'] at z'
      cases z'
  refine ⟨Nat.le_trans n x1, x2, x3, o, vs, C, d, od, tk, head, a1, a2, a3, a4, a5, a6, a7, a8, a9, a10, a11, a12, nd, ?_⟩
  rcases a13 with a13 | ⟨T, oT, ts, b1, b2, b3, b4, b5, b6, b7, b8, b9⟩
  · exact .inl a13
  · exact .inr ⟨T, oT, ts, b1, b2, b3, b4, b5, b6, Nat.le_trans n b7, b8, b9⟩
theorem XAt.fewer {K : PySem.W.Frag} {R : Addr} {h₀ : Heap} {H : Hp} {fr fr' : List Addr} {h : Heap} {e : Addr} {k : Int} {fl : Value} (x : XAt K R h₀ H fr h e k fl) (n : ∀ b ∈ fr', b ∈ fr) : XAt K R h₀ H fr' h e k fl := by
  obtain ⟨x1, x2, x3, o, vs, C, d, od, tk, head, a1, a2, a3, a4, a5, a6, a7, a8, a9, a10, a11, a12, a12', a13⟩ := x
  refine ⟨x1, x2, fun z => x3 (n _ z), o, vs, C, d, od, tk, head, a1, a2, a3, a4, a5, a6, a7, a8, a9, fun z => a10 (n _ z), a11, a12, a12', ?_⟩
  rcases a13 with a13 | ⟨T, oT, ts, b1, b2, b3, b4, b5, b6, b7, b8, b9⟩
  · exact .inl a13
  · exact .inr ⟨T, oT, ts, b1, b2, b3, b4, b5, b6, b7, b8, fun z => b9 (n _ z)⟩
/-- the exception has a traceback -/
def HasT (h : Heap) (e : Addr) : Prop := ∃ (o : Obj) (vs : Array Value) (T : Addr), h.get? e = some o ∧ o.data = .fields vs ∧ vs[1]? = some (.ref T)
/-- what a look at the frames may have changed -/
def Seen (fr : List Addr) (h₀ : Heap) (H : Hp) (h h' : Heap) : Prop := ∃ cut, Off fr cut h h' ∧ ∀ b ∈ cut, H b = none ∧ h₀.objs.size ≤ b ∧ b ∉ fr
theorem Seen.trans {fr : List Addr} {h₀ : Heap} {H : Hp} {h h1 h2 : Heap} (a : Seen fr h₀ H h h1) (b : Seen fr h₀ H h1 h2) : Seen fr h₀ H h h2 := by
  obtain ⟨c, o, q⟩ := a
  obtain ⟨c', o', q'⟩ := b
  refine ⟨c ++ c', (o.mono (fun _ z => z) fun b z => List.mem_append_left _ z).trans (o'.mono (fun _ z => z) fun b z => List.mem_append_right _ z), fun b hb => ?_⟩
  rcases List.mem_append.mp hb with z | z
  · exact q b z
  · exact q' b z
section
variable {M : Model} {A : Around} {E' : Value → Shared → Prop} {s : Shared} {K : PySem.W.Frag} {R e : Addr} {h₀ base : Heap} {H : Hp} {k : Int} {env : Env} {outer : List Env} {L : Addr} {P : Program} {w : World}
theorem XAt.note {Q : Unit → Shared → Prop} {fl : Value} (x : XAt K R h₀ H (frs (env :: outer)) s.heap e k fl) (hfr : A.frames = some (env :: outer)) (hl : s.heap.FunFrames base (env :: outer)) (hf : env.frame = some L) (hok : HOk P w H s.heap)
    (h : ∀ h' fl', XAt K R h₀ H (frs (env :: outer)) h' e k fl' → HasT h' e → Seen (frs (env :: outer)) h₀ H s.heap h' → Q () { s with heap := h' }) : wpAny M A (noteFrame (.ref e) env) Q E' s := by
  obtain ⟨x1, x2, x3, o, vs, C, d, od, tk, head, a1, a2, a3, a4, a5, a6, a7, a8, a9, a10, a11, a12, a12', a13⟩ := id x
  have hs : h₀.objs.size ≤ s.heap.objs.size := Nat.le_trans x1 (Nat.le_of_lt (Heap.lt_size a1))
  have fin : ∀ cut : List Addr, e ∈ cut → (∀ b ∈ cut, H b = none ∧ h₀.objs.size ≤ b ∧ b ∉ frs (env :: outer)) → d ∉ cut → (head = .none ∨ ∃ T oT ts, head = .ref T ∧ T ≠ e ∧ T ∈ cut ∧ s.heap.get? T = some oT ∧ oT.data = .fields ts ∧ ts[3]? = some fl) → ¬ ((fl == rawInt L) = true) →
      wpAny M A (noteFrame (.ref e) env) Q E' s := fun cut hec hc hdc hT hnl => by
    refine Bm.note hfr hl hf a1 a4 a5 hec hT hnl fun h' o' T' sx ex hT' off => h h' (rawInt L) ⟨x1, x2, x3, ?_⟩ (by
      obtain ⟨vs', e4, e5⟩ := ex.fs
      exact ⟨o', vs', T', ex.ob, e4, e5⟩) ⟨cut, off, hc⟩
    obtain ⟨vs', e4, e5⟩ := ex.fs
    obtain ⟨oT, ts, t1, t2, t3⟩ := ex.tb
    have dT : T' ≠ d := fun z => absurd (Heap.lt_size a6) (by rw [← z]; exact Nat.not_lt.mpr hT')
    refine ⟨o', vs', C, d, od, tk, .ref T', ex.ob, sx.1.trans a2, sx.2.1.trans a3, e4, e5, off.keep d od a6 a10 hdc, a7, a8, a9, a10, a11, a12, a12', .inr ⟨T', oT, ts, rfl, ex.ne, dT, t1, t2, t3, Nat.le_trans hs hT', hok.fresh hT', fun z => ?_⟩⟩
    obtain ⟨_, ob, q, _⟩ := hl.mem z
    exact absurd (Heap.lt_size q) (Nat.not_lt.mpr hT')
  rcases a13 with ⟨rfl, rfl⟩ | ⟨T, oT, ts, rfl, b2, b3, b4, b5, b6, b7, b8, b9⟩
  · exact fin [e] (by simp) (fun b hb => by rw [List.mem_singleton.mp hb]; exact ⟨x2, x1, x3⟩) (by simp [a11]) (.inl rfl) (by simp [rawInt])
  · by_cases hnl : (fl == rawInt L) = true
    · unfold noteFrame
      simp only [hf]
      refine wpAny_bind (wpAny_field a1 a4 a5 ?_)
      rw [if_pos (show (Value.ref T != Value.none) = true from by simp)]
      refine wpAny_bind (wpAny_field b4 b5 b6 ?_)
      rw [if_pos hnl]
      exact wpAny_pure (h s.heap fl x ⟨o, vs, T, a1, a4, a5⟩ ⟨[], Off.refl _ _ _, fun _ z => nomatch z⟩)
    · refine fin [e, T] (by simp) (fun b hb => ?_) (by simp [a11, Ne.symm b3]) (.inr ⟨T, oT, ts, rfl, b2, by simp, b4, b5, b6⟩) hnl
      rcases List.mem_cons.mp hb with rfl | hb
      · exact ⟨x2, x1, x3⟩
      · rw [List.mem_singleton.mp hb]; exact ⟨b8, b7, b9⟩
theorem XAt.landT {fr : List Addr} {Q : Unit → Shared → Prop} {fl : Value} {fm : Option Addr} (x : XAt K R h₀ H fr s.heap e k fl) (ht : HasT s.heap e) (h : ∀ h', XAt K R h₀ H fr h' e k (fm.elim .none fun f => rawInt f) → HasT h' e → Seen fr h₀ H s.heap h' → Q () { s with heap := h' }) : wpAny M A (setFlight (.ref e) fm) Q E' s := by
  obtain ⟨x1, x2, x3, o, vs, C, d, od, tk, head, a1, a2, a3, a4, a5, a6, a7, a8, a9, a10, a11, a12, a12', a13⟩ := x
  obtain ⟨o', vs', T', t1, t2, t3⟩ := ht
  rcases a13 with ⟨rfl, rfl⟩ | ⟨T, oT, ts, rfl, b2, b3, b4, b5, b6, b7, b8, b9⟩
  · rw [a1] at t1
    cases t1
    rw [a4] at t2
    cases t2
    rw [a5] at t3
    cases t3
  · refine Bm.land (T := T) (fl := fl) ⟨a1, ⟨vs, a4, a5⟩, ⟨oT, ts, b4, b5, b6⟩, b2⟩ fun h' ex off => h h' ⟨x1, x2, x3, o, vs, C, d, od, tk, .ref T, ex.ob, a2, a3, a4, a5, off.keep d od a6 (by simp) (by simp [Ne.symm b3]), a7, a8, a9, a10, a11, a12, a12', ?_⟩ ⟨o, vs, T, ex.ob, a4, a5⟩
      ⟨[T], off.mono (fun _ z => nomatch z) fun _ z => z, fun b hb => by rw [List.mem_singleton.mp hb]; exact ⟨b8, b7, b9⟩⟩
    obtain ⟨oT', ts', t1, t2, t3⟩ := ex.tb
    exact .inr ⟨T, oT', ts', rfl, b2, b3, t1, t2, t3, b7, b8, b9⟩
theorem XAt.land {fr : List Addr} {Q : Unit → Shared → Prop} {fl : Value} (x : XAt K R h₀ H fr s.heap e k fl) (h : ∀ h', XAt K R h₀ H fr h' e k .none → Seen fr h₀ H s.heap h' → Q () { s with heap := h' }) : wpAny M A (setFlight (.ref e) none) Q E' s := by
  obtain ⟨x1, x2, x3, o, vs, C, d, od, tk, head, a1, a2, a3, a4, a5, a6, a7, a8, a9, a10, a11, a12, a12', a13⟩ := id x
  rcases a13 with ⟨rfl, rfl⟩ | ⟨T, oT, ts, rfl, b2, b3, b4, b5, b6, b7, b8, b9⟩
  · unfold setFlight
    refine wpAny_bind (wpAny_field a1 a4 a5 ?_)
    rw [if_neg (by decide)]
    exact wpAny_pure (h _ ⟨x1, x2, x3, o, vs, C, d, od, tk, .none, a1, a2, a3, a4, a5, a6, a7, a8, a9, a10, a11, a12, a12', .inl ⟨rfl, rfl⟩⟩ ⟨[], Off.refl _ _ _, fun _ z => nomatch z⟩)
  · exact x.landT ⟨o, vs, T, a1, a4, a5⟩ fun h' x' _ sn => h h' x' sn
end
/-- how an exception lies behind a call -/
def CXr (P : Program) (w : World) (K : PySem.W.Frag) (R : Addr) : CXT := fun outer H s E e s' => ∃ ea k H', e = .ref ea ∧ s'.os = s.os ∧ AllBare s'.gens ∧ Un (frs outer) [] H H' s.heap s'.heap ∧ HOk P w H' s'.heap ∧
  XAt K R s.heap H' (frs outer) s'.heap ea k .none ∧ E (.int k 0) none H'
/-- what lay at h₁ is older than an exception that came behind it -/
structure Old (X : Cx) (pins : List (Addr × Obj)) (h₁ : Heap) : Prop where
  sz : X.s₀.heap.objs.size ≤ h₁.objs.size
  pin : ∀ p ∈ X.pn ++ pins, p.1 < h₁.objs.size
  cel : ∀ x c, X.env.cells.lookup x = some c → c < h₁.objs.size
  loc : ∃ o, h₁.get? X.env.locals = some o
  there : ∀ b o, X.s₀.heap.get? b = some o → b ∉ X.ex → ∃ o', h₁.get? b = some o'
theorem inv_old {X : Cx} {pins : List (Addr × Obj)} {σ : L2.St} {H : Hp} {s : Shared} (I : Inv X pins σ H s) : Old X pins s.heap :=
  ⟨I.sz, fun p hp => Heap.lt_size (I.pin p hp).1, fun x c e => by
    obtain ⟨v, q⟩ := I.cell x c e
    exact q.lt, by
    obtain ⟨m, ⟨o, es, ep, ho, r⟩, _⟩ := id I.loc
    exact ⟨o, ho⟩, I.base.there⟩
/-- a refusal that is raised here reaches what is wanted -/
def Flies (R : Addr) (X : Cx) (E : XK) : Prop := ∀ (pins : List (Addr × Obj)) (σ : L2.St) (H : Hp) (s : Shared) (h₁ : Heap) (e : Addr) (k : Int) (fl : Value), Inv X pins σ H s → Old X pins h₁ → XAt X.K R h₁ H (frs X.stack) s.heap e k fl → E (.int k 0) none H → X.xe (.ref e) s
section
variable {X : Cx} {R : Addr} {E : XK}
/-- an exception of a callee, by one that is raised here -/
theorem passes_of (hf : Flies R X E) : Passes (CXr X.prog X.w X.K R) X E := by
  intro pins σ H s e s' I h
  obtain ⟨ea, k, H', rfl, os, bare, un, hok, x, q⟩ := h
  exact hf pins σ H' s' s.heap ea k .none (I.call' os un hok bare (ch := []) (fun b z => absurd z (by simp))) (inv_old I) x q
/-- the heap behind a look at the frames: what is tracked is held -/
theorem hok_seen {P : Program} {w : World} {H : Hp} {h₀ h h' : Heap} {fr : List Addr} (x : HOk P w H h) (o : Seen fr h₀ H h h') (hf : ∀ b ∈ fr, H b = none) : HOk P w H h' := fun b u e => by
  obtain ⟨cut, o, hc⟩ := o
  have key : ∀ c u, H c = some u → c ∉ fr ∧ c ∉ cut := fun c u q => ⟨fun z => (by rw [hf c z] at q; cases q), fun z => (by rw [(hc c z).1] at q; cases q)⟩
  refine (x b u e).stay (fun c v hcc q => ?_) (fun _ q => q) fun _ _ q => q
  rcases hcc with rfl | z
  · exact o.keep c v q (key c u e).1 (key c u e).2
  · exact o.keep c v q (key c _ z).1 (key c _ z).2
/-- a look at the frames, as a call that changes nothing that is tracked -/
theorem Seen.un {fr : List Addr} {h₀ : Heap} {H : Hp} {h h' : Heap} (o : Seen fr h₀ H h h') : ∃ cut, Un fr cut H H h h' ∧ ∀ b ∈ cut, H b = none ∧ h₀.objs.size ≤ b ∧ b ∉ fr := by
  obtain ⟨cut, off, hc⟩ := o
  refine ⟨cut, ⟨fun b ob q n hb hx => off.keep b ob q hb hx, fun b ob q n hb hx => off.slot b ob q hb hx, fun b ob q n hx => n, fun b ob q hx => ?_, fun _ _ q => q, fun _ _ _ q => q, fun b ps q => ⟨#[], by rw [q]; simp⟩⟩, hc⟩
  by_cases z : b ∈ fr
  · obtain ⟨sl, q'⟩ := off.slot b ob q z hx
    exact ⟨_, q'⟩
  · exact ⟨ob, off.keep b ob q z hx⟩
/-- the state behind a look at the frames -/
theorem inv_seen {pins : List (Addr × Obj)} {σ : L2.St} {H : Hp} {s : Shared} {h₁ h' : Heap} (I : Inv X pins σ H s) (old : Old X pins h₁) (o : Seen (frs X.stack) h₁ H s.heap h') : Inv X pins σ H { s with heap := h' } := by
  have hok := hok_seen I.hok o I.stkFree
  obtain ⟨cut, un, hc⟩ := o.un
  refine I.call (g' := s.gens) (d' := s.drawn) (t' := s.toks) (ch := cut) un hok I.bare fun b hb => ?_
  have hb2 := (hc b hb).2.1
  refine ⟨.inr (Nat.le_trans old.sz hb2), fun z => ?_, fun x c e z => ?_, fun p hp z => ?_⟩
  · obtain ⟨ob, q⟩ := old.loc
    have := Heap.lt_size q
    rw [← z] at this
    exact absurd this (Nat.not_lt.mpr hb2)
  · have := old.cel x c e
    rw [z] at this
    exact absurd this (Nat.not_lt.mpr hb2)
  · have := old.pin p hp
    rw [z] at this
    exact absurd this (Nat.not_lt.mpr hb2)
/-- out of a def -/
theorem flies_fn {P : Program} {w : World} {K : PySem.W.Frag} {mg : Str → Option Value} {base : Heap} {N : List Str} {qual : Str} {scope : Scope} {f : Addr} {cd : Value} {A : Around} {outer : List Env} {s : Shared} {H : Hp} :
    Flies R (cxOf (CXr P w K R) P w K mg base N qual scope f cd A outer s H E) E := by
  intro pins σ H' s' h₁ e k fl I old x q
  have hst : (cxOf (CXr P w K R) P w K mg base N qual scope f cd A outer s H E).stack = envOfC qual scope s.heap.objs.size f cd :: outer := rfl
  show wpAny _ _ (leaving (envOfC qual scope s.heap.objs.size f cd) (.ref e)) _ _ s'
  unfold leaving
  have hl := I.stack
  have hfr := I.ok.frames
  rw [hst] at hl hfr x
  refine wpAny_bind (x.note hfr hl rfl I.hok fun h1 _ x1 _ s1 => x1.land (s := { s' with heap := h1 }) fun h2 x2 s2 => ?_)
  have sn := s1.trans s2
  have hok := hok_seen I.hok sn (by have := I.stkFree; rw [hst] at this; exact this)
  obtain ⟨cut, un, hc⟩ := sn.un
  refine ⟨e, k, H', rfl, I.os, I.bare, ?_, hok, (x2.fewer fun b hb => List.mem_cons_of_mem _ hb).base old.sz fun b o z => old.there b o z (List.not_mem_nil), q⟩
  have ub : Un (frs outer) [] H H' s.heap s'.heap := I.base
  have old : ∀ b ob, s.heap.get? b = some ob → b ∉ cut ∧ b ≠ s.heap.objs.size := fun b ob z => ⟨fun w => absurd (Heap.lt_size z) (Nat.not_lt.mpr (Nat.le_trans old.sz (hc b w).2.1)), Nat.ne_of_lt (Heap.lt_size z)⟩
  have nst : ∀ b, b ∉ frs outer → b ≠ s.heap.objs.size → b ∉ frs (envOfC qual scope s.heap.objs.size f cd :: outer) := fun b h1 h2 z => (List.mem_cons.mp z).elim h2 h1
  refine ⟨fun b ob z n hb _ => ?_, fun b ob z n hb _ => ?_, ub.free, fun b ob z _ => ?_, ub.tups, ub.frzs, ub.tbls⟩
  · exact un.keep b ob (ub.keep b ob z n hb (by simp)) (ub.free b ob z n (by simp)) (nst b hb (old b ob z).2) (old b ob z).1
  · obtain ⟨sl, z1⟩ := ub.slot b ob z n hb (by simp)
    obtain ⟨sl', z2⟩ := un.slot b _ z1 (ub.free b ob z n (by simp)) (List.mem_cons_of_mem _ hb) (old b ob z).1
    exact ⟨sl', z2⟩
  · obtain ⟨o', z1⟩ := ub.there b ob z (by simp)
    exact un.there b o' z1 (old b ob z).1
/-- loops in a def -/
theorem own_fn {P : Program} {w : World} {K : PySem.W.Frag} {mg : Str → Option Value} {base : Heap} {N : List Str} {qual : Str} {scope : Scope} {f : Addr} {cd : Value} {A : Around} {outer : List Env} {s : Shared} {H : Hp} {CX : CXT} :
    PassesOwn (model P w) (cxOf CX P w K mg base N qual scope f cd A outer s H E).A (cxOf CX P w K mg base N qual scope f cd A outer s H E).env (cxOf CX P w K mg base N qual scope f cd A outer s H E).xe :=
  fun e s' h => wpAny_leaving_again (SameStack.refl _) h
end
end Bm
end

section
set_option linter.all false
set_option maxRecDepth 100000
set_option maxHeartbeats 4000000
namespace Bm
open PySem PySem.Spec PyProof.Rows L2
section
variable {X : Cx} {pins : List (Addr × Obj)} {σ : L2.St} {H H2 : Hp} {s : Shared} {x d : Addr}
/-- a made exception is tracked no longer -/
theorem inv_forget (I : Inv X pins σ H2 s) (hb : ∀ b, b ≠ x → b ≠ d → H2 b = H b) (kx : ∃ φ, H2 x = some (.ext φ)) (kd : ∃ fs, H2 d = some (.xd fs)) (nx : H x = none) (nd : H d = none) : Inv X pins σ H s := by
  obtain ⟨φ, kx⟩ := kx
  obtain ⟨fs, kd⟩ := kd
  have non : ∀ b, H2 b = none → H b = none := fun b e => by
    rw [← hb b (fun z => by rw [z, kx] at e; cases e) (fun z => by rw [z, kd] at e; cases e)]; exact e
  have som : ∀ b u, H2 b = some u → (∀ φ, u ≠ .ext φ) → (∀ fs, u ≠ .xd fs) → H b = some u := fun b u e n1 n2 => by
    rw [← hb b (fun z => by rw [z, kx] at e; cases e; exact n1 _ rfl) (fun z => by rw [z, kd] at e; cases e; exact n2 _ rfl)]; exact e
  refine ⟨I.ok, I.os, I.bare, ⟨I.base.keep, I.base.slot, fun b o e n hx => non b (I.base.free b o e n hx), I.base.there, fun b xs e => ?_, fun b o u e => ?_, fun b ps e => ?_⟩, I.loc, I.cell, non _ I.free, fun y c e => non _ (I.freeC y c e), fun p hp => ?_, fun b u e => ?_, I.len⟩
  · exact som b _ (I.base.tups b xs e) (by intro φ q; cases q) (by intro φ q; cases q)
  · exact som b _ (I.base.frzs b o u e) (by intro φ q; cases q) (by intro φ q; cases q)
  · obtain ⟨m, q⟩ := I.base.tbls b ps e
    exact ⟨m, som b _ q (by intro φ q; cases q) (by intro φ q; cases q)⟩
  · obtain ⟨a1, a2, a3⟩ := I.pin p hp
    exact ⟨a1, non _ a2, a3⟩
  · have e2 : H2 b = some u := by
      rw [hb b (fun z => by rw [z, nx] at e; cases e) (fun z => by rw [z, nd] at e; cases e)]; exact e
    exact (I.hok b u e2).stay (fun _ _ _ q => q) (fun c q => som c _ q (by intro φ q; cases q) (by intro φ q; cases q)) fun c xs q => som c _ q (by intro φ q; cases q) (by intro φ q; cases q)
end
section
variable {X : Cx}
/-- raise C(), C a class of refusals with the number n -/
theorem ps_raise0 {R C f : Addr} {fd : FuncData} {k : Nat} {n : Int} {E : XK} {x : Str} {p cpos pos : Pos} (c : XCls X.K C f) (xr : XR X.K R C) (kp : PySem.W.keepIn X.K (.ref C) = true) (F : FnOk X.prog X.w X.K X.mg X.base CX0 k f fd ["self"] (spInit X.K n)) (hr : Room (k + 1) X.A)
    (hg : Gl X x) (hm : X.mg x = some (.ref C)) (hb : Binds X.K fd ["self"] []) (hc : X.calm = true) (hf : Flies R X E) (hdb : (x == ("__debug__" : Str)) = false := by decide) :
    PS X (.Raise (some (.Call (.Name x p) [] [] cpos)) none pos) (fun _ _ H => E (.int n 0) none H) := by
  intro pins s σ H D I h
  rw [arm_exec_Raise]
  refine wpAny_bind (wpAny_standAt (raise_exc c (I.ok.hd hc) (wpAny_bind (thn ?_ fun v s₃ h₃ => wpAny_bind (wpAny_standAt (wpAny_pure h₃))))))
  refine wpAny_Call_Name_kw (ld_glob I hg hm ?_ hdb)
  refine PySem.W.callWith_K0 I.kIn kp (wpAny_call ?_)
  have hx : H (s.heap.objs.size + 1) = none := I.hok.fresh (Nat.le_succ _)
  obtain ⟨hh, g, dr, t, os⟩ := s
  have e2 : ((hh.push noArgs).push (excObj C hh.objs.size none)).get? (hh.objs.size + 1) = some (excObj C hh.objs.size none) := by heap_get
  have I1 : Inv X pins σ H ⟨hh.push noArgs, g, dr, t, os⟩ := I.kept (t' := t) fun b u q => Heap.get?_push_of_some _ q
  have I2 : Inv X pins σ (upd H (hh.objs.size + 1) (XNew (hh.objs.size + 1) C hh.objs.size)) ⟨(hh.push noArgs).push (excObj C hh.objs.size none), g, dr, t, os⟩ :=
    I1.laid (t' := t) (fun b u q => Heap.get?_push_of_some _ q) (Nat.le_of_eq (Heap.size_push _ _)) (xok e2)
  refine exc_make (c.makes I.kIn) (PySem.W.looks_findIn I.kIn c.init) (fun self => PySem.W.bind_fn I.kIn self c.fn) ?_
  have r2 : Vals [V.ref (hh.objs.size + 1)] [Value.ref (hh.objs.size + 1)] := .cons rfl .nil
  refine codeAny_mono (F.run _ X.stack _ _ ⟨[.ref (hh.objs.size + 1)], []⟩ [.ref (hh.objs.size + 1)] [.ref (hh.objs.size + 1)]
    (fun v H2 => v = .non ∧ ∃ d, H2 = upd (upd (upd H (hh.objs.size + 1) (XNew (hh.objs.size + 1) C hh.objs.size)) d (.xd (numF n))) (hh.objs.size + 1) (XSet (hh.objs.size + 1) C hh.objs.size d) ∧ H d = none ∧ d ≠ hh.objs.size + 1) E0 (hr.make C [] []) (I2.env0.make C [] []) ?_ r2 ?_) fun r s' hq => ?_
  · have := hb ⟨(hh.push noArgs).push (excObj C hh.objs.size none), g, dr, t, os⟩ [.ref (hh.objs.size + 1)] I2.kIn rfl
    exact this
  · exact ⟨_, C, _, rfl, upd_same, xr.att, fun d nd ne => ⟨rfl, d, rfl, by rw [upd_ne ne] at nd; exact nd, ne⟩⟩
  · cases r with
    | error e => exact hq.elim
    | ok fl =>
      cases fl with
      | next => exact False.elim hq
      | brk => exact False.elim hq
      | cont => exact False.elim hq
      | ret u =>
        obtain ⟨v, H3, os3, bare3, un3, hok3, rv, ev, d, eH, nd, ne⟩ := hq
        have I3 : Inv X pins σ H3 s' := I2.call' os3 un3 hok3 bare3 (ch := []) (fun b z => absurd z (by simp))
        subst ev
        have r3 : u = Value.none := rv
        refine ⟨r3, ?_⟩
        subst eH
        have ax := I3.hok (hh.objs.size + 1) _ upd_same
        have ad := I3.hok d (.xd (numF n)) (by rw [upd_ne ne, upd_same])
        obtain ⟨mA, hns, hrel⟩ := ad
        obtain ⟨od, hod, hlk⟩ := lookIn_ns hns
        obtain ⟨uN, hu, tk, hN⟩ := RelO.some_of (show RelO (some (V.int n)) (mA "number") from hrel "number")
        subst hN
        have I4 : Inv X pins σ H s' := inv_forget (x := hh.objs.size + 1) (d := d) I3 (fun b h1 h2 => by rw [upd_ne h1, upd_ne h2, upd_ne h1]) ⟨_, upd_same⟩ ⟨_, by rw [upd_ne ne, upd_same]⟩ hx nd
        have fresh : hh.get? d = none := by
          cases z : hh.get? d with
          | none => rfl
          | some ob =>
            have := un3.free d ob (Heap.get?_push_of_some _ (Heap.get?_push_of_some _ z)) (by rw [upd_ne ne]; exact nd) (by simp)
            rw [upd_ne ne, upd_same] at this
            cases this
        refine ⟨hh.objs.size + 1, _, _, rfl, I3.kIn, ax.1, rfl, rfl, rfl, hf pins σ H s' hh _ n .none I4 (inv_old I) ⟨Nat.le_succ _, hx, fun z => ?_, _, _, C, d, od, tk, .none, ax.1, rfl, rfl, rfl, rfl, hod, by rw [hlk, hu], xr, nd, fun z => ?_, ne, fun v z => ?_, fresh, .inl ⟨rfl, rfl⟩⟩ h⟩
        · have := I3.stkFree _ z
          rw [upd_same] at this
          cases this
        · have := I3.stkFree _ z
          rw [upd_ne ne, upd_same] at this
          cases this
        · obtain ⟨o', es, ep, q1, q2, _⟩ := hns
          rw [hod] at q1
          cases q1
          rw [q2] at z
          cases z
end
section
variable {P : Program} {w : World} {K : PySem.W.Frag} {mg : Str → Option Value} {base : Heap}
theorem okX {CX : CXT} {x qual : Str} {st : Stmt} {f : Addr} {fd : FuncData} {N ps : List Str} {k : Nat} {sp : Sp} (F : Fun K x qual st f fd) (S : FnScope N ps (defScope st)) (len : ∀ vs H Q E, sp vs H Q E → vs.length = ps.length)
    (hbody : ∀ (cdv : Value) (A : Around) (outer : List Env) (s : Shared) (H : Hp) (vs : List V) (Q : VK) (E : XK), Room k (A.deeper (envOfC qual (defScope st) s.heap.objs.size f cdv)) → sp vs H Q E →
      ∃ t, PSs (cxOf CX P w K mg base N qual (defScope st) f cdv A outer s H E) (defBody st) t ∧ t { nx := fun _ H' => Q .non H', rt := Q } (start N vs) H) : FnOk P w K mg base CX (k + 1) f fd ps sp := by
  obtain ⟨oc, od, kV, doc, pm, an, cdv, ct, osl, rfl, lk, hcd⟩ := F.ex
  exact fn_of lk hcd S len fun A outer s H vs Q E hr hsp => hbody cdv A outer s H vs Q E hr hsp
/-- a def by its body, no pins -/
theorem okB {CX : CXT} {x qual : Str} {st : Stmt} {f : Addr} {fd : FuncData} {N ps : List Str} {k : Nat} {sp : Sp} (F : Fun K x qual st f fd) (S : FnScope N ps (defScope st)) (len : ∀ vs H Q E, sp vs H Q E → vs.length = ps.length)
    (hbody : ∀ (cdv : Value) (A : Around) (outer : List Env) (s s1 : Shared) (H : Hp) (vs : List V) (Q : VK) (E : XK), Room k (A.deeper (envOfC qual (defScope st) s.heap.objs.size f cdv)) → sp vs H Q E → Inv (cxOf CX P w K mg base N qual (defScope st) f cdv A outer s H E) [] (start N vs) H s1 →
      wpAny (model P w) (A.deeper (envOfC qual (defScope st) s.heap.objs.size f cdv)) (execs (defBody st) (envOfC qual (defScope st) s.heap.objs.size f cdv)) (SP (cxOf CX P w K mg base N qual (defScope st) f cdv A outer s H E) [] { nx := fun _ H' => Q .non H', rt := Q })
        (cxOf CX P w K mg base N qual (defScope st) f cdv A outer s H E).xe s1) : FnOk P w K mg base CX (k + 1) f fd ps sp := by
  obtain ⟨oc, od, kV, doc, pm, an, cdv, ct, osl, rfl, lk, hcd⟩ := F.ex
  refine ⟨len, fun A outer s H args us vs Q E hr e0 hb r hsp => ?_⟩
  have hl := len _ _ _ _ hsp
  have KX : K.In s.heap := e0.mod.kin.keeps fun b o e => (e0.bs b o e).1
  have lim : s.heap.NoLimit := e0.mod.nolimit.keeps fun b o e => (e0.bs b o e).1
  have hkind : ∀ y ∈ ps.zip us, (defScope st).names.lookup y.1 = some .local ∨ ((defScope st).names.lookup y.1 = some .cell ∧ ((cellsFrom (s.heap.objs.size + 1) (defScope st).names []).lookup y.1).isSome = true) := fun ⟨n, v⟩ hy => by
    rcases S.par n (List.of_mem_zip hy).1 with q | q
    · exact .inl q
    · exact .inr ⟨q, PySem.W.cellsFrom_some _ _ _ (.inl q)⟩
  refine codeAny_call_function hr.depth (KX _ _ lk) rfl S.co S.gen rfl (PySem.W.codeRec_of KX hcd) (hb _ _ _ _ ?_)
  refine wpAny_newFunctionEnv_cells S.kind hkind fun env he s1 x => ?_
  subst he
  refine ⟨lim.keeps x.toInCall.keep, codeAny_func ?_⟩
  refine wpAny_mono (hbody cdv A outer s s1 H vs Q E (hr.deeper _) hsp (inv_start S hr.hd e0 hl r x)) (fun fl s' hs => ?_) fun e s' hs => hs
  have fin : ∀ {σ' : L2.St} {H' : Hp} {v : V} {u : Value}, Inv (cxOf CX P w K mg base N qual (defScope st) f cdv A outer s H E) [] σ' H' s' → RelV v u → Q v H' → CE outer P w H s Q u s' :=
    fun {σ' H' v u} J rv q => ⟨v, H', J.os, J.bare, J.base, J.hok, rv, q⟩
  cases fl with
  | ret u =>
    obtain ⟨v, σ', H', J, rv, q⟩ := hs
    exact fin J rv q
  | next =>
    obtain ⟨σ', H', J, q⟩ := hs
    exact fin (v := V.non) (u := Value.none) J rfl q
  | brk =>
    obtain ⟨_, _, _, q⟩ := hs
    exact False.elim q
  | cont =>
    obtain ⟨_, _, _, q⟩ := hs
    exact False.elim q
end
end Bm
end

section
set_option linter.all false
set_option maxRecDepth 100000
set_option maxHeartbeats 4000000
namespace Bm
open PySem PySem.Spec PyProof.Rows L2
/-- within the except suite: the exception and its dict are pinned -/
abbrev inSuite (X : Cx) (e : Addr) (pn : List (Addr × Obj)) : Cx := { X with A := X.A.mark (some (.ref e)), calm := false, pn := pn, xe := fun _ _ => False }
section
variable {X : Cx} {σ : L2.St} {H : Hp} {s : Shared}
theorem inv_suite {e : Addr} {pn : List (Addr × Obj)} (I : Inv X [] σ H s) (hp : ∀ p ∈ pn, s.heap.get? p.1 = some p.2 ∧ H p.1 = none ∧ p.1 ≠ X.env.locals ∧ p.1 ∉ X.fs ∧ ∀ v, p.2.data ≠ .cell v) : Inv (inSuite X e pn) [] σ H s := by
  have ok := I.ok
  refine ⟨⟨ok.mod, ok.kind, ok.glob, ok.blt, ok.above, ok.inj, ok.has, ok.cab, (fun z => nomatch z), ok.frames, ok.stk, ok.exf, ok.bs, ok.bsz, ok.noex, ok.exfs, ok.funs, ok.frf⟩, I.os, I.bare, I.base, I.loc, I.cell, I.free, I.freeC, fun p h => ?_, I.hok, I.len⟩
  rw [List.append_nil] at h
  exact hp p h
/-- behind the suite: all names are forgotten -/
theorem inv_gone {e : Addr} {pn : List (Addr × Obj)} {h' : Heap} {m : Str → Option Value} {t' : Nat} (I : Inv (inSuite X e pn) [] σ H s) (okX : X.Ok) (hpn : X.pn = []) (hn : h'.Ns X.env.locals m) (hs : Heap.SameBut X.env.locals s.heap h') :
    Inv X [] (List.replicate X.N.length none) H { s with heap := h', toks := t' } := by
  have old : ∀ b o, X.s₀.heap.get? b = some o → b ≠ X.env.locals := fun b o q => Nat.ne_of_lt (Nat.lt_of_lt_of_le (Heap.lt_size q) okX.above)
  refine ⟨okX, I.os, I.bare, ⟨fun b o q n hb hx => ?_, fun b o q n hb hx => ?_, I.base.free, fun b o q hx => ?_, I.base.tups, I.base.frzs, I.base.tbls⟩, ⟨m, hn, fun i x v h1 h2 _ => ?_⟩, fun x c q => ?_, I.free, I.freeC, fun p hp => ?_, fun b u q => ?_, List.length_replicate⟩
  · exact (hs.2 b (old b o q)).trans (I.base.keep b o q n hb hx)
  · obtain ⟨sl, q'⟩ := I.base.slot b o q n hb hx
    exact ⟨sl, (hs.2 b (old b o q)).trans q'⟩
  · obtain ⟨o', q'⟩ := I.base.there b o q hx
    exact ⟨o', (hs.2 b (old b o q)).trans q'⟩
  · rw [List.getElem?_replicate] at h2
    split at h2 <;> cases h2
  · obtain ⟨v, z⟩ := I.cell x c q
    have ne : c ≠ X.env.locals := I.cne x c q
    exact ⟨v, z.sameBut hs ne⟩
  · rw [hpn] at hp
    cases hp
  · refine (I.hok b u q).stay (fun c v hc r => (hs.2 c fun z => ?_).trans r) (fun _ r => r) fun _ _ r => r
    have fr : H X.env.locals = none := I.free
    rcases hc with rfl | hc
    · rw [z, fr] at q; cases q
    · rw [z, fr] at hc; cases hc
/-- refusal.number -/
theorem pe_num {K : PySem.W.Frag} {e d C : Addr} {o od : Obj} {vs : Array Value} {tk : Tok} {k : Int} {i : Nat} {n : Str} {p2 p3 : Pos} (hK : X.K = K) (hi : X.N[i]? = some n) (hv : X.env.scope.names.lookup n = some .local) (c : XAttr K C "number")
    (h1 : o.cls = .ref C) (h2 : o.dict = some d) (h3 : o.data = .fields vs) (h4 : PySem.W.lookIn "number" od = some (some (.int k tk))) (hd : (n == ("__debug__" : Str)) = false := by decide) (hcd : (n == ("__classdict__" : Str)) = false := by decide)
    (hb : attributeBase (.Name n p2) "number" X.env (eval (.Name n p2) X.env) = eval (.Name n p2) X.env := by rfl) :
    PE (inSuite X e [(e, o), (d, od)]) (.Attribute (.Name n p2) "number" p3) (fun σ H Q => σ[i]? = some (some (.ref e)) ∧ Q (.int k) H) := by
  intro pins s σ H Q I h
  obtain ⟨hσ, hq⟩ := h
  refine attr_of hb (thn (pe_var (X := inSuite X e [(e, o), (d, od)]) (i := i) (pos := p2) hi (Or.inl hv) hd hcd pins s σ H (fun v H1 => v = .ref e ∧ H1 = H) I ⟨_, hσ, rfl, rfl⟩) fun u s1 ⟨x, H1, I1, rx, ex, eH⟩ => ?_)
  subst ex eH
  obtain rfl : u = Value.ref e := rx
  have a1 := I1.pin (e, o) (by simp)
  have a2 := I1.pin (d, od) (by simp)
  have kin : K.In s1.heap := hK ▸ I1.kIn
  exact exc_get kin c a1.1 h1 h3 h2 a2.1 h4 rfl ⟨.int k, _, I1.tok _, ⟨tk, rfl⟩, hq⟩
/-- what is wanted of a refusal in the try's suite: a list of its number is handed back -/
def ET (D : Ends) : XK := fun v _ H => ∃ k, v = .int k 0 ∧ ∀ p, H p = none → D.rt (.ref p) (upd H p (.lst [.int k]))
theorem try_run {R : Addr} {tb : TS} {D : Ends} {i : Nat} {nm rn : Str} {tbody : List Stmt} {p1 p2 p3 p4 p5 hpos pos : Pos} (hpn : X.pn = []) (hst : X.stack = X.env :: X.outer) (hfr : X.env.frame = some X.env.locals)
    (hi : X.N[i]? = some nm) (hv : X.env.scope.names.lookup nm = some .local) (hnd : X.N.Nodup) (hg : Gl X rn) (hm : X.mg rn = some (.ref R)) (body : ∀ xe, Flies R (X.wish xe) (ET D) → PSs (X.wish xe) tbody tb)
    (I : Inv X [] σ H s) (h : tb D σ H) (hdn : (nm == ("__debug__" : Str)) = false := by decide) (hcd : (nm == ("__classdict__" : Str)) = false := by decide) (hdr : (rn == ("__debug__" : Str)) = false := by decide)
    (hb : attributeBase (.Name nm p2) "number" X.env (eval (.Name nm p2) X.env) = eval (.Name nm p2) X.env := by rfl) (hse : starEach [.Attribute (.Name nm p2) "number" p3] X.env = (false, eval (.Attribute (.Name nm p2) "number" p3) X.env) :: starEach [] X.env := by rfl) :
    wpAny (model X.prog X.w) X.A (exec (.Try tbody [.ExceptHandler (some (.Name rn p1)) (some nm) [.Return (some (.List [.Attribute (.Name nm p2) "number" p3] p4)) p5] hpos] [] [] pos) X.env) (SP X [] D) X.xe s := by
  have hL : X.env.locals ∈ frs X.stack := by
    rw [hst]
    unfold frs
    rw [List.filterMap_cons, hfr]
    exact List.mem_cons_self
  refine wpAny_Try_except ?_
  refine wpAny_mono (body (fun e s₁ => wpAny (model X.prog X.w) X.A (noteFrame e X.env) (fun _ s₂ => wpAny (model X.prog X.w) X.A (setFlight e none) (fun _ s₃ => wpAny (model X.prog X.w) X.A (handleBy e X.env
    [.ExceptHandler (some (.Name rn p1)) (some nm) [.Return (some (.List [.Attribute (.Name nm p2) "number" p3] p4)) p5] hpos]) (SP X [] D) X.xe s₃) X.xe s₂) X.xe s₁) ?_ [] s σ H D (I.wish _) h) (fun f s1 q => ?_) fun e s1 q => q
  · intro pins σ' H' s' h₁ e k fl I' old' x q
    obtain ⟨k', ek, q⟩ := q
    cases ek
    have I0 : Inv X [] σ' H' s' := I'.unwish.pins_of fun p hp => nomatch hp
    have hl := I0.stack
    have hfr' := I0.ok.frames
    rw [hst] at hl hfr'
    have x' : XAt X.K R h₁ H' (frs (X.env :: X.outer)) s'.heap e k fl := hst ▸ x
    have old : Old X [] h₁ := ⟨old'.sz, fun p hp => old'.pin p (by rw [List.append_nil] at hp; exact List.mem_append_left _ hp), old'.cel, old'.loc, old'.there⟩
    show wpAny _ _ (noteFrame (.ref e) X.env) _ _ s'
    refine x'.note hfr' hl hfr I0.hok fun h1 _ x1 _ s1 => x1.land (s := { s' with heap := h1 }) fun h2 x2 s2 => ?_
    have I2 : Inv X [] σ' H' { s' with heap := h2 } := inv_seen I0 old (hst ▸ s1.trans s2)
    refine wpAny_handleBy_cons (codeAny_handlers_test ?_) (by intro z; cases z)
    refine Calls.Name_function_global I2.ok.kind hg (Calls.loadGlobal_global (by rw [I2.ok.glob]; exact I2.mod.glob.keeps I2.bk) hm ?_) hdr
    obtain ⟨o, vs, C, d, od, tk, head, a1, a2, a3, a4, a5, a6, a7, a8, _⟩ := x2.ex
    have T0 : PySem.W.Looks (model X.prog X.w) h2 (typeOf (.ref e)) (.ref C) := a2 ▸ (PySem.W.Looks.ld a1).andThen .now
    refine (PySem.W.exm_one I2.kIn T0 a8.hit).here (s := { s' with heap := h2 }) ?_
    refine codeAny_handlers_suite_as (x2.land (s := { s' with heap := h2 }) fun h3 x3 s3 => ?_)
    have I3 : Inv X [] σ' H' { s' with heap := h3 } := inv_seen (s := { s' with heap := h2 }) (h' := h3) I2 old (hst ▸ s3)
    obtain ⟨o, vs, C, d, od, tk, head, a1, a2, a3, a4, a5, a6, a7, a8, a9, a10, a11, a12, a12', a13⟩ := x3.ex
    have nL : ∀ b, b ∉ frs (X.env :: X.outer) → b ≠ X.env.locals ∧ b ∉ X.fs := fun b hb => ⟨fun z => hb (hst ▸ z ▸ hL), fun z => hb (by
      show b ∈ List.filterMap _ (X.env :: X.outer)
      rw [List.filterMap_cons, hfr]
      exact List.mem_cons_of_mem _ z)⟩
    have I4 : Inv (inSuite X e [(e, o), (d, od)]) [] σ' H' { s' with heap := h3 } := inv_suite I3 fun p hp => by
      rcases List.mem_cons.mp hp with rfl | hp
      · exact ⟨a1, x3.free, (nL e x3.nfr).1, (nL e x3.nfr).2, fun v z => by rw [a4] at z; cases z⟩
      · rw [List.mem_singleton.mp hp]
        exact ⟨a6, a9, (nL d a10).1, (nL d a10).2, a12⟩
    refine store_ok (X := inSuite X e [(e, o), (d, od)]) (v := .ref e) I4 hnd hi (Or.inl hv) rfl (fun s5 I5 => ?_) (.inr hv)
    have hσ : i < σ'.length := by rw [I4.len]; exact (List.getElem?_eq_some_iff.mp hi).1
    refine wpAny_mono (pss_one (ps_ret (pos := p5) (pe_lst (pos := p4) (pa_cons (pe_num (p2 := p2) (p3 := p3) rfl hi hv a8.att a2 a3 a4 a7 hdn hcd hb) pa_nil hse))) [] s5 _ H' { nx := fun _ _ => False, rt := D.rt } I5 ⟨List.getElem?_set_self hσ, (by show 1 ≤ sizeLine; decide), fun p hp => q p hp⟩) (fun f s6 z => ?_) fun _ _ z => False.elim z
    cases f with
    | next => obtain ⟨_, _, _, z⟩ := z; exact False.elim z
    | brk => obtain ⟨_, _, _, z⟩ := z; exact False.elim z
    | cont => obtain ⟨_, _, _, z⟩ := z; exact False.elim z
    | ret u =>
      obtain ⟨v, σ6, H6, I6, rv, qv⟩ := z
      obtain ⟨m, hm6, _⟩ := I6.loc
      exact wpAny_nameGoes hv hm6 (by rw [I2.ok.kind]; rfl) fun h7 m7 hn7 hs7 => ⟨v, _, H6, inv_gone I6 I2.ok hpn hn7 hs7, rv, qv⟩
  · cases f with
    | next => exact wpAny_execs_nil q.unwish
    | brk => exact q.unwish
    | cont => exact q.unwish
    | ret u => exact q.unwish
end
end Bm
end

section
set_option linter.all false
set_option maxRecDepth 100000
set_option maxHeartbeats 4000000
namespace Bm
open PySem PySem.Spec PyProof.Rows L2
def tJoin (t : TS) : TS := fun D σ H => ∃ P : L2.St → Hp → Prop, t { D with nx := P } σ H ∧ ∀ σ' H', P σ' H' → D.nx σ' H'
theorem ps_join {X : Cx} {st : Stmt} {t : TS} (h : PS X st t) : PS X st (tJoin t) := by
  intro pins s σ H D I q
  obtain ⟨P, q1, q2⟩ := q
  refine thn (h pins s σ H { D with nx := P } I q1) fun f s1 z => ?_
  cases f with
  | next =>
    obtain ⟨σ', H', I', z⟩ := z
    exact ⟨σ', H', I', q2 σ' H' z⟩
  | ret v => exact z
  | brk => exact z
  | cont => exact z
def tJoinE (t : TE) : TE := fun σ H Q => ∃ P : VK, t σ H P ∧ ∀ v H', P v H' → Q v H'
theorem pe_join {X : Cx} {e : Expr} {t : TE} (h : PE X e t) : PE X e (tJoinE t) := by
  intro pins s σ H Q I q
  obtain ⟨P, q1, q2⟩ := q
  exact thn (h pins s σ H P I q1) fun u s1 ⟨v, H', I', r, z⟩ => ⟨v, H', I', r, q2 v H' z⟩
theorem iteD {c A B : Prop} [Decidable c] (h1 : c → A) (h2 : ¬ c → B) : if decide c = true then A else B := by
  by_cases h : c
  · rw [if_pos (decide_eq_true h)]; exact h1 h
  · rw [if_neg (by rw [decide_eq_false h]; decide)]; exact h2 h
theorem iteB {b : Bool} {A B : Prop} (h1 : b = true → A) (h2 : b = false → B) : if b = true then A else B := by
  cases b with
  | true => exact h1 rfl
  | false => exact h2 rfl
section
variable {X : Cx}
theorem op_fdivB : OpR X (binaryOp .FloorDiv) (rI (fun _ j => 0 < j ∧ j.natAbs.log2 < 9000) fun i j => .int (i / j)) := opI fun i j _ _ _ _ _ hc q => by
  have h1 : (0 : Int) < j := hc.1
  exact floordiv_int (by omega) (by rw [Int.fdiv_eq_ediv_of_nonneg i (by omega)]; exact q) (.inl (PyProof.noPylong_of_log2 hc.2))
theorem op_mulB : OpR X (binaryOp .Mult) (rI (fun i j => Builtin.Int.intBits i ≤ 5000 ∧ Builtin.Int.intBits j ≤ 5000) fun i j => .int (i * j)) :=
  opI fun _ _ _ _ _ _ _ hc q => mul_int q (IntMulOk.of_le hc.1 hc.2 (by decide))
theorem op_shlB : OpR X (binaryOp .LShift) (rI (fun i j => 0 ≤ j ∧ j ≤ 1000000 ∧ Builtin.Int.intBits i ≤ 5000) fun i j => .int (i * 2 ^ j.toNat)) := opI fun i j _ _ _ _ _ hc q => by
  obtain ⟨h1, h2, h3⟩ := hc
  exact lshift_int h1 (by omega) q
theorem mt_bitlen : MtR X "int.bit_length" (fun x xs H Q => ∃ i, x = .int i ∧ xs = [] ∧ Q (.int (Builtin.Int.intBits i)) H) := by
  intro pins s σ H x xs v us Q I rx rs h
  obtain ⟨i, rfl, rfl, h⟩ := h
  obtain ⟨t, rfl⟩ := rx
  cases rs
  exact call_gives PySem.F.slot_int_bit_length (typeIs_int _ _ _) PySem.F.entry_int_bit_length (PySem.F.args_int_bit_length_1 _) (PySem.AutoIntG2.int_bit_length_int_0 i t) ⟨.int _, H, I.tok _, ⟨_, rfl⟩, h⟩
/-- a number of the module -/
theorem pgc {x : Str} {n : Int} {pos : Pos} (h : ∃ t, X.mg x = some (.int n t)) (hg : Gl X x := by rfl) (hd : (x == ("__debug__" : Str)) = false := by decide) : PE X (.Name x pos) (tC (.int n)) := by
  obtain ⟨t, h⟩ := h
  exact pe_glob hg h ⟨t, rfl⟩ hd
end
structure Df (P : Program) (w : World) (K : PySem.W.Frag) (mg : Str → Option Value) (base : Heap) (CX : CXT) (k : Nat) (x : Str) (dvs : List V) (sp : Sp) : Prop where
  ex : ∃ (f : Addr) (fd : FuncData) (ps : List Str) (ds : List Value), mg x = some (.ref f) ∧ PySem.W.keepIn K (.ref f) = true ∧ Binds K fd ps ds ∧ Vals dvs ds ∧ FnOk P w K mg base CX k f fd ps sp
section
variable {P : Program} {w : World} {K : PySem.W.Frag} {mg : Str → Option Value} {base : Heap} {CX : CXT}
theorem Df.mono {j k : Nat} {x : Str} {dvs : List V} {sp : Sp} (G : Df P w K mg base CX j x dvs sp) (h : j ≤ k) : Df P w K mg base CX k x dvs sp := by
  obtain ⟨f, fd, ps, ds, h1, h2, h3, h4, h5⟩ := G.ex
  exact ⟨f, fd, ps, ds, h1, h2, h3, h4, h5.mono h⟩
theorem Df.of {k : Nat} {x qual : Str} {st : Stmt} {f : Addr} {fd : FuncData} {ps : List Str} {sp : Sp} (F : Fun K x qual st f fd) (hm : mg x = some (.ref f)) (b : Binds K fd ps []) (G : FnOk P w K mg base CX k f fd ps sp) : Df P w K mg base CX k x [] sp :=
  ⟨f, fd, ps, [], hm, F.kp, b, .nil, G⟩
end
theorem pf {X : Cx} {CX : CXT} {j k : Nat} {x : Str} {dvs : List V} {sp : Sp} {E : XK} {e : Expr} {es : List Expr} {t : TA} {p pos : Pos} (G : Df X.prog X.w X.K X.mg X.base CX j x dvs sp) (hr : Room k X.A) (hx : Passes CX X E) (ha : PA X (e :: es) t)
    (hjk : j ≤ k := by decide) (hg : Gl X x := by rfl) (hdb : (x == ("__debug__" : Str)) = false := by decide) (he : starEach (e :: es) X.env = (false, eval e X.env) :: starEach es X.env := by rfl) (hpl : (backTo pos (starEach es X.env)).any (·.1) = false := by rfl) :
    PE X (.Call (.Name x p) (e :: es) [] pos) (tCall sp dvs E t) := by
  obtain ⟨f, fd, ps, ds, h1, h2, h3, h4, h5⟩ := (G.mono hjk).ex
  exact pe_call h5 hr hg h1 h2 h3 h4 hx ha hdb he hpl
structure Rz (P : Program) (w : World) (K : PySem.W.Frag) (mg : Str → Option Value) (base : Heap) (R : Addr) (x : Str) (n : Int) : Prop where
  ex : ∃ (C f : Addr) (fd : FuncData), XCls K C f ∧ XR K R C ∧ PySem.W.keepIn K (.ref C) = true ∧ FnOk P w K mg base CX0 2 f fd ["self"] (spInit K n) ∧ mg x = some (.ref C) ∧ Binds K fd ["self"] []
theorem praise {X : Cx} {R : Addr} {x : Str} {n : Int} {E : XK} {k : Nat} {p cpos pos : Pos} (z : Rz X.prog X.w X.K X.mg X.base R x n) (hr : Room k X.A) (hf : Flies R X E) (hk : 3 ≤ k := by decide) (hc : X.calm = true := by rfl) (hg : Gl X x := by rfl) (hdb : (x == ("__debug__" : Str)) = false := by decide) :
    PS X (.Raise (some (.Call (.Name x p) [] [] cpos)) none pos) (fun _ _ H => E (.int n 0) none H) := by
  obtain ⟨C, f, fd, h1, h2, h3, h4, h5, h6⟩ := z.ex
  exact ps_raise0 h1 h2 h3 h4 (hr.mono hk) hg h5 h6 hc hf hdb
theorem qint (Q : VK) {H : Hp} {a b : Int} (e : a = b) (h : Q (.int b) H) : Q (.int a) H := by subst e; exact h
theorem vint {a b : Int} (e : a = b) : V.int a = V.int b := by subst e; rfl
theorem vint1 {a b : Int} {l : List V} (e : a = b) : V.int a :: l = V.int b :: l := by subst e; rfl
/-- a step's answer, or -1 -/
def OQ (o : Option Nat) (Q : VK) (E : XK) (H : Hp) : Prop := (∀ c : Nat, o = some c → Q (.int c) H) ∧ (o = none → E (.int (-1) 0) none H)
theorem OQ.step {o : Option Nat} {f : Nat → Option Nat} {Q : VK} {E : XK} {H : Hp} (h : OQ (o.bind f) Q E H) {c : Nat} (e : o = some c) : OQ (f c) Q E H := by
  subst e
  exact h
theorem OQ.non {o : Option Nat} {f : Nat → Option Nat} {Q : VK} {E : XK} {H : Hp} (h : OQ (o.bind f) Q E H) (e : o = none) : E (.int (-1) 0) none H := by
  subst e
  exact h.2 rfl
def spN1 (g : Nat → V) : Sp := fun vs H Q _ => ∃ x : Nat, vs = [.int x] ∧ x < 2 ^ 64 ∧ Q (g x) H
def spO1 (g : Nat → Option Nat) : Sp := fun vs H Q E => ∃ x : Nat, vs = [.int x] ∧ Kg26.fin x = true ∧ OQ (g x) Q E H
def spO2 (g : Nat → Nat → Option Nat) : Sp := fun vs H Q E => ∃ x y : Nat, vs = [.int x, .int y] ∧ Kg26.fin x = true ∧ Kg26.fin y = true ∧ OQ (g x y) Q E H
def spRnd : Sp := fun vs H Q E => ∃ (w : Nat) (p : Int), vs = [.int w, .int p] ∧ w.log2 < 4000 ∧ (-4000 ≤ p ∧ p ≤ 4000) ∧ (rnd w p < Kg26.INF → Q (.int (rnd w p : Nat)) H) ∧ (¬ rnd w p < Kg26.INF → E (.int (-1) 0) none H)
theorem oq_signed {s : Bool} {r : Nat} {Q : VK} {E : XK} {H : Hp} (k : OQ (Kg26.signed s r) Q E H) (h : r < Kg26.INF) : Q (.int (((if s = true then 2 ^ 63 else 0) + r : Nat) : Int)) H := by
  refine k.1 _ ?_
  unfold Kg26.signed Kg26.SIGN
  rw [if_pos h]
  cases s <;> simp
theorem oq_inf {s : Bool} {r : Nat} {Q : VK} {E : XK} {H : Hp} (k : OQ (Kg26.signed s r) Q E H) (h : ¬ r < Kg26.INF) : E (.int (-1) 0) none H := by
  refine k.2 ?_
  unfold Kg26.signed
  rw [if_neg h]
theorem inf63 {r : Nat} (h : r < Kg26.INF) : r < 2 ^ 63 := by unfold Kg26.INF at h; omega
theorem iteND {c A B : Prop} [Decidable c] (h1 : ¬ c → A) (h2 : c → B) : if (!decide c) = true then A else B := by
  by_cases h : c
  · rw [decide_eq_true h]; exact iteF (h2 h)
  · rw [decide_eq_false h]; exact iteT (h1 h)
/-- doubles as values -/
def nv (xs : List Nat) : List V := xs.map fun x : Nat => V.int ((x : Nat) : Int)
theorem nv_len (xs : List Nat) : (nv xs).length = xs.length := by unfold nv; rw [List.length_map]
theorem nv_get {xs : List Nat} {i : Nat} (h : i < xs.length) : (nv xs)[i]? = some (.int ((Kg26.at_ xs i : Nat) : Int)) := by
  unfold nv Kg26.at_
  rw [List.getElem?_map, List.getD_eq_getElem?_getD, List.getElem?_eq_getElem h]
  rfl
theorem ixn {xs : List Nat} {z : Int} {j : Nat} (e : z = (j : Int)) (h : j < xs.length) : atI (nv xs) z = some (.int ((Kg26.at_ xs j : Nat) : Int)) := at_of e (nv_get h)
theorem fin_at {xs : List Nat} (h : Kg26.finite xs = true) {i : Nat} (hi : i < xs.length) : Kg26.fin (Kg26.at_ xs i) = true := by
  unfold Kg26.at_
  rw [List.getD_eq_getElem?_getD, List.getElem?_eq_getElem hi]
  exact List.all_eq_true.mp h _ (List.getElem_mem hi)
theorem finite_of {xs : List Nat} (h : ∀ j, j < xs.length → Kg26.fin (Kg26.at_ xs j) = true) : Kg26.finite xs = true := by
  refine List.all_eq_true.mpr fun x hx => ?_
  obtain ⟨j, hj, rfl⟩ := List.getElem_of_mem hx
  have := h j hj
  unfold Kg26.at_ at this
  rw [List.getD_eq_getElem?_getD, List.getElem?_eq_getElem hj] at this
  exact this
theorem lt_at {xs : List Nat} (h : ∀ x ∈ xs, x < 2 ^ 64) {i : Nat} (hi : i < xs.length) : Kg26.at_ xs i < 2 ^ 64 := by
  unfold Kg26.at_
  rw [List.getD_eq_getElem?_getD, List.getElem?_eq_getElem hi]
  exact h _ (List.getElem_mem hi)
theorem nv_ints {l : List Int} (h : (l.map Int.toNat).map (fun k : Nat => (k : Int)) = l) : l.map V.int = nv (l.map Int.toNat) := by
  unfold nv
  conv => lhs; rw [← h]
  rw [List.map_map]
  rfl
theorem fin_lt {x : Nat} (h : Kg26.fin x = true) : x < 2 ^ 64 := by
  unfold Kg26.fin at h
  simp only [Bool.and_eq_true, decide_eq_true_eq] at h
  exact h.1
end Bm
end

section
set_option linter.all false
set_option maxRecDepth 100000
set_option maxHeartbeats 4000000
namespace Bm
open PySem PySem.Spec PyProof.Rows L2
/-- what is handed in: whole numbers and lists of them -/
inductive Arg where
  | n (z : Int)
  | l (ns : List Int)
def Arg.d : Arg → PySem.W.WData
  | .n z => .int z
  | .l ns => .list (ns.map .int)
def ArgOk (K : PySem.W.Frag) (H : Hp) (v : V) : Arg → Prop
  | .n z => v = .int z
  | .l ns => ∃ p, v = .ref p ∧ SqL K H p (ns.map V.int)
abbrev Args (K : PySem.W.Frag) (H : Hp) : List V → List Arg → Prop := Paired (ArgOk K H)
/-- a list that is handed in: where it stands, its values, its numbers -/
abbrev Ent := Addr × List Value × List Int
def EntOk (es : List Ent) (v : V) : Arg → Prop
  | .n z => v = .int z
  | .l ns => ∃ e ∈ es, v = .ref e.1 ∧ e.2.2 = ns
theorem entOk_more {es es' : List Ent} (h : ∀ e ∈ es, e ∈ es') : ∀ {vs : List V} {as : List Arg}, Paired (EntOk es) vs as → Paired (EntOk es') vs as
  | _, _, .nil => .nil
  | _, .n _ :: _, .cons a b => .cons a (entOk_more h b)
  | _, .l _ :: _, .cons a b => .cons (let ⟨e, q, r⟩ := a; ⟨e, h e q, r⟩) (entOk_more h b)
abbrev lstObj (vs : List Value) : Obj := { cls := .type "list", data := .seq vs.toArray }
theorem ents {P : Params} {h : Heap} : ∀ (as : List Arg) (vals : List Value), PySem.W.WellAll P h vals (as.map Arg.d) →
    ∃ (es : List Ent) (vs : List V), Vals vs vals ∧ (∀ e ∈ es, h.get? e.1 = some (lstObj e.2.1) ∧ IntsAre e.2.1 e.2.2 ∧ Arg.l e.2.2 ∈ as) ∧ Paired (EntOk es) vs as
  | [], vals, w => by
    rw [List.map_nil] at w
    cases w
    exact ⟨[], [], .nil, (fun e q => by cases q), .nil⟩
  | .n z :: as, vals, w => by
    rw [List.map_cons] at w
    cases w with
    | cons a b =>
      obtain ⟨es, vs, r, q, p⟩ := ents as _ b
      have a' : PySem.W.Well P h _ (PySem.W.WData.int z) := a
      cases a'
      exact ⟨es, .int z :: vs, .cons ⟨_, rfl⟩ r, fun e he => ⟨(q e he).1, (q e he).2.1, List.mem_cons_of_mem _ (q e he).2.2⟩, .cons rfl p⟩
  | .l ns :: as, vals, w => by
    rw [List.map_cons] at w
    cases w with
    | cons a b =>
      obtain ⟨es, vs, r, q, p⟩ := ents as _ b
      have a' : PySem.W.Well P h _ (PySem.W.WData.list (ns.map .int)) := a
      cases a' with
      | @list ad us _ ho hall =>
        refine ⟨(ad, us, ns) :: es, .ref ad :: vs, .cons rfl r, fun e he => ?_, .cons ⟨_, List.mem_cons_self, rfl, rfl⟩ (entOk_more (fun e he => List.mem_cons_of_mem _ he) p)⟩
        rcases List.mem_cons.mp he with rfl | he
        · exact ⟨ho, Att.ints_of_wellAll ns _ hall, List.mem_cons_self⟩
        · exact ⟨(q e he).1, (q e he).2.1, List.mem_cons_of_mem _ (q e he).2.2⟩
theorem pairs_imp {α β : Type} {R S : α → β → Prop} (h : ∀ a b, R a b → S a b) : ∀ {xs : List α} {ys : List β}, Paired R xs ys → Paired S xs ys
  | _, _, .nil => .nil
  | _, _, .cons a b => .cons (h _ _ a) (pairs_imp h b)
theorem readsAll {cl : Str → Option Addr} {h : Heap} : ∀ {ns : List Int} {us : List Value}, Vals (ns.map V.int) us → PySem.W.ReadsAllW [] cl h us (ns.map .int) []
  | [], us, r => by
    cases r
    exact .nil
  | n :: ns, us, r => by
    cases r with
    | cons a b =>
      obtain ⟨t, rfl⟩ := a
      have := PySem.W.ReadsAllW.cons (R := []) (cl := cl) (h := h) (.int n t) (readsAll b)
      exact this
/-- the lists that are handed in, known to the object -/
def Hof (K : PySem.W.Frag) (es : List Ent) : Hp := fun b => if (K.lookup b).isNone = true then (es.find? fun e => decide (e.1 = b)).map fun e => HO.frz (lstObj e.2.1) (.lst (e.2.2.map V.int)) else none
theorem hof_some {K : PySem.W.Frag} {es : List Ent} {b : Addr} {u : HO} (h : Hof K es b = some u) : K.lookup b = none ∧ ∃ e ∈ es, e.1 = b ∧ u = HO.frz (lstObj e.2.1) (.lst (e.2.2.map V.int)) := by
  unfold Hof at h
  by_cases c : (K.lookup b).isNone = true
  · rw [if_pos c] at h
    obtain ⟨e, he, e2⟩ := Option.map_eq_some_iff.mp h
    exact ⟨Option.isNone_iff_eq_none.mp c, e, List.mem_of_find?_eq_some he, of_decide_eq_true (by have z := List.find?_some he; exact z), e2.symm⟩
  · rw [if_neg c] at h
    cases h
theorem hof_get {K : PySem.W.Frag} {es : List Ent} {e : Ent} (hk : K.lookup e.1 = none) (he : e ∈ es) : ∃ e' ∈ es, e'.1 = e.1 ∧ Hof K es e.1 = some (HO.frz (lstObj e'.2.1) (.lst (e'.2.2.map V.int))) := by
  unfold Hof
  rw [if_pos (by rw [hk]; rfl)]
  cases q : es.find? fun x => decide (x.1 = e.1) with
  | none =>
    have := List.find?_eq_none.mp q e he
    exact absurd (decide_eq_true rfl) this
  | some e' => exact ⟨e', List.mem_of_find?_eq_some q, of_decide_eq_true (by have z := List.find?_some q; exact z), rfl⟩
theorem map_int_inj : ∀ {a b : List Int}, a.map V.int = b.map V.int → a = b
  | [], [], _ => rfl
  | [], _ :: _, h => by cases h
  | _ :: _, [], h => by cases h
  | x :: a, y :: b, h => by
    rw [List.map_cons, List.map_cons] at h
    injection h with h1 h2
    rw [V.int.inj h1, map_int_inj h2]
theorem spec_call {P : Program} {w : World} {K : PySem.W.Frag} {mg mb : Str → Option Value} {CX : CXT} {k : Nat} {fa : Addr} {fd : FuncData} {ps : List Str} {sp : Sp} {s₁ : Shared} {as : List Arg} {vals : List Value} {out : List Int} {cl : Str → Option Addr} {Pm : Params}
    (KX : K.In s₁.heap) (hns : s₁.heap.Ns mainGlobals mg) (hb : s₁.heap.Ns builtinsNs mb) (hbb : ∀ x : Str, x ≠ "__name__" → mb x = bootBuiltins x) (hlim : s₁.heap.NoLimit) (hg : s₁.gens = #[])
    (hw : PySem.W.WellAll Pm s₁.heap vals (as.map Arg.d)) (hl : ∀ ns, Arg.l ns ∈ as → ns.length ≤ sizeLine) (hr : Room k callerA)
    (F : ∀ base : Heap, K.In base → base.Ns mainGlobals mg → FnOk P w K mg base CX k fa fd ps sp) (hbind : ∀ (s : Shared) (us : List Value), us.length = ps.length → BindsTo s fd ⟨us, []⟩ (ps.zip us))
    (hsp : ∀ (H : Hp) (vs : List V), Args K H vs as → sp vs H (fun v H' => ∃ p, v = .ref p ∧ H' p = some (.lst (out.map V.int))) fun _ _ _ => False)
    (hCX : ∀ H e s', CX [] H s₁ (fun _ _ _ => False) e s' → False) :
    codeAny (model P w) callerA (.call (.ref fa) ⟨vals, []⟩) (fun r s' => ∃ p, r = .ok (.ret (.ref p)) ∧ PySem.W.ReadsW [] cl s'.heap (.ref p) (.list (out.map .int)) [p] ∧ OldK s₁.heap s'.heap ∧ s'.os = s₁.os ∧ AllBare s'.gens) s₁ := by
  obtain ⟨es, vs, rv, hes, pr⟩ := ents as vals hw
  have hobj : ∀ {e e' : Ent}, e ∈ es → e' ∈ es → e.1 = e'.1 → e.2.2 = e'.2.2 := fun {e e'} h1 h2 q => by
    obtain ⟨a1, a2, _⟩ := hes e h1
    obtain ⟨b1, b2, _⟩ := hes e' h2
    rw [q, b1] at a1
    injection a1 with a1
    injection a1 with _ _ a1
    injection a1 with a1
    have e3 : e'.2.1 = e.2.1 := by simpa using congrArg Array.toList a1
    rw [e3] at b2
    have := (vals_ints a2).inj (vals_ints b2)
    exact map_int_inj this
  have sql : ∀ e ∈ es, SqL K (Hof K es) e.1 (e.2.2.map V.int) := fun e he => by
    obtain ⟨a1, a2, a3⟩ := hes e he
    cases hk : K.lookup e.1 with
    | some o =>
      have z := KX e.1 o hk
      rw [a1] at z
      cases z
      exact .inr ⟨_, e.2.1.toArray, _, hk, rfl, rfl, rfl, by rw [List.size_toArray, a2.length]; exact hl _ a3, by simpa using vals_ints a2⟩
    | none =>
      obtain ⟨e', h1, h2, h3⟩ := hof_get hk he
      rw [hobj h1 he h2] at h3
      exact .inl (.inr ⟨_, h3⟩)
  have hA : Args K (Hof K es) vs as := pairs_imp (fun v a q => by
    cases a with
    | n z => exact q
    | l ns =>
      obtain ⟨e, he, rfl, rfl⟩ := q
      exact ⟨e.1, rfl, sql e he⟩) pr
  have hok : HOk P w (Hof K es) s₁.heap := fun b u z => by
    obtain ⟨_, e, he, rfl, rfl⟩ := hof_some z
    obtain ⟨a1, a2, a3⟩ := hes e he
    exact ⟨a1, by rw [List.length_map]; exact hl _ a3, e.2.1, _, vals_ints a2, a1⟩
  have base_of : ∀ {b : Addr} {o : Obj}, s₁.heap.get? b = some o → Hof K es b = none → (hidT s₁.heap (Hof K es)).get? b = some o := fun e n => hidT_get e n
  have noA : ∀ {b : Addr} {o : Obj} {ds : Array DictEntry} {ep : Nat}, s₁.heap.get? b = some o → o.data = .dict ds ep → Hof K es b = none := fun {b o ds ep} e d => by
    cases q : Hof K es b with
    | none => rfl
    | some u =>
      obtain ⟨_, e', he, rfl, rfl⟩ := hof_some q
      rw [(hes e' he).1] at e; cases e
      have d' : Data.seq e'.2.1.toArray _ = Data.dict ds ep := d
      cases d'
  have nsK : ∀ {b : Addr} {m : Str → Option Value}, s₁.heap.Ns b m → (hidT s₁.heap (Hof K es)).Ns b m := fun {b m} ⟨o, ds, ep, e, d, r⟩ => ⟨o, ds, ep, base_of e (noA e d), d, r⟩
  have hKb : K.In (hidT s₁.heap (Hof K es)) := fun b o e => base_of (KX b o e) (by
    cases q : Hof K es b with
    | none => rfl
    | some u =>
      have := (hof_some q).1
      rw [this] at e; cases e)
  have hM : Mod K mg (hidT s₁.heap (Hof K es)) := ⟨hKb, nsK hns, ⟨mb, nsK hb, hbb⟩, let ⟨mc, h1, h2⟩ := hlim; ⟨mc, nsK h1, h2⟩⟩
  have e0 : Env0 P w K mg (hidT s₁.heap (Hof K es)) callerA [] s₁ (Hof K es) := ⟨rfl, hM, fun b o e => of_hidT e, Nat.le_of_eq (hidT_size _ _), trivial, fun b hb => absurd (show b ∈ ([] : List Addr) from hb) (by simp), hok, .of_eq hg⟩
  have hs := hsp _ _ hA
  have FF := F _ hKb (nsK hns)
  refine codeAny_mono (FF.run callerA [] s₁ (Hof K es) ⟨vals, []⟩ vals vs _ _ hr e0 (hbind s₁ vals (by rw [← rv.length]; exact FF.len _ _ _ _ hs)) rv hs) fun r s' h => ?_
  cases r with
  | error e => exact (hCX _ e s' h).elim
  | ok fl =>
    cases fl with
    | next => exact False.elim h
    | brk => exact False.elim h
    | cont => exact False.elim h
    | ret u =>
      obtain ⟨v, H', os, bare, un, hok', r', p, rfl, hp⟩ := h
      obtain rfl : u = Value.ref p := r'
      obtain ⟨hz, its, n, rl, ho⟩ := hok' p _ hp
      refine ⟨p, rfl, .list ho rfl rfl (by simpa using readsAll rl), OldK.of_keep fun b o e => ?_, os, bare⟩
      cases q : Hof K es b with
      | none => exact un.keep b o e q (by intro z; exact absurd (show b ∈ ([] : List Addr) from z) (by simp)) (by simp)
      | some u =>
        obtain ⟨_, e', he, rfl, rfl⟩ := hof_some q
        have z2 := un.frzs _ _ _ q
        obtain ⟨e2, _⟩ := hok' _ _ z2
        rw [(hes e' he).1] at e; cases e
        exact e2
/-- the goal that the head leaves, from the def's promise -/
theorem walkS {r : PySem.W.OpenSpec} {k : Nat} {q : Program} {loose : List Str} {XP : (Str → Option Value) → Heap → Prop} {YP : World → Heap → Prop} {d : DefRec} {K : Params → PySem.W.Frag} {sp : PySem.W.Frag → Sp} {ps : List Str}
    (hdf : d.params.defaults = []) (hr : Room k callerA) (hY : ∀ (w : World) (h : Heap), YP w h → (K w.params).In h)
    (hargs : ∀ args : List PySem.W.WData, r.pre args = true → ∃ (as : List Arg) (out : List Int), args = as.map Arg.d ∧ (∀ ns, Arg.l ns ∈ as → ns.length ≤ sizeLine) ∧ r.post args (.list (out.map .int)) = true ∧
      ∀ (K : PySem.W.Frag) (H : Hp) (vs : List V), Args K H vs as → sp K vs H (fun v H' => ∃ p, v = .ref p ∧ H' p = some (.lst (out.map V.int))) fun _ _ _ => False)
    (F : ∀ (w : World) (mg : Str → Option Value) (fa : Addr) (h : Heap), (K w.params).In h → h.Ns mainGlobals mg → mg d.name = some (.ref fa) →
      ∃ fd : FuncData, (∀ (s : Shared) (us : List Value), us.length = ps.length → BindsTo s fd ⟨us, []⟩ (ps.zip us)) ∧
        ∀ base : Heap, (K w.params).In base → base.Ns mainGlobals mg → FnOk r.prog w (K w.params) mg base CX0 k fa fd ps (sp (K w.params))) :
    PySem.W.WalkOS q loose XP YP r d [] (fun f vs => PySem.call f vs) := by
  intro w s₀ s₁ mg mb G Y fa o pm cd doc dV kV ho hd hcd hD hmg hg args vals as hpre hlay hrd hwl hlo
  have KX := hY w _ Y
  obtain ⟨fd, hb, hF⟩ := F w mg fa _ KX G.T.g hmg
  obtain ⟨as', out, rfl, hl, hpost, hsp⟩ := hargs args hpre
  refine PySem.W.enter_call (codeAny_mono (spec_call (cl := classAt s₀.heap) KX G.T.g G.T.b G.T.builtins G.T.nolimit hg hwl hl hr hF hb (fun H vs h => hsp _ H vs h) fun H e s' z => z) fun res s' h => ?_)
  obtain ⟨p, rfl, h1, h2, h3, h4⟩ := h
  exact ⟨.inl ⟨_, _, _, rfl, PySem.W.osNone, h1, PySem.W.osPost hpost, fun z => absurd (show false = true from z) (by decide)⟩, h2, h3, h4⟩
end Bm
end

section
set_option linter.all false
set_option maxRecDepth 100000
set_option maxHeartbeats 4000000
namespace Bm
open PySem PySem.Spec PyProof.Rows L2
theorem len1 {α : Type} {us : List α} (h : us.length = 1) : ∃ a, us = [a] := by
  match us, h with
  | [a], _ => exact ⟨a, rfl⟩
theorem len2 {α : Type} {us : List α} (h : us.length = 2) : ∃ a b, us = [a, b] := by
  match us, h with
  | [a, b], _ => exact ⟨a, b, rfl⟩
section
variable {K : PySem.W.Frag} {H : Hp}
theorem args_n {vs : List V} {z : Int} {as : List Arg} (h : Args K H vs (.n z :: as)) : ∃ vs', vs = .int z :: vs' ∧ Args K H vs' as := by
  cases h with
  | @cons v vs' _ _ a b =>
    have a' : v = .int z := a
    subst a'
    exact ⟨_, rfl, b⟩
theorem args_l {vs : List V} {ns : List Int} {as : List Arg} (h : Args K H vs (.l ns :: as)) : ∃ p vs', vs = .ref p :: vs' ∧ SqL K H p (ns.map V.int) ∧ Args K H vs' as := by
  cases h with
  | @cons v vs' _ _ a b =>
    obtain ⟨p, rfl, hp⟩ := a
    exact ⟨p, _, rfl, hp, b⟩
theorem args_nil {vs : List V} (h : Args K H vs []) : vs = [] := by
  cases h
  rfl
theorem same_upd {p : Addr} {o : HO} (hp : H p = none) : Same H (upd H p o) := fun b u e => by
  rw [upd_ne (ne_of_none e hp)]
  exact e
/-- a refusal's answer -/
theorem et {Q : VK} {out : List Int} {z : Int} {N : L2.St → Hp → Prop} (k : ∀ (p : Addr) (H' : Hp), H' p = some (.lst (out.map V.int)) → Q (.ref p) H') (e : out = [z]) : ET { nx := N, rt := Q } (.int z 0) none H :=
  ⟨z, rfl, fun p _ => k p _ (by rw [upd_same, e]; rfl)⟩
end
section
variable {P : Program} {w : World} {K : PySem.W.Frag} {mg : Str → Option Value} {base : Heap} {R : Addr}
/-- a call of the desk: a try around its whole body, one except that answers the refusal's number -/
theorem okTop {x qual : Str} {st : Stmt} {f : Addr} {fd : FuncData} {N ps : List Str} {k : Nat} {sp : Sp} {tbody : List Stmt} {p1 p2 p3 p4 p5 hpos pos : Pos} (F : Fun K x qual st f fd) (S : FnScope N ps (defScope st)) (len : ∀ vs H Q E, sp vs H Q E → vs.length = ps.length)
    (hst : defBody st = [.Try tbody [.ExceptHandler (some (.Name "Refusal" p1)) (some "refusal") [.Return (some (.List [.Attribute (.Name "refusal" p2) "number" p3] p4)) p5] hpos] [] [] pos])
    (i : Nat) (hi : N[i]? = some "refusal") (hv : (defScope st).names.lookup ("refusal" : Str) = some NameKind.local) (hg : (defScope st).names.lookup ("Refusal" : Str) = some NameKind.globalImplicit) (hm : mg "Refusal" = some (.ref R))
    (hbody : ∀ (cdv : Value) (A : Around) (outer : List Env) (s : Shared) (H : Hp) (vs : List V) (Q : VK) (E : XK), Room k (A.deeper (envOfC qual (defScope st) s.heap.objs.size f cdv)) → sp vs H Q E →
      ∃ tb, (∀ xe, Flies R ((cxOf CX0 P w K mg base N qual (defScope st) f cdv A outer s H E).wish xe) (ET { nx := fun _ H' => Q .non H', rt := Q }) → PSs ((cxOf CX0 P w K mg base N qual (defScope st) f cdv A outer s H E).wish xe) tbody tb) ∧
        tb { nx := fun _ H' => Q .non H', rt := Q } (start N vs) H) : FnOk P w K mg base CX0 (k + 1) f fd ps sp := by
  refine okB F S len fun cdv A outer s s1 H vs Q E hr hsp I => ?_
  obtain ⟨tb, hb, ht⟩ := hbody cdv A outer s H vs Q E hr hsp
  rw [hst]
  refine wpAny_execs_cons (thn (try_run (X := cxOf CX0 P w K mg base N qual (defScope st) f cdv A outer s H E) (R := R) (tb := tb) rfl rfl rfl hi hv S.nd hg hm hb I ht) fun fl s' q => ?_)
  · cases fl with
    | next => exact wpAny_execs_nil q
    | ret v => exact q
    | brk => exact q
    | cont => exact q
theorem exm_mk {C : Addr} (h1 : PySem.W.mroIn K R (.type "BaseException") = some true) (h2 : (PySem.W.clsIn K R).isSome = true) (h3 : PySem.W.typeIn K (.ref R) = some (.type "type")) (h4 : PySem.W.mroIn K C (.ref R) = some true) : PySem.W.exmOne K (.ref C) (.ref R) = some true := by
  unfold PySem.W.exmOne PySem.W.kitCls PySem.W.subIn
  simp only [h1, h2, h3, h4, BEq.rfl, Bool.and_self, if_true]
theorem xcls_mk {C f : Addr} {oc : Value} {od : Option Addr} {cd : ClassData} {sl : Array (Option Value)} (l : K.lookup C = some ⟨oc, od, .cls cd, sl⟩) (h1 : cd.hasDel = false) (h2 : cd.mro.isEmpty = false) (h3 : (sl.toList[4]?).join = some (.builtin "Exception.__new__"))
    (a1 : PySem.W.mroIn K C (.ref C) = some true) (a2 : PySem.W.mroIn K C (.type "Exception") = some true) (a3 : PySem.W.mroIn K C (.type "BaseException") = some true) (a4 : PySem.W.mroIn K C (.type "AttributeError") = some false) (a5 : PySem.W.mroIn K C (.type "NameError") = some false)
    (a6 : PySem.W.specialIn K (.ref C) "__call__" = some (some (.builtin "type.__call__"))) (a7 : PySem.W.instIn K (.ref C) (.type "type") = some true) (a8 : PySem.W.typeIn K (.ref C) = some (.type "type")) (a9 : PySem.W.findIn K (.ref C) "__init__" = some (some (.ref f))) (a10 : PySem.W.typeIn K (.ref f) = some (.type "function")) : XCls K C f :=
  ⟨⟨oc, od, cd, sl, l, h1, h2, h3⟩, a1, a2, a3, a4, a5, a6, a7, a8, a9, a10⟩
theorem xattr_mk {C : Addr} {cd : ClassData} (l : List Addr) (h0 : PySem.W.clsIn K C = some cd) (h1 : cd.hasDict = true) (h2 : cd.mro = l.map Value.ref ++ [.type "Exception", .type "BaseException", .type "object"])
    (a1 : PySem.W.findIn K (.ref C) "__setattr__" = some (some (.builtin "object.__setattr__"))) (a2 : PySem.W.findIn K (.ref C) "__getattribute__" = some (some (.builtin "BaseException.__getattribute__"))) (a3 : PySem.W.findIn K (.ref C) "__getattr__" = some none) (a4 : PySem.W.findIn K (.ref C) "number" = some none)
    (a5 : PySem.W.mroIn K C (.type "object") = some true) (a6 : PySem.W.mroIn K C (.type "BaseException") = some true) : XAttr K C "number" := ⟨⟨cd, l, h0, h1, h2⟩, a1, a2, a3, a4, a5, a6⟩
theorem bindsA {x qual : Str} {st : Stmt} {f : Addr} {fd : FuncData} {ps : List Str} (F : Fun K x qual st f fd)
    (h : ∀ (kV doc pm : Value) (an : Option Addr) (cdv ct : Value) (us : List Value), us.length = ps.length → bindArgs (PySem.W.fnOf x qual (defArgs st) (defBody st) (defScope st) .none kV doc pm an cdv ct) ⟨us, []⟩ = pure (ps.zip us)) (s : Shared) (us : List Value) (hl : us.length = ps.length) : BindsTo s fd ⟨us, []⟩ (ps.zip us) := by
  obtain ⟨oc, od, kV, doc, pm, an, cdv, ct, osl, rfl, lk, hcd⟩ := F.ex
  exact .of_eq (h kV doc pm an cdv ct us hl)
/-- a def with one default, the number 1 -/
structure FunD (K : PySem.W.Frag) (x qual : Str) (st : Stmt) (f : Addr) (fd : FuncData) (t : Tok) : Prop where
  ex : ∃ (oc : Value) (od : Option Addr) (T : Addr) (kV doc pm : Value) (an : Option Addr) (cdv ct : Value) (osl : Array (Option Value)) (tc : Value) (td : Option Addr) (n : Nat) (tsl : Array (Option Value)),
    fd = PySem.W.fnOf x qual (defArgs st) (defBody st) (defScope st) (.ref T) kV doc pm an cdv ct ∧ K.lookup f = some ⟨oc, od, .func fd, osl⟩ ∧ PySem.W.codeIn K cdv qual = true ∧ K.lookup T = some ⟨tc, td, .seq #[.int 1 t] n, tsl⟩
  kp : PySem.W.keepIn K (.ref f) = true
theorem okXD {CX : CXT} {x qual : Str} {st : Stmt} {f : Addr} {fd : FuncData} {t : Tok} {N ps : List Str} {k : Nat} {sp : Sp} (F : FunD K x qual st f fd t) (S : FnScope N ps (defScope st)) (len : ∀ vs H Q E, sp vs H Q E → vs.length = ps.length)
    (hbody : ∀ (cdv : Value) (A : Around) (outer : List Env) (s : Shared) (H : Hp) (vs : List V) (Q : VK) (E : XK), Room k (A.deeper (envOfC qual (defScope st) s.heap.objs.size f cdv)) → sp vs H Q E →
      ∃ t, PSs (cxOf CX P w K mg base N qual (defScope st) f cdv A outer s H E) (defBody st) t ∧ t { nx := fun _ H' => Q .non H', rt := Q } (start N vs) H) : FnOk P w K mg base CX (k + 1) f fd ps sp := by
  obtain ⟨oc, od, T, kV, doc, pm, an, cdv, ct, osl, tc, td, n, tsl, rfl, lk, hcd, _⟩ := F.ex
  exact fn_of lk hcd S len fun A outer s H vs Q E hr hsp => hbody cdv A outer s H vs Q E hr hsp
theorem fund_at {x : Str} {st : Stmt} {h : Heap} {f T : Addr} {oc : Value} {od an : Option Addr} {osl : Array (Option Value)} {kV doc pm cdv ct : Value} {tc : Value} {td : Option Addr} {n : Nat} {tsl : Array (Option Value)} {t : Tok} (X : K.In h) (G : h.Ns mainGlobals mg) (a : PySem.W.nsIn K mainGlobals x = some (some (.ref f)))
    (l : K.lookup f = some ⟨oc, od, .func (PySem.W.fnOf x x (defArgs st) (defBody st) (defScope st) (.ref T) kV doc pm an cdv ct), osl⟩) (c : PySem.W.codeIn K cdv x = true) (k : PySem.W.keepIn K (.ref f) = true) (l2 : K.lookup T = some ⟨tc, td, .seq #[.int 1 t] n, tsl⟩) :
    ∃ (f : Addr) (fd : FuncData) (t : Tok), FunD K x x st f fd t ∧ mg x = some (.ref f) := ⟨f, _, t, ⟨⟨oc, od, T, kV, doc, pm, an, cdv, ct, osl, tc, td, n, tsl, rfl, l, c, l2⟩, k⟩, PySem.W.mg_of X G a⟩
/-- a def of the module as the top has left it -/
theorem fun_at {x : Str} {st : Stmt} {h : Heap} {f : Addr} {oc : Value} {od an : Option Addr} {osl : Array (Option Value)} {kV doc pm cdv ct : Value} (X : K.In h) (G : h.Ns mainGlobals mg) (a : PySem.W.nsIn K mainGlobals x = some (some (.ref f)))
    (l : K.lookup f = some ⟨oc, od, .func (PySem.W.fnOf x x (defArgs st) (defBody st) (defScope st) .none kV doc pm an cdv ct), osl⟩) (c : PySem.W.codeIn K cdv x = true) (k : PySem.W.keepIn K (.ref f) = true) :
    ∃ (f : Addr) (fd : FuncData), Fun K x x st f fd ∧ mg x = some (.ref f) := ⟨f, _, fun_mk l c k, PySem.W.mg_of X G a⟩
end
end Bm
end

section
set_option linter.all false
set_option maxRecDepth 100000
set_option maxHeartbeats 4000000
namespace Bm
open PySem PySem.Spec PyProof.Rows L2
section
variable {X : Cx} {R : Addr} {E : XK}
theorem noteFrame_env {e : Value} {env env' : Env} (h : env.frame = env'.frame) : noteFrame e env = noteFrame e env' := by
  unfold noteFrame PySem.frameOf
  rw [h]
/-- an exception is passed on out of a block -/
theorem pass_on {M : Model} {A : Around} {E' : Value → Shared → Prop} {s : Shared} {K : PySem.W.Frag} {h₀ : Heap} {H : Hp} {k : Int} {fr : List Addr} {e : Addr} {fl : Value} {what : String} {cenv : Env} (x : XAt K R h₀ H fr s.heap e k fl) (ht : HasT s.heap e)
    (h : ∀ h' fl', XAt K R h₀ H fr h' e k fl' → Seen fr h₀ H s.heap h' → E' (.ref e) { s with heap := h' }) : wpAny M A (PySem.passOn what (.ref e) cenv : Sem Value) (fun _ _ => False) E' s := by
  obtain ⟨o, vs, T, t1, t2, t3⟩ := id ht
  unfold PySem.passOn
  refine wpAny_bind (wpAny_field t1 t2 t3 ?_)
  rw [if_neg (show ¬ ((Value.ref T == Value.none) = true) from by simp)]
  refine wpAny_bind (x.landT ht fun h' x' _ sn => wpAny_throw (h h' _ x' sn))
theorem XAt.other {K : PySem.W.Frag} {h₀ h h' : Heap} {H : Hp} {fr : List Addr} {e C : Addr} {k : Int} {fl : Value} {oC : Obj} (x : XAt K R h₀ H fr h e k fl) (ht : HasT h e) (hC : h₀.get? C = some oC) (hs : Heap.SameBut C h h') : XAt K R h₀ H fr h' e k fl ∧ HasT h' e := by
  obtain ⟨x1, x2, x3, o, vs, Cc, d, od, tk, head, a1, a2, a3, a4, a5, a6, a7, a8, a9, a10, a11, a12, a12', a13⟩ := x
  have lt := Heap.lt_size hC
  have eC : e ≠ C := fun z => absurd lt (by rw [← z]; exact Nat.not_lt.mpr x1)
  have dC : d ≠ C := fun z => by rw [z, hC] at a12'; cases a12'
  refine ⟨⟨x1, x2, x3, o, vs, Cc, d, od, tk, head, (hs.2 e eC).trans a1, a2, a3, a4, a5, (hs.2 d dC).trans a6, a7, a8, a9, a10, a11, a12, a12', ?_⟩, ?_⟩
  · rcases a13 with a13 | ⟨T, oT, ts, b1, b2, b3, b4, b5, b6, b7, b8, b9⟩
    · exact .inl a13
    · exact .inr ⟨T, oT, ts, b1, b2, b3, (hs.2 T fun z => absurd lt (by rw [← z]; exact Nat.not_lt.mpr b7)).trans b4, b5, b6, b7, b8, b9⟩
  · obtain ⟨o', vs', T', t1, t2, t3⟩ := ht
    exact ⟨o', vs', T', (hs.2 e eC).trans t1, t2, t3⟩
/-- what is wanted of an exception in a comprehension's block -/
abbrev blkE (X : Cx) (ce : Env) (use : Option (Value → Sem Unit)) (Qf : Value → Shared → Prop) (D C : Addr) : Value → Shared → Prop :=
  notedBy (model X.prog X.w) X.A ce fun e s' => compPost (model X.prog X.w) X.A X.xe use Qf (.ref D) C (.error e) s'
theorem flies_blk {pins : List (Addr × Obj)} {σ : L2.St} {H3 : Hp} {s3 : Shared} {scope : Scope} {ce : Env} {fp : List Addr} {use : Option (Value → Sem Unit)} {Qf : Value → Shared → Prop} {D : Addr} (hf : Flies R X E) (I3 : Inv X pins σ H3 s3)
    (hst : ∃ env outer L, X.stack = env :: outer ∧ env.frame = X.env.frame ∧ X.env.frame = some L) (hce : ce.frame = X.env.frame) (cL : ce.locals = s3.heap.objs.size) (f3 : ∀ b ∈ fp, FpOk X pins H3 b ∧ b < s3.heap.objs.size) :
    Flies R ((X.blk s3 H3 scope ce fp).wish (blkE X ce use Qf D s3.heap.objs.size)) E := by
  intro pins' σ' H' s' h₁ e k fl I old x q
  obtain ⟨env, outer, L, hst, henv, hL⟩ := hst
  have I0 := I.unwish
  have IX : Inv X pins σ H' s' := I3.call' (ch := fp) I0.os I0.base I0.hok I0.bare fun b hb => ⟨(f3 b hb).1.2.2.2.1, (f3 b hb).1.2.1, (f3 b hb).1.2.2.2.2.1, (f3 b hb).1.2.2.2.2.2⟩
  have oX : Old X pins h₁ := by
    have o3 := inv_old I3
    refine ⟨Nat.le_trans o3.sz old.sz, fun p hp => Nat.lt_of_lt_of_le (o3.pin p hp) old.sz, fun y c z => Nat.lt_of_lt_of_le (o3.cel y c z) old.sz, ?_, fun b o z hb => ?_⟩
    · obtain ⟨o, z⟩ := o3.loc
      exact old.there _ o z fun w => (f3 _ w).1.2.1 rfl
    · obtain ⟨o', z'⟩ := o3.there b o z hb
      refine old.there b o' z' fun w => ?_
      rcases (f3 b w).1.2.2.2.1 with r | r
      · exact hb r
      · exact absurd (Heap.lt_size z) (Nat.not_lt.mpr r)
  have x0 : XAt X.K R h₁ H' (frs (env :: outer)) s'.heap e k fl := hst ▸ x
  have hl := IX.stack
  have hfr' := IX.ok.frames
  rw [hst] at hl hfr'
  show wpAny _ _ (noteFrame (.ref e) ce) _ _ s'
  rw [noteFrame_env (env' := env) (hce.trans henv.symm)]
  refine x0.note hfr' hl (henv.trans hL) IX.hok fun h1 _ x1 t1 s1 => ?_
  obtain ⟨oC, hC⟩ := old.loc
  have hC : h₁.get? s3.heap.objs.size = some oC := by rw [← cL]; exact hC
  have I1 : Inv X pins σ H' { s' with heap := h1 } := inv_seen IX oX (hst ▸ s1)
  have nC : H' s3.heap.objs.size = none := by
    have z : H' ce.locals = none := I0.free
    rw [cL] at z
    exact z
  have Ib : Inv (X.blk s3 H3 scope ce fp) pins' σ' H' { s' with heap := h1 } := inv_seen I0 ⟨old.sz, old.pin, old.cel, old.loc, old.there⟩ (hst ▸ s1)
  obtain ⟨m, hn, _⟩ := Ib.loc
  have hn : h1.Ns ce.locals m := hn
  rw [cL] at hn
  obtain ⟨f0, f1, f2, f4, f5, f6⟩ := I3.fpOk (Nat.le_refl _) nC
  refine ⟨m, hn, fun h2 sb cenv _ => ?_⟩
  obtain ⟨x2, t2⟩ := x1.other t1 hC sb
  have I2 : Inv X pins σ H' { s' with heap := h2 } := I1.turned (t' := s'.toks) (fun b o hb z => (sb.2 b hb).trans z) f0 f1 f4 f5 f6
  refine pass_on (s := { s' with heap := h2 }) x2 t2 fun h3 fl3 x3 s3' => ?_
  exact hf pins σ H' { s' with heap := h3 } h₁ e k fl3 (inv_seen (s := { s' with heap := h2 }) I2 oX (hst ▸ s3')) oX (hst ▸ x3) q
theorem lcX_core {pins : List (Addr × Obj)} {s : Shared} {σ : L2.St} {H : Hp} {Q : VK} {elt tg iter : Expr} {scope : Scope} {own : List (Str × Nat)} {pos pos' : Pos} {wi : TI} {g : TG} {te : TE} {use : Option (Value → Sem Unit)} {Qf : Value → Shared → Prop}
    (hc : X.calm = true) (hf : Flies R X E) (hst : ∃ env outer L, X.stack = env :: outer ∧ env.frame = X.env.frame ∧ X.env.frame = some L) (hN : X.N.Nodup) (I : Inv X pins σ H s) (hi : PI X tg iter wi) (ok : BlkOk X.N X.env.scope scope own)
    (hg : ∀ (s : Shared) (H : Hp) (C : Addr) (cl : List (Str × Addr)) (fp : List Addr) (xe : Value → Shared → Prop), PG ((X.blk s H scope (compEnvC scope cl C X.env) fp).wish xe) tg g)
    (he : ∀ (s : Shared) (H : Hp) (C : Addr) (cl : List (Str × Addr)) (fp : List Addr) (xe : Value → Shared → Prop), Flies R ((X.blk s H scope (compEnvC scope cl C X.env) fp).wish xe) E → PE ((X.blk s H scope (compEnvC scope cl C X.env) fp).wish xe) elt te) (hs : ∀ x, foldedSetIterable iter X.env x = pure x)
    (h : tLc wi g tYes te (own.map (·.2)) σ H Q)
    (hRR : ∀ D C s' m H', Inv X pins σ H' s' → Q (.ref D) H' → s'.heap.Ns C m → FpOk X pins H' C → compPost (model X.prog X.w) X.A X.xe use Qf (.ref D) C (.ok .next) s') :
    wpAny (model X.prog X.w) X.A (comprehension (.ListComp elt [⟨tg, iter, [], 0⟩] scope pos) scope X.env pos' (newList []) false (eval iter X.env) use) Qf X.xe s := by
  have hfree : ∀ y ∈ scope.names, y.2 = .free → ∃ c, X.env.cells.lookup y.1 = some c := fun y hy e => by
    rcases ok.free y hy e with k | k
    · exact I.ok.has _ (.inl k)
    · exact I.ok.has _ (.inr k)
  refine wpAny_comprehension_free (use := use) rfl hs (closure_ok hfree) ok.kind (fun y hy e => by rw [ok.uniq y hy, e])
    (thn (hi pins s σ H _ I h) fun xv s1 hx => thn hx fun itv s2 h2 => ?_)
  obtain ⟨it, fp, tn, J, H2, e, I2, T, st2, f2, q⟩ := h2
  subst e
  refine wpAny_newObj_type (newEnv_comp ?_) (by show 0 ≤ sizeLine; decide)
  generalize hD : s2.heap.objs.size = D
  have hDn : H2 D = none := I2.hok.fresh (Nat.le_of_eq hD)
  obtain ⟨W, ⟨m0, w0⟩, turn⟩ := q D hDn
  generalize hs3 : ({ s2 with heap := s2.heap.push { cls := .type "list", data := .seq ([] : List Value).toArray } } : Shared) = s3
  have I3 : Inv X pins σ (upd H2 D (.lst [])) s3 := by
    rw [← hs3]
    refine I2.laid (t' := s2.toks) (fun b o e => Heap.get?_push_of_some _ e) (Nat.le_of_eq hD) ⟨Nat.zero_le _, [], 0, .nil, ?_⟩
    rw [← hD]
    exact Heap.get?_push_size _ rfl
  have h3 : s3.heap = s2.heap.push { cls := .type "list", data := .seq ([] : List Value).toArray } := by rw [← hs3]
  have sz : ∀ b ∈ fp, b < s2.heap.objs.size := fun b hb => by
    obtain ⟨o, e, _⟩ := T.obj _ _ st2 b hb
    exact Heap.lt_size e
  have f3 : ∀ b ∈ fp, FpOk X pins (upd H2 D (.lst [])) b ∧ b < s3.heap.objs.size := fun b hb => by
    have hlt := sz b hb
    refine ⟨⟨?_, (f2 b hb).2⟩, by rw [h3, Heap.size_push]; exact Nat.lt_succ_of_lt hlt⟩
    rw [upd_ne (by rw [← hD]; exact Nat.ne_of_lt hlt)]
    exact (f2 b hb).1
  have st3 : tn 0 s3.heap := T.keep _ _ _ st2 fun b _ o e => by rw [h3]; exact Heap.get?_push_of_some _ e
  have I4 := block_start I3 ok hN f3
  have pg := hg s3 (upd H2 D (.lst [])) s3.heap.objs.size (cellsFrom (s3.heap.objs.size + 1) scope.names (cloFrom X.env.cells scope.names [])) fp
  have pe := he s3 (upd H2 D (.lst [])) s3.heap.objs.size (cellsFrom (s3.heap.objs.size + 1) scope.names (cloFrom X.env.cells scope.names [])) fp
  show codeAny _ _ (.compStart (.ListComp elt [⟨tg, iter, [], 0⟩] scope pos) 0 (.ref it) (.ref D) (compEnvC scope (cellsFrom (s3.heap.objs.size + 1) scope.names (cloFrom X.env.cells scope.names [])) s3.heap.objs.size X.env)) (compPost (model X.prog X.w) X.A X.xe use Qf (.ref D) s3.heap.objs.size) { s3 with heap := pushCells (s3.heap.push { cls := .type "dict", data := .dict #[] }) scope.names }
  have nfp : ∀ b ∈ fp, (upd H2 D (.lst [])) b = none := fun b hb => (f3 b hb).1.1
  generalize hce : compEnvC scope (cellsFrom (s3.heap.objs.size + 1) scope.names (cloFrom X.env.cells scope.names [])) s3.heap.objs.size X.env = ce at I4 pg pe ⊢
  have cL : ce.locals = s3.heap.objs.size := by subst hce; rfl
  have cF : ce.frame = X.env.frame := by subst hce; rfl
  generalize hH3 : upd H2 D (.lst []) = H3 at I3 I4 pg pe w0 nfp f3
  have hfl := flies_blk (R := R) (E := E) (use := use) (Qf := Qf) (D := D) (scope := scope) hf I3 hst cF cL f3
  have pg := pg (blkE X ce use Qf D s3.heap.objs.size)
  have pe := pe _ hfl
  generalize hs4 : ({ s3 with heap := pushCells (s3.heap.push { cls := .type "dict", data := .dict #[] }) scope.names } : Shared) = s4 at I4 ⊢
  have st4 : tn 0 s4.heap := T.keep _ _ _ st3 fun b _ o e => by rw [← hs4]; exact pushCells_keeps _ _ _ _ (Heap.get?_push_of_some _ e)
  have stat : ∀ {σ' : L2.St} {H' : Hp} {s' : Shared}, Inv (X.blk s3 H3 scope ce fp) [] σ' H' s' → (∀ b ∈ fp, H' b = none) → ∀ b ∈ fp, FpOk (X.blk s3 H3 scope ce fp) [] H' b := fun {σ' H' s'} I' hn b hb =>
    ⟨hn b hb, (I'.ok.exf b hb).1, I'.ok.exfs b hb, .inl hb, fun x c e => (I'.ok.exf b hb).2 x c e, fun p hp => absurd (show p ∈ ([] : List (Addr × Obj)) ++ [] from hp) (by simp)⟩
  have loop : codeAny (model X.prog X.w) X.A (.compLoop (.ListComp elt [⟨tg, iter, [], 0⟩] scope pos) 0 (.ref it) (.ref D) ce) (compPost (model X.prog X.w) X.A X.xe use Qf (.ref D) s3.heap.objs.size) s4 := by
    refine compLoop_any (fun n s' => ∃ i H', Inv (X.blk s3 H3 scope ce fp) [] (wipe σ (own.map (·.2))) H' s' ∧ tn i s'.heap ∧ (∀ b ∈ fp, H' b = none) ∧ W i n H') ?_ m0 ⟨0, H3, I4, st4, nfp, w0⟩
    rintro n s5 ⟨i, H5, I5, st5, n5, w5⟩
    rcases turn i n H5 w5 with ⟨stop, qq⟩ | ⟨go, Nx, hNx, step⟩
    · have td := T.done (X.blk s3 H3 scope ce fp) rfl rfl rfl hc i [] s5 _ H5 (fun _ _ => False) I5 (stat I5 n5) st5 stop
      refine thnF td fun r s6 ⟨hr, I6⟩ => ?_
      subst hr
      have I7 : Inv X pins σ H5 s6 := I3.call' (ch := fp) I6.os I6.base I6.hok I6.bare fun b hb => ⟨(f3 b hb).1.2.2.2.1, (f3 b hb).1.2.1, (f3 b hb).1.2.2.2.2.1, (f3 b hb).1.2.2.2.2.2⟩
      have nC : H5 s3.heap.objs.size = none := by
        have z : H5 ce.locals = none := I6.free
        rw [cL] at z
        exact z
      obtain ⟨m, hn, _⟩ := I6.loc
      have hn : s6.heap.Ns ce.locals m := hn
      rw [cL] at hn
      exact hRR D s3.heap.objs.size s6 m H5 I7 qq hn (I3.fpOk (Nat.le_refl _) nC)
    · have ti := T.item (X.blk s3 H3 scope ce fp) rfl rfl rfl hc i [] s5 _ H5 (fun _ _ => False) I5 (stat I5 n5) st5 go
      refine thnF ti fun r s6 ⟨u, hr, h6⟩ => ?_
      subst hr
      refine thnF h6 fun _ s7 ⟨x, H7, I7, r7, y7, st7, n7⟩ => ?_
      have I7' := I7.pinned (stat I7 n7) (T.obj _ _ st7)
      refine wpAny_mono (pg _ s7 _ H7 x u _ (I7'.wish _) r7 (step x H7 y7)) (fun _ s8 ⟨σ8, H8, I8, hw8, q8⟩ => ?_) fun _ _ z => z
      refine wpAny_tests_nil ?_
      change (if true = true then te σ8 H8 _ else Nx H8) at q8
      rw [if_pos rfl] at q8
      rw [if_pos rfl]
      have fin : ∀ {s' : Shared} {H' : Hp}, Inv (X.blk s3 H3 scope ce fp) ([] ++ pinsAt fp s7.heap) σ8 H' s' → Nx H' → ∃ m, m < n ∧ ∃ i H', Inv (X.blk s3 H3 scope ce fp) [] (wipe σ (own.map (·.2))) H' s' ∧ tn i s'.heap ∧ (∀ b ∈ fp, H' b = none) ∧ W i m H' := fun {s' H'} I' nx => by
        obtain ⟨m', hm, w'⟩ := hNx H' nx
        have pin' : ∀ b ∈ fp, ∀ o, s7.heap.get? b = some o → s'.heap.get? b = some o ∧ H' b = none := fun b hb o e =>
          let z := I'.pin (b, o) (List.mem_append_right _ (List.mem_append_right _ (mem_pinsAt hb e)))
          ⟨z.1, z.2.1⟩
        have hl : (wipe σ (own.map (·.2))).length = σ8.length := by rw [← hw8, wipe_length]
        refine ⟨m', hm, i + 1, H', (I'.unpinned (pins := [])).weak hl (fun j v e => ?_), T.keep _ _ _ st7 fun b hb o e => (pin' b hb o e).1, fun b hb => ?_, w'⟩
        · rw [← hw8] at e
          exact (wipe_some e).1
        · obtain ⟨o, e, _⟩ := T.obj _ _ st7 b hb
          exact (pin' b hb o e).2
      refine wpAny_mono (pe _ s8 σ8 H8 _ I8 q8) (fun z s10 ⟨yv, H10, I10, r10, acc, hD10, hz10, nx⟩ => ?_) fun _ _ z => z
      exact app_ok (X := X.blk s3 H3 scope ce fp) I10.unwish hD10 hz10 r10 fun s11 I11 => fin I11 nx
  exact codeAny_compStart_list loop (T.self X.A 0 _ _ _ st4 loop)
/-- [element for target in iter], the element may raise -/
theorem pe_lcX {elt tg iter : Expr} {scope : Scope} {own : List (Str × Nat)} {pos : Pos} {wi : TI} {g : TG} {te : TE} (hc : X.calm = true) (hf : Flies R X E) (hN : X.N.Nodup) (hi : PI X tg iter wi) (ok : BlkOk X.N X.env.scope scope own)
    (hg : ∀ (s : Shared) (H : Hp) (C : Addr) (cl : List (Str × Addr)) (fp : List Addr) (xe : Value → Shared → Prop), PG ((X.blk s H scope (compEnvC scope cl C X.env) fp).wish xe) tg g)
    (he : ∀ (s : Shared) (H : Hp) (C : Addr) (cl : List (Str × Addr)) (fp : List Addr) (xe : Value → Shared → Prop), Flies R ((X.blk s H scope (compEnvC scope cl C X.env) fp).wish xe) E → PE ((X.blk s H scope (compEnvC scope cl C X.env) fp).wish xe) elt te)
    (hst : ∃ env outer L, X.stack = env :: outer ∧ env.frame = X.env.frame ∧ X.env.frame = some L := by exact ⟨_, _, _, rfl, rfl, rfl⟩) (hs : ∀ x, foldedSetIterable iter X.env x = pure x := by intro _; rfl) :
    PE X (.ListComp elt [⟨tg, iter, [], 0⟩] scope pos) (tLc wi g tYes te (own.map (·.2))) := by
  intro pins s σ H Q I h
  rw [eval_ListComp]
  refine lcX_core hc hf hst hN I hi ok hg he hs h fun D C s' m H' I' q hn f => ⟨m, hn, fun h'' sb => ?_⟩
  obtain ⟨f0, f1, f2, f3, f4, f5⟩ := f
  exact ⟨.ref D, H', I'.turned (t' := s'.toks) (fun b o hb e => (sb.2 b hb).trans e) f0 f1 f3 f4 f5, rfl, q⟩
end
end Bm
end

section
set_option linter.all false
set_option maxRecDepth 100000
set_option maxHeartbeats 4000000
namespace Bm
open PySem PySem.Spec PyProof.Rows L2
theorem small_up {a b c : Int} (ha : 0 ≤ a) (hb : b < 2 ^ 20) (ha' : a < 2 ^ 20) (hb' : 0 ≤ b) (hc : 0 < c) (hc' : c < 2 ^ 20) : Builtin.Range.small a b c = true := by
  have hz : Builtin.Range.rangeSize a b c ≤ 2 ^ 20 + 1 ∧ 0 ≤ Builtin.Range.rangeSize a b c := by
    unfold Builtin.Range.rangeSize
    rw [if_pos hc]
    split
    · have h1 : (b - a - 1) / c ≤ b - a - 1 := Int.ediv_le_self _ (by omega)
      have h2 : 0 ≤ (b - a - 1) / c := Int.ediv_nonneg (by omega) (by omega)
      omega
    · omega
  have hm : 0 ≤ Builtin.Range.rangeSize a b c * c ∧ Builtin.Range.rangeSize a b c * c ≤ (2 ^ 20 + 1) * 2 ^ 20 :=
    ⟨Int.mul_nonneg hz.2 (by omega), Int.le_trans (Int.mul_le_mul_of_nonneg_left (show c ≤ 2 ^ 20 by omega) hz.2) (Int.mul_le_mul_of_nonneg_right hz.1 (by decide))⟩
  unfold Builtin.Range.small
  simp only [Builtin.Range.rangeFitsLong, Bool.and_eq_true, Bool.or_eq_true, decide_eq_true_eq, beq_iff_eq, hc, if_true]
  generalize Builtin.Range.rangeSize a b c = z at *
  generalize z * c = y at *
  omega
theorem size_up {m k : Nat} (hk : 0 < k) : Builtin.Range.rangeSize 0 ((m * k : Nat) : Int) (k : Int) = (m : Int) := by
  unfold Builtin.Range.rangeSize
  rw [if_pos (by omega)]
  by_cases h : m = 0
  · subst h; simp
  · have hp : 0 < m * k := Nat.mul_pos (by omega) hk
    rw [if_pos (by omega)]
    have e : ((m * k : Nat) : Int) - 0 - 1 = ((m * k - 1 : Nat) : Int) := by omega
    rw [e, ← Int.natCast_ediv]
    have : (m * k - 1) / k = m - 1 := by
      refine Nat.div_eq_of_lt_le ?_ ?_
      · rw [Nat.sub_mul, Nat.one_mul]; omega
      · rw [show m - 1 + 1 = m by omega]; omega
    rw [this]
    omega
theorem lc_rangeC {lo c : Int} {n : Nat} {g : TG} {tt : TT} {te : TE} {vs : List Nat} {σ : L2.St} {H1 : Hp} {D : Addr} {Qd : Hp → Prop} (Pv : Nat → Hp → Prop) (h0 : Pv 0 (upd H1 D (.lst [])))
    (hs : ∀ i H, i < n → Pv i H → g (.int (lo + (i : Nat) * c)) (wipe σ vs) H fun σ2 H2 => wipe σ2 vs = wipe σ vs ∧ tt σ2 H2 fun b H3 =>
      if b = true then te σ2 H3 fun y H4 => ∃ acc, H4 D = some (.lst acc) ∧ acc.length < sizeLine ∧ Pv (i + 1) (upd H4 D (.lst (acc ++ [y]))) else Pv (i + 1) H3) (hd : ∀ H, Pv n H → Qd H) :
    ∃ W : Nat → Nat → Hp → Prop, (∃ m, W 0 m (upd H1 D (.lst []))) ∧ ∀ i m H, W i m H →
      ((Itc lo c n).stop i H ∧ Qd H) ∨ ((Itc lo c n).go i H ∧ ∃ Nx : Hp → Prop, (∀ H', Nx H' → ∃ m', m' < m ∧ W (i + 1) m' H') ∧ ∀ x H', (Itc lo c n).yld i H x H' → g x (wipe σ vs) H' fun σ2 H2 => wipe σ2 vs = wipe σ vs ∧ tt σ2 H2 fun b H3 =>
        if b = true then te σ2 H3 fun y H4 => ∃ acc, H4 D = some (.lst acc) ∧ acc.length < sizeLine ∧ Nx (upd H4 D (.lst (acc ++ [y]))) else Nx H3) := by
  refine ⟨fun i m H => m = n - i ∧ i ≤ n ∧ Pv i H, ⟨n, by simp, Nat.zero_le _, h0⟩, ?_⟩
  rintro i m H ⟨rfl, hi, p⟩
  by_cases hlt : i < n
  · refine .inr ⟨hlt, Pv (i + 1), fun H' p' => ⟨n - (i + 1), by omega, rfl, hlt, p'⟩, fun x H' y => ?_⟩
    obtain ⟨e, y⟩ := y
    subst e y
    exact hs i _ hlt p
  · have e : i = n := by omega
    subst e
    exact .inl ⟨Nat.le_refl _, hd H p⟩
def stepV (xs : List V) (k c : Nat) : List V := (List.range ((xs.length - k + c - 1) / c)).filterMap fun j => xs[k + c * j]?
theorem vals_pick {xs : List V} {its : List Value} (r : Vals xs its) : ∀ ix : List Nat, Vals (ix.filterMap (xs[·]?)) (ix.filterMap (its[·]?))
  | [] => .nil
  | i :: ix => by
    rw [List.filterMap_cons, List.filterMap_cons]
    cases e : xs[i]? with
    | none =>
      rw [r.none_of e]
      exact vals_pick r ix
    | some x =>
      obtain ⟨u, hu, ru⟩ := r.get e
      rw [hu]
      exact .cons ru (vals_pick r ix)
theorem pick_step (n k c : Nat) (hc : 0 < c) : sliceRange (sliceBounds (some (k : Int)) none (some (c : Int)) n).1 (sliceBounds (some (k : Int)) none (some (c : Int)) n).2.1 (sliceBounds (some (k : Int)) none (some (c : Int)) n).2.2 = (List.range ((n - k + c - 1) / c)).map fun j => min k n + c * j := by
  have hc' : (c : Int) > 0 := by omega
  unfold sliceBounds sliceRange
  simp only [Option.getD_some, hc', if_true, show ¬ ((k : Int) < 0) by omega, if_false]
  have e1 : max 0 (min (k : Int) (n : Int)) = ((min k n : Nat) : Int) := by omega
  rw [e1]
  have e2 : (if ((min k n : Nat) : Int) < (n : Int) then ((n : Int) - ((min k n : Nat) : Int) + (c : Int) - 1) / (c : Int) else 0) = (((n - k + c - 1) / c : Nat) : Int) := by
    by_cases h : k < n
    · rw [if_pos (by omega), show (n : Int) - ((min k n : Nat) : Int) + (c : Int) - 1 = ((n - k + c - 1 : Nat) : Int) by omega, ← Int.natCast_ediv]
    · rw [if_neg (by omega), show n - k + c - 1 = c - 1 by omega, Nat.div_eq_of_lt (by omega)]
      rfl
  rw [e2, Int.toNat_natCast]
  refine List.map_congr_left fun j _ => ?_
  rw [← Int.natCast_mul, ← Int.natCast_add, Int.toNat_natCast]
theorem stepV_pick (xs : List V) (k c : Nat) (hk : k ≤ xs.length) : ((List.range ((xs.length - k + c - 1) / c)).map fun j => min k xs.length + c * j).filterMap (xs[·]?) = stepV xs k c := by
  unfold stepV
  rw [List.filterMap_map, show min k xs.length = k by omega]
  rfl
section
variable {X : Cx} {e st : Expr} {te ts : TE} {lo : Option Expr} {tl : TO} {pos p2 : Pos}
def tSl3 (K : PySem.W.Frag) (te : TE) (tl : TO) (ts : TE) : TE := fun σ H Q => te σ H fun x H1 => tl σ H1 fun l H2 => ts σ H2 fun y H3 => ∃ (a : Addr) (xs : List V) (k c : Nat), x = .ref a ∧ SqL K H3 a xs ∧ l = some (k : Int) ∧ y = .int (c : Int) ∧ 0 < c ∧ k ≤ xs.length ∧
  ∀ p, H3 p = none → Q (.ref p) (upd H3 p (.lst (stepV xs k c)))
theorem pe_slice3 (he : PE X e te) (hl : PO X lo tl) (hs : PE X st ts) : PE X (.Subscript e (.Slice lo none (some st) p2) pos) (tSl3 X.K te tl ts) := by
  intro pins s σ H Q I h
  refine Subscript_ (thn (he pins s σ H _ I h) fun v s1 ⟨x, H1, I1, r1, q1⟩ => ?_)
  refine wpAny_Slice (thn (hl pins s1 σ H1 _ I1 q1) fun vl s2 ⟨l, H2, I2, pl, q2⟩ => ?_)
  rw [evalPart_none]
  refine wpAny_pure ?_
  rw [evalPart_some]
  refine thn (hs pins s2 σ H2 _ I2 q2) fun vs s3 ⟨y, H3, I3, ry, q3⟩ => ?_
  obtain ⟨a, xs, k, c, rfl, hx, rfl, rfl, hc, hk, q⟩ := q3
  cases r1
  obtain ⟨t, rfl⟩ := ry
  have I4 : Inv X pins σ H3 { s3 with heap := s3.heap.push { cls := .type "slice", data := .fields #[vl, .none, .int (c : Int) t] } } := I3.kept (t' := s3.toks) fun b ob q => Heap.get?_push_of_some _ q
  obtain ⟨its, r, ht, hz⟩ := I4.list hx
  have hlen := r.length
  show wpAny (model X.prog X.w) X.A (subscriptTail e (.Slice lo none (some st) p2) (.ref a) (.ref s3.heap.objs.size)) (EP X pins σ Q) X.xe { s3 with heap := s3.heap.push { cls := .type "slice", data := .fields #[vl, .none, .int (c : Int) t] } }
  refine tail_any (ops := [.ref a, .ref s3.heap.objs.size]) ht.isList.typeIs slot_list_getitem.lookup ?_ (by with_unfolding_all rfl)
  refine wpAny_getItem_list_slice (lo := some (k : Int)) (hi := none) (st := some (c : Int)) ht.isList (Heap.IsSliceOf.new ..) pl .none (.int (c : Int) t) (by simp; omega) ?_ (by rw [List.size_toArray]; omega)
  unfold slicePick
  rw [List.size_toArray, pick_step _ _ _ hc]
  have rv := vals_pick r ((List.range ((its.length - k + c - 1) / c)).map fun j => min k its.length + c * j)
  rw [← hlen, stepV_pick xs k c hk] at rv
  have hle : (stepV xs k c).length ≤ sizeLine := by
    unfold stepV
    refine Nat.le_trans (List.length_filterMap_le _ _) ?_
    rw [List.length_range]
    have : (xs.length - k + c - 1) / c ≤ xs.length := by
      rw [Nat.div_le_iff_le_mul_add_pred hc]
      have : xs.length * 1 ≤ xs.length * c := Nat.mul_le_mul_left _ hc
      rw [Nat.mul_comm c]
      omega
    omega
  refine ⟨.ref _, _, I4.laid (t' := s3.toks) (o := .lst (stepV xs k c)) (fun b ob q => Heap.get?_push_of_some _ q) (Nat.le_refl _) ?_, rfl, q _ (I4.hok.fresh (Nat.le_refl _))⟩
  refine ⟨hle, _, 0, rv, ?_⟩
  rw [hlen]
  have e2 : (fun x : Nat => its.toArray[x]?) = fun x : Nat => its[x]? := by funext x; simp
  rw [e2]
  exact Heap.get?_push_size _ rfl
theorem pe_slice3K {K : PySem.W.Frag} (hK : X.K = K) (he : PE X e te) (hl : PO X lo tl) (hs : PE X st ts) : PE X (.Subscript e (.Slice lo none (some st) p2) pos) (tSl3 K te tl ts) := hK ▸ pe_slice3 he hl hs
end
end Bm
end

section
set_option linter.all false
set_option maxRecDepth 100000
set_option maxHeartbeats 4000000
namespace Bm
open PySem PySem.Spec PyProof.Rows L2
open Kg26 (at_)
theorem nodup_set {α : Type} : ∀ {l : List α} {i : Nat} {x : α}, l.Nodup → x ∉ l → (l.set i x).Nodup
  | [], _, _, h, _ => h
  | a :: l, 0, x, h, hx => List.nodup_cons.mpr ⟨fun m => hx (List.mem_cons_of_mem _ m), (List.nodup_cons.mp h).2⟩
  | a :: l, i + 1, x, h, hx => by
    obtain ⟨h1, h2⟩ := List.nodup_cons.mp h
    refine List.nodup_cons.mpr ⟨fun m => ?_, nodup_set h2 fun m => hx (List.mem_cons_of_mem _ m)⟩
    rcases List.mem_or_eq_of_mem_set m with m | m
    · exact h1 m
    · exact hx (m ▸ List.mem_cons_self)
structure Tb (H : Hp) (t : Addr) (ps : List Addr) (rows : List (List Nat)) : Prop where
  top : H t = some (.lst (ps.map V.ref))
  len : ps.length = rows.length
  row : ∀ (i : Nat) (p : Addr), ps[i]? = some p → H p = some (.lst (nv (rows.getD i [])))
  nd : (t :: ps).Nodup
def New (H : Hp) (l : List Addr) : Prop := ∀ p ∈ l, H p = none
section
variable {H H' : Hp} {t D p : Addr} {ps : List Addr} {rows : List (List Nat)} {r : List Nat}
theorem Tb.same (h : Tb H t ps rows) (s : Same H H') : Tb H' t ps rows := ⟨s _ _ h.top, h.len, fun i p e => s _ _ (h.row i p e), h.nd⟩
theorem Tb.get (h : Tb H t ps rows) {i : Nat} (hi : i < rows.length) : ∃ p, ps[i]? = some p ∧ H p = some (.lst (nv (rows.getD i []))) :=
  have e : ps[i]? = some (ps[i]'(by rw [h.len]; exact hi)) := List.getElem?_eq_getElem _
  ⟨_, e, h.row i _ e⟩
/-- the i-th row as it is read -/
theorem Tb.ix (h : Tb H t ps rows) {z : Int} {i : Nat} (e : z = (i : Int)) (hi : i < rows.length) : ∃ p, atI (ps.map V.ref) z = some (.ref p) ∧ ps[i]? = some p ∧ H p = some (.lst (nv (rows.getD i []))) := by
  obtain ⟨p, h1, h2⟩ := h.get hi
  exact ⟨p, at_of e (by rw [List.getElem?_map, h1]; rfl), h1, h2⟩
theorem tb_nil (hD : H D = none) : Same H (upd H D (.lst [])) ∧ New H [D] ∧ Tb (upd H D (.lst [])) D [] [] :=
  ⟨same_upd hD, fun p hp => by rw [List.mem_singleton.mp hp]; exact hD, upd_same, rfl, fun i p e => by simp at e, by simp⟩
/-- a row more -/
theorem tb_push {l : List V} (s1 : Same H H') (nw : New H (D :: ps)) (T : Tb H' D ps rows) (hp : H' p = none) (hl : l = nv r) (hlen : ps.length < sizeLine) :
    ∃ acc, (upd H' p (.lst l)) D = some (.lst acc) ∧ acc.length < sizeLine ∧ ∃ ps', Same H (upd (upd H' p (.lst l)) D (.lst (acc ++ [.ref p]))) ∧ New H (D :: ps') ∧ Tb (upd (upd H' p (.lst l)) D (.lst (acc ++ [.ref p]))) D ps' (rows ++ [r]) := by
  subst hl
  have nDp : D ≠ p := ne_of_none T.top hp
  have nd := List.nodup_cons.mp T.nd
  have nps : ∀ (i : Nat) (q : Addr), ps[i]? = some q → q ≠ p ∧ q ≠ D := fun i q e => ⟨ne_of_none (T.row i q e) hp, fun z => nd.1 (z ▸ List.mem_of_getElem? e)⟩
  refine ⟨ps.map V.ref, by rw [upd_ne nDp]; exact T.top, by rw [List.length_map]; exact hlen, ps ++ [p], fun b o e => ?_, fun q hq => ?_, ?_, by rw [List.length_append, List.length_append, T.len]; rfl, fun i q e => ?_, ?_⟩
  · have hb : b ≠ D := ne_of_none e (nw D List.mem_cons_self)
    have e' := s1 b o e
    rw [upd_ne hb, upd_ne (ne_of_none e' hp)]
    exact e'
  · rcases List.mem_cons.mp hq with rfl | hq
    · exact nw _ List.mem_cons_self
    · rcases List.mem_append.mp hq with hq | hq
      · exact nw q (List.mem_cons_of_mem _ hq)
      · rw [List.mem_singleton.mp hq]
        exact s1.free hp
  · rw [upd_same, List.map_append]
    rfl
  · rw [List.getElem?_append] at e
    split at e
    · rename_i hi
      obtain ⟨n1, n2⟩ := nps i q e
      rw [upd_ne n2, upd_ne n1, T.row i q e, List.getD_eq_getElem?_getD, List.getD_eq_getElem?_getD, List.getElem?_append_left (by rw [← T.len]; exact hi)]
    · rename_i hi
      have hi2 : i - ps.length = 0 := by
        cases q2 : i - ps.length with
        | zero => rfl
        | succ j => rw [q2] at e; simp at e
      rw [hi2] at e
      have e' : p = q := by simpa using e
      subst e'
      have hi3 : i = rows.length := by rw [← T.len]; omega
      rw [upd_ne (Ne.symm nDp), upd_same, List.getD_eq_getElem?_getD, hi3, List.getElem?_append_right (Nat.le_refl _)]
      simp
  · refine List.nodup_cons.mpr ⟨fun hm => ?_, nd_snoc nd.2 fun hm => ?_⟩
    · rcases List.mem_append.mp hm with hm | hm
      · exact nd.1 hm
      · exact nDp (List.mem_singleton.mp hm)
    · obtain ⟨i, hi⟩ := List.getElem?_of_mem hm
      exact (nps i p hi).1 rfl
/-- a row is written -/
theorem Tb.set (T : Tb H t ps rows) {i : Nat} (hi : ps[i]? = some p) (r : List Nat) : Tb (upd H p (.lst (nv r))) t ps (rows.set i r) := by
  have nd := List.nodup_cons.mp T.nd
  have npt : t ≠ p := fun z => nd.1 (z ▸ List.mem_of_getElem? hi)
  have hil : i < rows.length := by rw [← T.len]; exact (List.getElem?_eq_some_iff.mp hi).1
  refine ⟨by rw [upd_ne npt]; exact T.top, by rw [List.length_set]; exact T.len, fun j q e => ?_, T.nd⟩
  by_cases c : q = p
  · subst c
    have : i = j := nd_ix nd.2 hi e
    subst this
    rw [upd_same, List.getD_eq_getElem?_getD, List.getElem?_set_self hil]
    rfl
  · rw [upd_ne c, T.row j q e, List.getD_eq_getElem?_getD, List.getD_eq_getElem?_getD]
    by_cases c2 : i = j
    · subst c2
      rw [hi] at e
      exact absurd (Option.some.inj e).symm c
    · rw [List.getElem?_set_ne c2]
/-- a row is exchanged for a new one -/
theorem Tb.put (T : Tb H t ps rows) {i : Nat} (hi : i < rows.length) (hp : p ∉ t :: ps) {r : List Nat} (hr : H p = some (.lst (nv r))) : Tb (upd H t (.lst ((ps.set i p).map V.ref))) t (ps.set i p) (rows.set i r) := by
  have nd := List.nodup_cons.mp T.nd
  have npt : p ≠ t := fun z => hp (z ▸ List.mem_cons_self)
  have hpp : p ∉ ps := fun z => hp (List.mem_cons_of_mem _ z)
  have hil : i < ps.length := by rw [T.len]; exact hi
  refine ⟨upd_same, by rw [List.length_set, List.length_set]; exact T.len, fun j q e => ?_, ?_⟩
  · by_cases c2 : i = j
    · subst c2
      rw [List.getElem?_set_self hil] at e
      cases e
      rw [upd_ne npt, hr, List.getD_eq_getElem?_getD, List.getElem?_set_self hi]
      rfl
    · rw [List.getElem?_set_ne c2] at e
      have nq : q ≠ t := fun z => nd.1 (z ▸ List.mem_of_getElem? e)
      rw [upd_ne nq, T.row j q e, List.getD_eq_getElem?_getD, List.getD_eq_getElem?_getD, List.getElem?_set_ne c2]
  · refine List.nodup_cons.mpr ⟨fun hm => ?_, ?_⟩
    · rcases List.mem_or_eq_of_mem_set hm with hm | hm
      · exact nd.1 hm
      · exact npt hm.symm
    · exact nodup_set nd.2 hpp
end
theorem nv_append (a b : List Nat) : nv (a ++ b) = nv a ++ nv b := List.map_append
theorem nv_drop (n : Nat) (a : List Nat) : (nv a).drop n = nv (a.drop n) := by unfold nv; rw [List.map_drop]
theorem nv_take (n : Nat) (a : List Nat) : (nv a).take n = nv (a.take n) := by unfold nv; rw [List.map_take]
theorem cut_nat (xs : List Nat) {lo hi : Int} {i j : Nat} (e1 : lo = (i : Int)) (e2 : hi = (j : Int)) (hi' : i ≤ j) (hj : j ≤ xs.length) : cutV (nv xs) (some lo) (some hi) = nv ((xs.drop i).take (j - i)) := by
  unfold cutV
  rw [e1, e2, HT.sIx_nat, HT.sIx_nat, nv_len, Nat.min_eq_left hj, Nat.min_eq_left (Nat.le_trans hi' hj), nv_drop, nv_take]
theorem cut_row {xs : List Nat} {lo hi : Int} {m k i : Nat} (hl : xs.length = m * k) (hi' : i < m) (e1 : lo = ((i * k : Nat) : Int)) (e2 : hi = ((i * k + k : Nat) : Int)) : cutV (nv xs) (some lo) (some hi) = nv (rowAt xs k i) := by
  have h1 : i * k + k ≤ xs.length := by
    rw [hl, ← Nat.succ_mul]
    exact Nat.mul_le_mul_right _ hi'
  rw [cut_nat xs e1 e2 (Nat.le_add_right _ _) h1, show i * k + k - i * k = k by omega, row_slice h1]
theorem fm_some {α β : Type} {f : α → Option β} {g : α → β} : ∀ {l : List α}, (∀ x ∈ l, f x = some (g x)) → l.filterMap f = l.map g
  | [], _ => rfl
  | a :: l, h => by rw [List.filterMap_cons, h a List.mem_cons_self, List.map_cons, fm_some fun x hx => h x (List.mem_cons_of_mem _ hx)]
theorem step_col {xs : List Nat} {m k j : Nat} (hl : xs.length = m * k) (hj : j < k) : stepV (nv xs) j k = nv (colAt xs k m j) := by
  unfold stepV colAt nv
  rw [List.length_map, hl, List.map_map]
  have e : (m * k - j + k - 1) / k = m := by
    by_cases hm : m = 0
    · subst hm
      rw [Nat.div_eq_of_lt (by omega)]
    · have hp : k ≤ m * k := Nat.le_mul_of_pos_left _ (by omega)
      refine Nat.div_eq_of_lt_le (by omega) ?_
      rw [Nat.succ_mul]
      omega
  rw [e]
  refine fm_some fun x hx => ?_
  have hx' := List.mem_range.mp hx
  have hlt : j + k * x < xs.length := by
    rw [hl]
    have : k * x + k ≤ k * m := by rw [← Nat.mul_succ]; exact Nat.mul_le_mul_left _ hx'
    rw [Nat.mul_comm m k]
    omega
  have := nv_get (xs := xs) hlt
  unfold nv at this
  rw [this, show j + k * x = x * k + j by rw [Nat.mul_comm]; omega]
  rfl
theorem getD_range {α : Type} {f : Nat → List α} {n i : Nat} (h : i < n) : ((List.range n).map f).getD i [] = f i := by
  rw [List.getD_eq_getElem?_getD, List.getElem?_map, List.getElem?_range h]
  rfl
theorem div_at {i j k : Nat} (h : j < k) : (i * k + j) / k = i := by
  rw [Nat.mul_comm, Nat.mul_add_div (by omega), Nat.div_eq_of_lt h, Nat.add_zero]
theorem mod_at {i j k : Nat} (h : j < k) : (i * k + j) % k = j := by
  rw [Nat.mul_comm, Nat.mul_add_mod, Nat.mod_eq_of_lt h]
theorem cell_lt {i j n k : Nat} (hi : i < n) (hj : j < k) : i * k + j < n * k := by
  have : i * k + k ≤ n * k := by rw [← Nat.succ_mul]; exact Nat.mul_le_mul_right _ hi
  omega
theorem finite_map {f : Nat → Nat} {n : Nat} (h : ∀ i, i < n → Kg26.fin (f i) = true) : Kg26.finite ((List.range n).map f) = true := by
  refine List.all_eq_true.mpr fun x hx => ?_
  obtain ⟨i, hi, rfl⟩ := List.mem_map.mp hx
  exact h i (List.mem_range.mp hi)
theorem out_eq (out : List Nat) : [V.int 0] ++ nv out = ((0 : Int) :: out.map (fun c : Nat => (c : Int))).map V.int := by
  unfold nv
  rw [List.map_cons, List.map_map]
  rfl
theorem ixN_nat {n j : Nat} {z : Int} (e : z = (j : Int)) (h : j < n) : ixN n z = some j := by
  unfold ixN
  rw [e, if_pos (by omega), if_pos (by omega), Int.toNat_natCast]
theorem set_nv {xs : List Nat} (j : Nat) (c : Nat) : (nv xs).set j (.int (c : Int)) = nv (xs.set j c) := by
  unfold nv
  rw [List.map_set]
end Bm
end

section
set_option linter.all false
namespace Bm
open Kg26
def foldO {α : Type} (f : α → Nat → Option α) (a : α) (i : Nat) : Option α := (List.range i).foldl (fun x i => x.bind fun x => f x i) (some a)
section
variable {α : Type} {f : α → Nat → Option α} {a : α}
theorem foldO_succ (i : Nat) : foldO f a (i + 1) = (foldO f a i).bind fun x => f x i := by
  unfold foldO
  rw [List.range_succ, List.foldl_append]
  rfl
theorem foldO_none {i : Nat} (h : foldO f a i = none) : ∀ {n : Nat}, i ≤ n → foldO f a n = none := by
  intro n
  induction n with
  | zero => intro q; obtain rfl : i = 0 := by omega
            exact h
  | succ n ih =>
    intro q
    by_cases e : i = n + 1
    · subst e; exact h
    · rw [foldO_succ, ih (by omega)]; rfl
end
theorem rowAt_len (a : List Nat) (n i : Nat) : (rowAt a n i).length = n := by unfold rowAt; rw [List.length_map, List.length_range]
theorem rowAt_at {a : List Nat} {n i j : Nat} (h : j < n) : at_ (rowAt a n i) j = at_ a (i * n + j) := by
  unfold rowAt at_
  rw [List.getD_eq_getElem?_getD, List.getElem?_map, List.getElem?_range h]
  rfl
theorem rows_get {a : List Nat} {n m i : Nat} (h : i < m) : ((List.range m).map (rowAt a n)).getD i [] = rowAt a n i := by
  rw [List.getD_eq_getElem?_getD, List.getElem?_map, List.getElem?_range h]
  rfl
theorem map_at (y : List Nat) : (List.range y.length).map (fun j => at_ y j) = y := by
  apply List.ext_getElem?
  intro k
  rw [List.getElem?_map]
  by_cases hk : k < y.length
  · rw [List.getElem?_range hk, List.getElem?_eq_getElem hk]
    unfold at_
    rw [Option.map_some, List.getD_eq_getElem?_getD, List.getElem?_eq_getElem hk]
    rfl
  · rw [List.getElem?_eq_none (by rw [List.length_range]; omega), List.getElem?_eq_none (by omega)]; rfl
end Bm
end

section
set_option linter.all false
set_option maxRecDepth 100000
set_option maxHeartbeats 4000000
namespace Bm
open PySem PySem.Spec PyProof.Rows L2
theorem dp_ints {K : PySem.W.Frag} {H : Hp} : ∀ l : List Int, DpAll K H (l.map V.int) (l.map PyData.int)
  | [] => .nil
  | a :: l => .cons (.int a) (dp_ints l)
theorem eqv_ints : ∀ a b : List Int, PyData.eqvAll (a.map .int) (b.map .int) = decide (a = b)
  | [], [] => by simp [PyData.eqvAll]
  | [], _ :: _ => by simp [PyData.eqvAll]
  | _ :: _, [] => by simp [PyData.eqvAll]
  | x :: a, y :: b => by
    rw [List.map_cons, List.map_cons, PyData.eqvAll, eqv_ints a b, PyData.eqv]
    by_cases h1 : x = y <;> by_cases h2 : a = b <;> simp [h1, h2]
theorem lay_ints : ∀ l : List Int, PyData.canLayAll0 (l.map .int) = true
  | [] => by simp [PyData.canLayAll0]
  | a :: l => by rw [List.map_cons, PyData.canLayAll0, lay_ints l, PyData.canLay0]; rfl
theorem deep_ints : ∀ l : List Int, PyData.depthAll (l.map .int) = 0
  | [] => by simp [PyData.depthAll]
  | a :: l => by rw [List.map_cons, PyData.depthAll, deep_ints l, PyData.depth]; rfl
theorem nv_of (xs : List Nat) : nv xs = (xs.map fun x : Nat => (x : Int)).map V.int := by
  unfold nv
  rw [List.map_map]
  rfl
theorem int_inj : ∀ {a b : List Nat}, (a.map fun x : Nat => (x : Int)) = (b.map fun x : Nat => (x : Int)) → a = b
  | [], [], _ => rfl
  | [], _ :: _, h => by cases h
  | _ :: _, [], h => by cases h
  | x :: a, y :: b, h => by
    rw [List.map_cons, List.map_cons] at h
    injection h with h1 h2
    rw [Int.natCast_inj.mp h1, int_inj h2]
/-- tables compared -/
def tdat (rows : List (List Nat)) : List PyData := rows.map fun r => .list ((r.map fun x : Nat => (x : Int)).map .int)
theorem dp_tab {K : PySem.W.Frag} {H : Hp} : ∀ {ps : List Addr} {rows : List (List Nat)}, ps.length = rows.length → (∀ (i : Nat) (p : Addr), ps[i]? = some p → H p = some (.lst (nv (rows.getD i [])))) → DpAll K H (ps.map V.ref) (tdat rows)
  | [], [], _, _ => .nil
  | [], _ :: _, h, _ => by cases h
  | _ :: _, [], h, _ => by cases h
  | p :: ps, r :: rows, h, hr => by
    refine .cons (.lst (SqL.of (hr 0 p rfl)) ?_) (dp_tab (Nat.succ.inj h) fun i q e => hr (i + 1) q e)
    show DpAll K H (nv r) _
    rw [nv_of]
    exact dp_ints _
theorem eqv_tab : ∀ a b : List (List Nat), PyData.eqvAll (tdat a) (tdat b) = decide (a = b)
  | [], [] => by simp [tdat, PyData.eqvAll]
  | [], _ :: _ => by simp [tdat, PyData.eqvAll]
  | _ :: _, [] => by simp [tdat, PyData.eqvAll]
  | x :: a, y :: b => by
    show PyData.eqvAll (PyData.list ((x.map fun x : Nat => (x : Int)).map .int) :: tdat a) (PyData.list ((y.map fun x : Nat => (x : Int)).map .int) :: tdat b) = _
    rw [PyData.eqvAll, eqv_tab a b, PyData.eqv, eqv_ints]
    by_cases h1 : x = y
    · subst h1; by_cases h2 : a = b <;> simp [h2]
    · have : ¬ ((x.map fun x : Nat => (x : Int)) = (y.map fun x : Nat => (x : Int))) := fun z => h1 (int_inj z)
      simp [h1, this]
theorem lay_tab : ∀ a : List (List Nat), PyData.canLayAll0 (tdat a) = true
  | [] => by simp [tdat, PyData.canLayAll0]
  | x :: a => by
    show PyData.canLayAll0 (PyData.list ((x.map fun x : Nat => (x : Int)).map .int) :: tdat a) = _
    rw [PyData.canLayAll0, lay_tab a, PyData.canLay0, lay_ints]; rfl
theorem deep_tab : ∀ a : List (List Nat), PyData.depthAll (tdat a) ≤ 1
  | [] => by simp [tdat, PyData.depthAll]
  | x :: a => by
    show PyData.depthAll (PyData.list ((x.map fun x : Nat => (x : Int)).map .int) :: tdat a) ≤ 1
    have := deep_tab a
    rw [PyData.depthAll, PyData.depth, deep_ints]; omega
theorem shaped_tab (a : List (List Nat)) : SeqAt.shaped (.list (tdat a)) = true := by
  unfold SeqAt.shaped
  rw [PyData.canLay0, lay_tab, PyData.depth]
  have := deep_tab a
  simp
  omega
end Bm
end

section
set_option linter.all false
namespace Bm
open Kg26
def IsRoot (n r : Nat) : Prop := r * r ≤ n ∧ n < (r + 1) * (r + 1)
theorem IsRoot.inj {n r s : Nat} (a : IsRoot n r) (b : IsRoot n s) : r = s := by
  rcases Nat.lt_trichotomy r s with h | h | h
  · have := Nat.mul_le_mul (show r + 1 ≤ s by omega) (show r + 1 ≤ s by omega)
    have := a.2
    have := b.1
    omega
  · exact h
  · have := Nat.mul_le_mul (show s + 1 ≤ r by omega) (show s + 1 ≤ r by omega)
    have := b.2
    have := a.1
    omega
theorem root_fold (n m : Nat) (hn : n < 2 ^ (m + m)) : ∀ i, i ≤ m → let r := (List.range i).foldl (fun r i => let k := r + 2 ^ (m - 1 - i); if k * k ≤ n then k else r) 0
    r * r ≤ n ∧ n < (r + 2 ^ (m - i)) * (r + 2 ^ (m - i)) := by
  intro i
  induction i with
  | zero =>
    intro _
    simp only [List.range_zero, List.foldl_nil, Nat.zero_mul, Nat.zero_add, Nat.sub_zero]
    exact ⟨Nat.zero_le _, by rw [← Nat.pow_add]; exact hn⟩
  | succ i ih =>
    intro hi
    have h := ih (by omega)
    simp only at h ⊢
    rw [List.range_succ, List.foldl_append]
    generalize (List.range i).foldl (fun r i => let k := r + 2 ^ (m - 1 - i); if k * k ≤ n then k else r) 0 = r at h
    simp only [List.foldl_cons, List.foldl_nil]
    have e1 : m - i = (m - (i + 1)) + 1 := by omega
    have e2 : m - 1 - i = m - (i + 1) := by omega
    rw [e1, Nat.pow_succ] at h
    rw [e2]
    generalize 2 ^ (m - (i + 1)) = q at *
    by_cases c : (r + q) * (r + q) ≤ n
    · rw [if_pos c]
      exact ⟨c, by rw [show r + q + q = r + q * 2 by omega]; exact h.2⟩
    · rw [if_neg c]
      exact ⟨h.1, by omega⟩
theorem root_is {n : Nat} (hn : n < 2 ^ 3400) : IsRoot n (root n) := by
  have h := root_fold n 1700 hn 1700 (Nat.le_refl _)
  simp only [Nat.sub_self, Nat.pow_zero] at h
  exact h
/-- one step of the program's own search -/
theorem newton {n g : Nat} (hg : 0 < g) : n < ((g + n / g) / 2 + 1) * ((g + n / g) / 2 + 1) := by
  have h1 : n < g * (n / g + 1) := by
    have := Nat.div_add_mod n g
    have := Nat.mod_lt n hg
    rw [Nat.mul_add]
    omega
  have h2 : g + (n / g + 1) ≤ 2 * ((g + n / g) / 2 + 1) := by omega
  generalize n / g + 1 = q at *
  generalize (g + n / g) / 2 + 1 = b at *
  have h3 : 4 * (g * q) ≤ (g + q) * (g + q) := by
    rcases Nat.le_total g q with c | c
    · obtain ⟨d, rfl⟩ := Nat.exists_eq_add_of_le c
      have : (g + (g + d)) * (g + (g + d)) = 4 * (g * (g + d)) + d * d := by
        simp only [Nat.mul_add, Nat.add_mul]
        rw [Nat.mul_comm d g]
        omega
      omega
    · obtain ⟨d, rfl⟩ := Nat.exists_eq_add_of_le c
      have : (q + d + q) * (q + d + q) = 4 * ((q + d) * q) + d * d := by
        simp only [Nat.mul_add, Nat.add_mul]
        rw [Nat.mul_comm d q]
        omega
      omega
  have h4 := Nat.mul_le_mul h2 h2
  have h5 : 2 * b * (2 * b) = 4 * (b * b) := by
    rw [Nat.mul_mul_mul_comm]
  omega
theorem newton_end {n g : Nat} (hg : 0 < g) (h : ¬ (g + n / g) / 2 < g) : g * g ≤ n := by
  have : g ≤ n / g := by omega
  exact Nat.le_trans (Nat.mul_le_mul_left g this) (Nat.mul_div_le n g)
def rshift (x : Nat) : Nat := 110 + place x % 2
def rsquare (x : Nat) : Nat := whole x * 2 ^ rshift x
def rplace (x : Nat) : Int := ((place x : Int) - (rshift x : Int) + 1074) / 2
def rwhole (x w : Nat) : Nat := if w * w = rsquare x then w else w ||| 1
theorem shift_root {N r w sq e : Nat} (hr : IsRoot N r) (hN : N = sq * (2 ^ e * 2 ^ e)) (hw : IsRoot sq w) : r / 2 ^ e = w ∧ (r * r = N ↔ w * w = sq) ∧ (w * w = sq → r = w * 2 ^ e) := by
  have hp := two_pos e
  generalize 2 ^ e = p at *
  subst hN
  have h1 : w * p ≤ r := by
    rcases Nat.lt_or_ge r (w * p) with c | c
    · have h2 := hr.2
      have h3 := Nat.mul_le_mul (show r + 1 ≤ w * p by omega) (show r + 1 ≤ w * p by omega)
      have h4 : w * p * (w * p) = w * w * (p * p) := Nat.mul_mul_mul_comm _ _ _ _
      have h5 := Nat.mul_le_mul_right (p * p) hw.1
      omega
    · exact c
  have h2 : r < (w + 1) * p := by
    rcases Nat.lt_or_ge r ((w + 1) * p) with c | c
    · exact c
    · have h3 := Nat.mul_le_mul c c
      have h4 : (w + 1) * p * ((w + 1) * p) = (w + 1) * (w + 1) * (p * p) := Nat.mul_mul_mul_comm _ _ _ _
      have h5 := Nat.mul_lt_mul_of_pos_right hw.2 (Nat.mul_pos hp hp)
      have h6 := hr.1
      omega
  have hd : r / p = w := Nat.div_eq_of_lt_le h1 h2
  have hx : w * w = sq → r = w * p := fun h => by
    have h3 : w * p * (w * p) = sq * (p * p) := by rw [Nat.mul_mul_mul_comm, h]
    refine hr.inj ⟨Nat.le_of_eq h3, ?_⟩
    have : w * p * (w * p) < (w * p + 1) * (w * p + 1) := by
      have := Nat.mul_lt_mul'' (Nat.lt_succ_self (w * p)) (Nat.lt_succ_self (w * p))
      exact this
    omega
  refine ⟨hd, ⟨fun h => ?_, fun h => by rw [hx h, Nat.mul_mul_mul_comm, h]⟩, hx⟩
  -- the square is a square
  have hdvd : p * p ∣ r * r := ⟨sq, by rw [h, Nat.mul_comm]⟩
  have hpr : p ∣ r := by
    have := (Nat.pow_dvd_pow_iff (a := p) (b := r) (n := 2) (by decide)).mp (by rw [Nat.pow_two, Nat.pow_two]; exact hdvd)
    exact this
  obtain ⟨q, rfl⟩ := hpr
  have hq : q = w := by rw [← hd, Nat.mul_comm, Nat.mul_div_cancel _ hp]
  subst hq
  have h4 : q * q * (p * p) = sq * (p * p) := by rw [← h, Nat.mul_comm p q, Nat.mul_mul_mul_comm]
  exact Nat.eq_of_mul_eq_mul_right (Nat.mul_pos hp hp) h4
theorem rsquare_lt (x : Nat) : rsquare x < 2 ^ 164 := by
  unfold rsquare rshift
  have h1 := whole_lt x
  have h2 : 2 ^ (110 + place x % 2) ≤ 2 ^ 111 := Nat.pow_le_pow_right (by decide) (by omega)
  calc whole x * 2 ^ (110 + place x % 2) ≤ whole x * 2 ^ 111 := Nat.mul_le_mul_left _ h2
    _ < 2 ^ 53 * 2 ^ 111 := Nat.mul_lt_mul_of_pos_right h1 (two_pos _)
    _ = 2 ^ 164 := by rw [← Nat.pow_add]
theorem rsquare_pos {x : Nat} (h : whole x ≠ 0) : 2 ^ 110 ≤ rsquare x := by
  unfold rsquare rshift
  calc 2 ^ 110 ≤ 1 * 2 ^ (110 + place x % 2) := by rw [Nat.one_mul]; exact Nat.pow_le_pow_right (by decide) (by omega)
    _ ≤ whole x * 2 ^ (110 + place x % 2) := Nat.mul_le_mul_right _ (Nat.pos_of_ne_zero h)
theorem bits_root {r w e : Nat} {s : Nat} (p : Nat) (he : e = p + 100) (hw : 2 ^ 55 ≤ w) (hd : r / 2 ^ e = w) (hs : s = if r = w * 2 ^ e then w else w ||| 1) (h01 : ∀ z : Nat, z = (if r = w * 2 ^ e then 0 else 1) → True) (b : Nat) (hb : b = if r = w * 2 ^ e then 0 else 1) (hex : r = w * 2 ^ e ∨ True) :
    rnd s (p : Int) = bits (2 * r + b) (2 * 2 ^ 100) := by
  have hp := two_pos (e + 1)
  have hdiv : (2 * r + b) / 2 ^ (e + 1) = w := by
    rw [Nat.pow_succ, Nat.mul_comm (2 ^ e) 2, ← Nat.div_div_eq_div_mul]
    have : (2 * r + b) / 2 = r := by
      have hb2 : b < 2 := by rw [hb]; split <;> omega
      omega
    rw [this, hd]
  have hst : sticky (2 * r + b) (2 ^ (e + 1)) = s := by
    unfold sticky
    rw [hdiv]
    by_cases c : r = w * 2 ^ e
    · rw [if_pos c] at hs hb
      subst hb hs
      rw [if_neg]
      intro z
      apply z
      rw [Nat.pow_succ, ← Nat.mul_assoc, ← c]
      omega
    · rw [if_neg c] at hs hb
      subst hb hs
      rw [if_pos]
      intro z
      rw [Nat.pow_succ, ← Nat.mul_assoc] at z
      omega
  rw [← hst]
  refine rnd_sticky hp (by rw [hdiv]; exact hw) (Nat.mul_pos (by decide) (two_pos _)) ?_
  rw [show (-(p : Int)).toNat = 0 by omega, Nat.pow_zero, Nat.mul_one, Int.toNat_natCast, Nat.mul_assoc]
  congr 1
  rw [show 2 * 2 ^ 100 = 2 ^ 101 by rw [Nat.pow_succ 2 100, Nat.mul_comm], ← Nat.pow_add]
  congr 1
  omega
theorem sqrt_key {x w t c : Nat} (ht : t = 537) (hc : c = 100) (fx : place x ≤ 2045) (h0 : whole x ≠ 0) (hw : IsRoot (rsquare x) w) (hn : whole x * 2 ^ place x * 2 ^ (t + t) * 2 ^ (c + c) < 2 ^ 3400) :
    ∀ n, n = whole x * 2 ^ place x * 2 ^ (t + t) * 2 ^ (c + c) → rnd (rwhole x w) (rplace x) = bits (2 * root n + if root n * root n = n then 0 else 1) (2 * 2 ^ 100) := by
  intro n en
  have hr := root_is (n := n) (by rw [en]; exact hn)
  generalize root n = r at hr ⊢
  obtain ⟨p, hp⟩ : ∃ p : Nat, rplace x = (p : Int) := ⟨(rplace x).toNat, by unfold rplace rshift; omega⟩
  have hpe : place x + (t + t) = rshift x + (p + p) := by
    unfold rplace at hp
    unfold rshift at *
    omega
  have hN : n = rsquare x * (2 ^ (p + 100) * 2 ^ (p + 100)) := by
    rw [en]
    unfold rsquare
    rw [Nat.mul_assoc, Nat.mul_assoc, Nat.mul_assoc, ← Nat.pow_add, ← Nat.pow_add, ← Nat.pow_add, ← Nat.pow_add]
    congr 2
    omega
  obtain ⟨a1, a2, a3⟩ := shift_root hr hN hw
  have hwl : 2 ^ 55 ≤ w := by
    rcases Nat.lt_or_ge w (2 ^ 55) with z | z
    · have h1 := Nat.mul_le_mul (show w + 1 ≤ 2 ^ 55 by omega) (show w + 1 ≤ 2 ^ 55 by omega)
      have h2 := hw.2
      have h3 := rsquare_pos h0
      have h4 : 2 ^ 55 * 2 ^ 55 = 2 ^ 110 := by rw [← Nat.pow_add]
      omega
    · exact z
  have hiff : r = w * 2 ^ (p + 100) ↔ w * w = rsquare x := ⟨fun z => by
    refine a2.mp ?_
    rw [hN]
    rw [z] at a2 ⊢
    have q1 := hr.1
    rw [z, hN, Nat.mul_mul_mul_comm] at q1
    have q2 := hr.2
    rw [z, hN] at q2
    rw [Nat.mul_mul_mul_comm]
    have q3 := Nat.le_of_mul_le_mul_right q1 (Nat.mul_pos (two_pos _) (two_pos _))
    rcases Nat.lt_or_eq_of_le q3 with q4 | q4
    · exfalso
      have q5 : (w * w + 1) * (2 ^ (p + 100) * 2 ^ (p + 100)) ≤ rsquare x * (2 ^ (p + 100) * 2 ^ (p + 100)) := Nat.mul_le_mul_right _ q4
      -- (w P + 1)² = w² P² + 2 w P + 1 is beyond; only the exact case can be
      have q6 : w < 2 ^ 82 := by
        rcases Nat.lt_or_ge w (2 ^ 82) with y | y
        · exact y
        · have := Nat.mul_le_mul y y
          have := rsquare_lt x
          have e : 2 ^ 82 * 2 ^ 82 = 2 ^ 164 := by rw [← Nat.pow_add]
          omega
      have q7 : 2 ^ 100 ≤ 2 ^ (p + 100) := Nat.pow_le_pow_right (by decide) (by omega)
      generalize 2 ^ (p + 100) = P at *
      have q8 : (w * P + 1) * (w * P + 1) = w * w * (P * P) + 2 * (w * P) + 1 := by
        rw [Nat.add_mul, Nat.mul_add, Nat.mul_mul_mul_comm]
        omega
      have q9 : 2 * (w * P) + 1 ≤ P * P := by
        have y1 : 2 * w + 1 ≤ P := by omega
        have y2 := Nat.mul_le_mul_right P y1
        rw [Nat.add_mul, Nat.one_mul, Nat.mul_assoc] at y2
        omega
      rw [Nat.add_mul, Nat.one_mul] at q5
      omega
    · rw [q4], a3⟩
  have hW : rwhole x w = if r = w * 2 ^ (p + 100) then w else w ||| 1 := by
    unfold rwhole
    by_cases z : w * w = rsquare x
    · rw [if_pos z, if_pos (hiff.mpr z)]
    · rw [if_neg z, if_neg (fun y => z (hiff.mp y))]
  have hB : (if r * r = n then 0 else 1) = if r = w * 2 ^ (p + 100) then 0 else 1 := by
    by_cases z : w * w = rsquare x
    · rw [if_pos (a2.mpr z), if_pos (hiff.mpr z)]
    · rw [if_neg (fun y => z (a2.mp y)), if_neg (fun y => z (hiff.mp y))]
  rw [hp]
  exact bits_root p rfl hwl a1 hW (fun _ _ => trivial) _ hB (.inr trivial)
theorem sqrt_eq {x w : Nat} (fx : fin x = true) (h0 : rest x ≠ 0) (hneg : ¬ neg x = true) (hw : IsRoot (rsquare x) w) : sqrt x = signed false (rnd (rwhole x w) (rplace x)) := by
  have hx : rest x = x := by
    have : ¬ 2 ^ 63 ≤ x := fun z => hneg (by unfold neg SIGN; exact decide_eq_true z)
    unfold rest SIGN
    omega
  have hwh : whole x ≠ 0 := fun z => h0 (whole_zero.mp z)
  have hu := units_eq x
  rw [hx] at hu
  have hpl := place_le fx
  have hlt : whole x * 2 ^ place x * 2 ^ (537 + 537) * 2 ^ (100 + 100) < 2 ^ 3400 := by
    have h1 := whole_lt x
    have e : ∀ i j k : Nat, whole x * 2 ^ i * 2 ^ j * 2 ^ k = whole x * 2 ^ (i + j + k) := fun i j k => by rw [Nat.pow_add, Nat.pow_add, Nat.mul_assoc, Nat.mul_assoc, Nat.mul_assoc]
    rw [e]
    calc whole x * 2 ^ (place x + (537 + 537) + (100 + 100)) < 2 ^ 53 * 2 ^ (place x + (537 + 537) + (100 + 100)) := Nat.mul_lt_mul_of_pos_right h1 (two_pos _)
      _ = 2 ^ (53 + (place x + (537 + 537) + (100 + 100))) := by rw [← Nat.pow_add]
      _ ≤ 2 ^ 3400 := Nat.pow_le_pow_right (by decide) (by omega)
  have key := sqrt_key rfl rfl hpl hwh hw hlt (units x * ONE * 2 ^ 200) (by rw [hu]; unfold ONE; rfl)
  unfold sqrt
  rw [if_neg h0, if_neg hneg, key]
theorem sqrt_fin {x c : Nat} (fx : fin x = true) (h : sqrt x = some c) : fin c = true := by
  unfold sqrt at h
  split at h
  · cases h; exact fx
  · split at h
    · cases h
    · exact signed_fin h
end Bm
end

section
set_option linter.all false
set_option maxRecDepth 100000
set_option maxHeartbeats 4000000
namespace Bm
open PySem PySem.Spec PyProof.Rows L2
open Kg26 (at_ Ex)
theorem at_set {l : List Nat} {p q v : Nat} (h : p < l.length) : at_ (l.set p v) q = if q = p then v else at_ l q := by
  unfold at_
  rw [List.getD_eq_getElem?_getD, List.getD_eq_getElem?_getD]
  by_cases c : q = p
  · subst c
    rw [if_pos rfl, List.getElem?_set_self h]
    rfl
  · rw [if_neg c, List.getElem?_set_ne (fun z => c z.symm)]
theorem list_ext {a b : List Nat} (hl : a.length = b.length) (h : ∀ i, i < a.length → at_ a i = at_ b i) : a = b := by
  rw [← map_at a, ← map_at b, ← hl]
  exact List.map_congr_left fun i hi => h i (List.mem_range.mp hi)
theorem cell_inj {n i j i' j' : Nat} (hj : j < n) (hj' : j' < n) (h : i * n + j = i' * n + j') : i = i' ∧ j = j' := by
  have h1 := div_at (i := i) hj
  have h2 := div_at (i := i') hj'
  have h3 := mod_at (i := i) hj
  have h4 := mod_at (i := i') hj'
  rw [h] at h1 h3
  exact ⟨h1.symm.trans h2, h3.symm.trans h4⟩
theorem rowAt_set {l : List Nat} {m n r c v i : Nat} (hl : l.length = m * n) (hr : r < m) (hc : c < n) (hi : i < m) : rowAt (l.set (r * n + c) v) n i = if i = r then (rowAt l n r).set c v else rowAt l n i := by
  have hlt : r * n + c < l.length := by rw [hl]; exact cell_lt hr hc
  refine list_ext ?_ fun j hj => ?_
  · rw [rowAt_len]
    split
    · rw [List.length_set, rowAt_len]
    · rw [rowAt_len]
  · rw [rowAt_len] at hj
    rw [rowAt_at hj, at_set hlt]
    by_cases e : i = r
    · subst e
      rw [if_pos rfl, at_set (by rw [rowAt_len]; exact hc), rowAt_at hj]
      by_cases e2 : j = c
      · subst e2; rw [if_pos rfl, if_pos rfl]
      · rw [if_neg e2, if_neg (fun z => e2 (by omega))]
    · rw [if_neg e, if_neg (fun z => e (cell_inj hj hc z).1), rowAt_at hj]
theorem rows_set {l : List Nat} {m n r c v : Nat} (hl : l.length = m * n) (hr : r < m) (hc : c < n) : ((List.range m).map (rowAt l n)).set r ((rowAt l n r).set c v) = (List.range m).map (rowAt (l.set (r * n + c) v) n) := by
  apply List.ext_getElem?
  intro i
  by_cases hi : i < m
  · rw [List.getElem?_map, List.getElem?_range hi, Option.map_some, rowAt_set hl hr hc hi]
    by_cases e : i = r
    · subst e
      rw [if_pos rfl, List.getElem?_set_self (by rw [List.length_map, List.length_range]; exact hi)]
    · rw [if_neg e, List.getElem?_set_ne (fun z => e z.symm), List.getElem?_map, List.getElem?_range hi]
      rfl
  · rw [List.getElem?_eq_none (by rw [List.length_set, List.length_map, List.length_range]; omega), List.getElem?_eq_none (by rw [List.length_map, List.length_range]; omega)]
/-- a row exchanged for another -/
def putRow (l : List Nat) (n r : Nat) (row : List Nat) : List Nat := (List.range l.length).map fun k => if k / n = r then at_ row (k % n) else at_ l k
theorem putRow_len (l : List Nat) (n r : Nat) (row : List Nat) : (putRow l n r row).length = l.length := by unfold putRow; rw [List.length_map, List.length_range]
theorem putRow_at {l row : List Nat} {n r k : Nat} (hk : k < l.length) : at_ (putRow l n r row) k = if k / n = r then at_ row (k % n) else at_ l k := by
  unfold putRow at_
  rw [List.getD_eq_getElem?_getD, List.getElem?_map, List.getElem?_range hk]
  rfl
theorem putRow_row {l row : List Nat} {m n r i : Nat} (hl : l.length = m * n) (hrow : row.length = n) (hi : i < m) : rowAt (putRow l n r row) n i = if i = r then row else rowAt l n i := by
  refine list_ext ?_ fun j hj => ?_
  · rw [rowAt_len]
    split
    · exact hrow.symm
    · rw [rowAt_len]
  · rw [rowAt_len] at hj
    rw [rowAt_at hj, putRow_at (by rw [hl]; exact cell_lt hi hj), div_at hj, mod_at hj]
    by_cases e : i = r
    · rw [if_pos e, if_pos e]
    · rw [if_neg e, if_neg e, rowAt_at hj]
theorem rows_put {l row : List Nat} {m n r : Nat} (hl : l.length = m * n) (hrow : row.length = n) (hr : r < m) : ((List.range m).map (rowAt l n)).set r row = (List.range m).map (rowAt (putRow l n r row) n) := by
  apply List.ext_getElem?
  intro i
  by_cases hi : i < m
  · rw [List.getElem?_map, List.getElem?_range hi, Option.map_some, putRow_row hl hrow hi]
    by_cases e : i = r
    · subst e
      rw [if_pos rfl, List.getElem?_set_self (by rw [List.length_map, List.length_range]; exact hi)]
    · rw [if_neg e, List.getElem?_set_ne (fun z => e z.symm), List.getElem?_map, List.getElem?_range hi]
      rfl
  · rw [List.getElem?_eq_none (by rw [List.length_set, List.length_map, List.length_range]; omega), List.getElem?_eq_none (by rw [List.length_map, List.length_range]; omega)]
theorem table_cells (m n : Nat) (F : Nat → Nat → Option Nat) : Kg26.table m n F = cells (fun k => F (k / n) (k % n)) (m * n) := rfl
theorem cells_all {g : Nat → Option Nat} {h : Nat → Nat} : ∀ {n : Nat}, (∀ t, t < n → g t = some (h t)) → cells g n = some ((List.range n).map h)
  | 0, _ => rfl
  | n + 1, q => by
    rw [cells_succ, cells_all fun t ht => q t (by omega), q n (by omega), List.range_succ, List.map_append]
    rfl
theorem cells_at_none {g : Nat → Option Nat} {t n : Nat} (ht : t < n) (h : g t = none) : cells g n = none :=
  cells_none (t := t + 1) (by rw [cells_succ, h]; cases cells g t <;> rfl) ht
theorem table_is {m n : Nat} {F : Nat → Nat → Option Nat} {l : List Nat} (hl : l.length = m * n) (h : ∀ i j, i < m → j < n → F i j = some (at_ l (i * n + j))) : Kg26.table m n F = some l := by
  rw [table_cells, cells_all (h := at_ l) fun t ht => ?_]
  · rw [← hl, map_at]
  · have hn : 0 < n := by
      rcases Nat.eq_zero_or_pos n with z | z
      · subst z; rw [Nat.mul_zero] at ht; omega
      · exact z
    rw [h _ _ (Nat.div_lt_of_lt_mul (by rw [Nat.mul_comm]; exact ht)) (Nat.mod_lt _ hn)]
    congr 2
    rw [Nat.mul_comm]
    exact Nat.div_add_mod t n
theorem table_none {m n i j : Nat} {F : Nat → Nat → Option Nat} (hi : i < m) (hj : j < n) (h : F i j = none) : Kg26.table m n F = none := by
  rw [table_cells]
  exact cells_at_none (t := i * n + j) (cell_lt hi hj) (by rw [div_at hj, mod_at hj]; exact h)
section
variable {α : Type} {f : α → Nat → Ex α} {a : α}
end
structure TF (H : Hp) (t : Addr) (ps : List Addr) (m n : Nat) (l : List Nat) : Prop where
  tb : Tb H t ps ((List.range m).map (rowAt l n))
  len : l.length = m * n
section
variable {H H' : Hp} {t p : Addr} {ps : List Addr} {m n : Nat} {l : List Nat}
theorem TF.same (h : TF H t ps m n l) (s : Same H H') : TF H' t ps m n l := ⟨h.tb.same s, h.len⟩
theorem TF.plen (h : TF H t ps m n l) : (ps.map V.ref).length = m := by rw [List.length_map, h.tb.len, List.length_map, List.length_range]
theorem TF.ix (h : TF H t ps m n l) {z : Int} {i : Nat} (e : z = (i : Int)) (hi : i < m) : ∃ p, atI (ps.map V.ref) z = some (.ref p) ∧ ps[i]? = some p ∧ H p = some (.lst (nv (rowAt l n i))) := by
  obtain ⟨p, h1, h2, h3⟩ := h.tb.ix e (by rw [List.length_map, List.length_range]; exact hi)
  rw [rows_get hi] at h3
  exact ⟨p, h1, h2, h3⟩
theorem ixr {l : List Nat} {n i j : Nat} {z : Int} (e : z = (j : Int)) (h : j < n) : atI (nv (rowAt l n i)) z = some (.int ((at_ l (i * n + j) : Nat) : Int)) := by
  rw [← rowAt_at h]
  exact ixn e (by rw [rowAt_len]; exact h)
/-- rows[i][j] = v -/
theorem TF.set (h : TF H t ps m n l) {i j v : Nat} (hi : i < m) (hj : j < n) (hp : ps[i]? = some p) : TF (upd H p (.lst ((nv (rowAt l n i)).set j (.int (v : Int))))) t ps m n (l.set (i * n + j) v) := by
  refine ⟨?_, by rw [List.length_set]; exact h.len⟩
  have := h.tb.set hp ((rowAt l n i).set j v)
  rw [rows_set h.len hi hj] at this
  rw [set_nv]
  exact this
/-- rows[i] = row -/
theorem TF.put (h : TF H t ps m n l) {i : Nat} {row : List Nat} (hi : i < m) (hrow : row.length = n) (hp : p ∉ t :: ps) (hr : H p = some (.lst (nv row))) : TF (upd H t (.lst ((ps.set i p).map V.ref))) t (ps.set i p) m n (putRow l n i row) := by
  refine ⟨?_, by rw [putRow_len]; exact h.len⟩
  have := h.tb.put (i := i) (by rw [List.length_map, List.length_range]; exact hi) hp hr
  rw [rows_put h.len hrow hi] at this
  exact this
theorem TF.ne (h : TF H t ps m n l) {i : Nat} (hp : ps[i]? = some p) : p ≠ t := fun z => (List.nodup_cons.mp h.tb.nd).1 (z ▸ List.mem_of_getElem? hp)
end
theorem fin_rowAt {l : List Nat} {m n i : Nat} (hl : l.length = m * n) (hf : Kg26.finite l = true) (hi : i < m) : Kg26.finite (rowAt l n i) = true :=
  finite_map fun x hx => fin_at hf (by rw [hl]; exact cell_lt hi hx)
theorem fin_set {l : List Nat} (hf : Kg26.finite l = true) {v : Nat} (hv : Kg26.fin v = true) (i : Nat) : Kg26.finite (l.set i v) = true := by
  refine List.all_eq_true.mpr fun x hx => ?_
  rcases List.mem_or_eq_of_mem_set hx with h | h
  · exact List.all_eq_true.mp hf x h
  · rw [h]; exact hv
theorem at_rep (n k : Nat) : at_ (List.replicate n 0) k = 0 := by
  unfold at_
  rw [List.getD_eq_getElem?_getD, List.getElem?_replicate]
  split <;> rfl
theorem rep_nv (n : Nat) : (List.replicate n [V.int 0]).flatten = nv (List.replicate n 0) := by
  induction n with
  | zero => rfl
  | succ n ih =>
    rw [List.replicate_succ, List.flatten_cons, ih, List.replicate_succ]
    rfl
theorem colAt_len (b : List Nat) (k m j : Nat) : (colAt b k m j).length = m := by unfold colAt; rw [List.length_map, List.length_range]
theorem colAt_at {b : List Nat} {k m j x : Nat} (h : x < m) : at_ (colAt b k m j) x = at_ b (x * k + j) := by
  unfold colAt at_
  rw [List.getD_eq_getElem?_getD, List.getElem?_map, List.getElem?_range h]
  rfl
theorem sym_iff {l : List Nat} {n : Nat} : (List.range n).map (colAt l n n) = (List.range n).map (rowAt l n) ↔ Kg26.symmetric n l = true := by
  have hs : Kg26.symmetric n l = true ↔ ∀ i j, i < n → j < i → at_ l (i * n + j) = at_ l (j * n + i) := by
    unfold Kg26.symmetric
    rw [List.all_eq_true]
    constructor
    · intro h i j hi hj
      have := List.all_eq_true.mp (h i (List.mem_range.mpr hi)) j (List.mem_range.mpr hj)
      simpa using this
    · intro h i hi
      refine List.all_eq_true.mpr fun j hj => ?_
      have := h i j (List.mem_range.mp hi) (List.mem_range.mp hj)
      simpa using this
  rw [hs]
  constructor
  · intro e i j hi hj
    have h1 : ((List.range n).map (colAt l n n)).getD i [] = ((List.range n).map (rowAt l n)).getD i [] := by rw [e]
    rw [getD_range hi, getD_range hi] at h1
    have h2 : at_ (colAt l n n i) j = at_ (rowAt l n i) j := by rw [h1]
    rw [colAt_at (by omega), rowAt_at (by omega)] at h2
    exact h2.symm
  · intro h
    refine List.map_congr_left fun i hi => ?_
    have hi := List.mem_range.mp hi
    refine list_ext (by rw [colAt_len, rowAt_len]) fun j hj => ?_
    rw [colAt_len] at hj
    rw [colAt_at hj, rowAt_at hj]
    rcases Nat.lt_trichotomy i j with c | c | c
    · exact h j i hj c
    · subst c; rfl
    · exact (h i j hi c).symm
end Bm
end

section
set_option linter.all false
set_option maxRecDepth 100000
set_option maxHeartbeats 4000000
namespace Bm
open PySem PySem.Spec PyProof.Rows L2
open Kg26 (at_ Ex)
theorem Same.upd_out {H H' : Hp} {p : Addr} {o : HO} (s : Same H H') (hp : H p = none) : Same H (upd H' p o) := fun b u e => by
  rw [upd_ne (ne_of_none e hp)]
  exact s b u e
end Bm
end

section
set_option linter.all false
set_option maxRecDepth 100000
set_option maxHeartbeats 4000000
namespace Bm
open PySem PySem.Spec PyProof.Rows L2
open Kg26 (at_)
theorem lc_cells {lo : Int} {n : Nat} {g : TG} {te : TE} {vs : List Nat} {σ : L2.St} {H1 : Hp} {D : Addr} {Qd : Hp → Prop} (G : Nat → Option Nat) (hD : H1 D = none) (hn : n ≤ 1100)
    (hs : ∀ (i : Nat) (H : Hp) (acc : List Nat) (K2 : VK), i < n → Same H1 H → H D = some (.lst (nv acc)) → cells G i = some acc → (∀ c : Nat, G i = some c → ∀ H', Same H1 H' → H' D = some (.lst (nv acc)) → K2 (.int (c : Int)) H') → g (.int (lo + i)) (wipe σ vs) H fun σ2 H2 => wipe σ2 vs = wipe σ vs ∧ te σ2 H2 K2)
    (hd : ∀ acc H', Same H1 H' → H' D = some (.lst (nv acc)) → cells G n = some acc → Qd H')
    (hg : ∀ x σ H A B, (∀ σ2 H2, A σ2 H2 → B σ2 H2) → g x σ H A → g x σ H B) :
    ∃ W : Nat → Nat → Hp → Prop, (∃ m, W 0 m (upd H1 D (.lst []))) ∧ ∀ i m H, W i m H →
      ((Itr lo n).stop i H ∧ Qd H) ∨ ((Itr lo n).go i H ∧ ∃ Nx : Hp → Prop, (∀ H', Nx H' → ∃ m', m' < m ∧ W (i + 1) m' H') ∧ ∀ x H', (Itr lo n).yld i H x H' → g x (wipe σ vs) H' fun σ2 H2 => wipe σ2 vs = wipe σ vs ∧ tYes σ2 H2 fun b H3 =>
        if b = true then te σ2 H3 fun y H4 => ∃ acc, H4 D = some (.lst acc) ∧ acc.length < sizeLine ∧ Nx (upd H4 D (.lst (acc ++ [y]))) else Nx H3) := by
  refine lc_range (fun i H' => ∃ acc, Same H1 H' ∧ H' D = some (.lst (nv acc)) ∧ cells G i = some acc) ⟨[], same_upd hD, upd_same, rfl⟩ ?_ ?_
  · rintro i H' hi ⟨acc, s1, h1, hc⟩
    refine hg _ _ _ _ _ (fun σ2 H2 z => ⟨z.1, z.2⟩) (hs i H' acc (fun y H4 => ∃ acc', H4 D = some (.lst acc') ∧ acc'.length < sizeLine ∧ ∃ acc, Same H1 (upd H4 D (.lst (acc' ++ [y]))) ∧ upd H4 D (.lst (acc' ++ [y])) D = some (.lst (nv acc)) ∧ cells G (i + 1) = some acc) hi s1 h1 hc fun c ec H2 s2 h2 => ⟨nv acc, h2, ?_, acc ++ [c], ?_, ?_, ?_⟩)
    · rw [nv_len, cells_length hc, sizeLine_eq]; omega
    · exact fun b o e => by rw [upd_ne (ne_of_none e hD)]; exact s2 b o e
    · rw [upd_same, nv_append]; rfl
    · rw [cells_succ, hc, Option.bind_some, ec]; rfl
  · rintro H' ⟨acc, s1, h1, hc⟩
    exact hd acc H' s1 h1 hc
theorem cells_get {g : Nat → Option Nat} : ∀ {n : Nat} {l : List Nat}, cells g n = some l → ∀ i, i < n → g i = some (at_ l i)
  | 0, l, h, i, hi => absurd hi (Nat.not_lt_zero _)
  | n + 1, l, h, i, hi => by
    rw [cells_succ] at h
    obtain ⟨acc, h1, h2⟩ := Option.bind_eq_some_iff.mp h
    obtain ⟨c, h3, rfl⟩ := Option.map_eq_some_iff.mp h2
    have hl := cells_length h1
    by_cases e : i < n
    · rw [cells_get h1 i e]
      unfold Kg26.at_
      rw [List.getD_eq_getElem?_getD, List.getD_eq_getElem?_getD, List.getElem?_append_left (by omega)]
    · obtain rfl : i = n := by omega
      rw [h3]
      unfold Kg26.at_
      rw [List.getD_eq_getElem?_getD, List.getElem?_append_right (by omega), hl, Nat.sub_self]
      rfl
theorem cells_no {g : Nat → Option Nat} : ∀ {n : Nat}, cells g n = none → ∃ i, i < n ∧ g i = none
  | 0, h => by cases h
  | n + 1, h => by
    rw [cells_succ] at h
    cases e : cells g n with
    | none =>
      obtain ⟨i, hi, z⟩ := cells_no e
      exact ⟨i, by omega, z⟩
    | some acc =>
      rw [e, Option.bind_some] at h
      exact ⟨n, by omega, Option.map_eq_none_iff.mp h⟩
theorem cells_finite {g : Nat → Option Nat} (hg : ∀ t c, g t = some c → Kg26.fin c = true) {n : Nat} {l : List Nat} (h : cells g n = some l) : Kg26.finite l = true := List.all_eq_true.mpr (cells_fin hg h)
section
variable (mul add sub div : Nat → Nat → Option Nat)
end
section
variable (mul add sub div : Nat → Nat → Option Nat)
end
end Bm
end

section
set_option linter.all false
set_option maxRecDepth 100000
set_option maxHeartbeats 4000000
namespace Bm
open PySem PySem.Spec PyProof.Rows L2
open Kg26 (at_ Ex)
theorem TF.keep {H H' : Hp} {t : Addr} {ps : List Addr} {m n : Nat} {l : List Nat} (h : TF H t ps m n l) (hk : ∀ b ∈ t :: ps, H' b = H b) : TF H' t ps m n l :=
  ⟨⟨by rw [hk t List.mem_cons_self]; exact h.tb.top, h.tb.len, fun i p e => by rw [hk p (List.mem_cons_of_mem _ (List.mem_of_getElem? e))]; exact h.tb.row i p e, h.tb.nd⟩, h.len⟩
theorem TF.out {H : Hp} {t q : Addr} {ps : List Addr} {m n : Nat} {l : List Nat} (h : TF H t ps m n l) (hq : H q = none) : q ∉ t :: ps := fun z => by
  rcases List.mem_cons.mp z with z | z
  · have := h.tb.top
    rw [← z, hq] at this
    cases this
  · obtain ⟨i, hi⟩ := List.getElem?_of_mem z
    have := h.tb.row i q hi
    rw [hq] at this
    cases this
end Bm
end

section
set_option linter.all false
set_option maxRecDepth 100000
set_option maxHeartbeats 4000000
namespace Bm
open PySem PySem.Spec PyProof.Rows L2
open Kg26 (at_ Ex)
/-- rows for columns -/
def tr (m n : Nat) (l : List Nat) : List Nat := (List.range (n * m)).map fun k => at_ l ((k % m) * n + k / m)
theorem tr_len (m n : Nat) (l : List Nat) : (tr m n l).length = n * m := by unfold tr; rw [List.length_map, List.length_range]
theorem tr_at {m n i j : Nat} (l : List Nat) (hj : j < n) (hi : i < m) : at_ (tr m n l) (j * m + i) = at_ l (i * n + j) := by
  have e : at_ (tr m n l) (j * m + i) = at_ l ((j * m + i) % m * n + (j * m + i) / m) := by
    unfold tr Kg26.at_
    rw [List.getD_eq_getElem?_getD, List.getElem?_map, List.getElem?_range (cell_lt hj hi)]
    rfl
  rw [e, div_at hi, mod_at hi]
theorem tr_row {m n j : Nat} (l : List Nat) (hj : j < n) : rowAt (tr m n l) m j = colAt l n m j := by
  unfold rowAt colAt
  exact List.map_congr_left fun i hi => tr_at l hj (List.mem_range.mp hi)
theorem tf_tr {H : Hp} {t : Addr} {ps : List Addr} {m n : Nat} {l : List Nat} (Tt : Tb H t ps ((List.range n).map (colAt l n m))) : TF H t ps n m (tr m n l) := by
  refine ⟨?_, tr_len _ _ _⟩
  have e : (List.range n).map (rowAt (tr m n l) m) = (List.range n).map (colAt l n m) := List.map_congr_left fun j hj => tr_row l (List.mem_range.mp hj)
  rw [e]
  exact Tt
def unitTo (n k : Nat) : List Nat := (List.range (n * n)).map fun x => if x / n = x % n ∧ x / n < k then Kg26.one else 0
theorem unitTo_len (n k : Nat) : (unitTo n k).length = n * n := by unfold unitTo; rw [List.length_map, List.length_range]
theorem unitTo_at {n k i j : Nat} (hi : i < n) (hj : j < n) : at_ (unitTo n k) (i * n + j) = if i = j ∧ i < k then Kg26.one else 0 := by
  have e : at_ (unitTo n k) (i * n + j) = if (i * n + j) / n = (i * n + j) % n ∧ (i * n + j) / n < k then Kg26.one else 0 := by
    unfold unitTo Kg26.at_
    rw [List.getD_eq_getElem?_getD, List.getElem?_map, List.getElem?_range (cell_lt hi hj)]
    rfl
  rw [e, div_at hj, mod_at hj]
theorem flat_ext {m n : Nat} {a b : List Nat} (ha : a.length = m * n) (hb : b.length = m * n) (h : ∀ i j, i < m → j < n → at_ a (i * n + j) = at_ b (i * n + j)) : a = b := by
  refine list_ext (by rw [ha, hb]) fun k hk => ?_
  rw [ha] at hk
  have hn : 0 < n := Nat.pos_of_ne_zero fun z => by subst z; simp at hk
  have h1 : k / n < m := Nat.div_lt_of_lt_mul (by rw [Nat.mul_comm]; exact hk)
  have e : k = k / n * n + k % n := by rw [Nat.mul_comm]; exact (Nat.div_add_mod k n).symm
  rw [e]
  exact h _ _ h1 (Nat.mod_lt _ hn)
theorem unitTo_zero (n : Nat) : unitTo n 0 = List.replicate (n * n) 0 := flat_ext (m := n) (n := n) (unitTo_len _ _) List.length_replicate fun i j hi hj => by
  rw [unitTo_at hi hj, if_neg (by omega), at_rep]
theorem unitTo_succ {n k : Nat} (hk : k < n) : (unitTo n k).set (k * n + k) Kg26.one = unitTo n (k + 1) := flat_ext (m := n) (n := n) (by rw [List.length_set]; exact unitTo_len _ _) (unitTo_len _ _) fun i j hi hj => by
  rw [at_set (by rw [unitTo_len]; exact cell_lt hk hk), unitTo_at hi hj, unitTo_at hi hj]
  by_cases e : i * n + j = k * n + k
  · obtain ⟨rfl, rfl⟩ := cell_inj hj hk e
    rw [if_pos rfl, if_pos ⟨rfl, by omega⟩]
  · rw [if_neg e]
    by_cases e2 : i = j ∧ i < k
    · rw [if_pos e2, if_pos ⟨e2.1, by omega⟩]
    · rw [if_neg e2, if_neg]
      rintro ⟨rfl, h⟩
      have : i = k := by omega
      subst this
      exact e rfl
theorem unit_eq (n : Nat) : unitTo n n = Kg26.unit n := flat_ext (m := n) (n := n) (unitTo_len _ _) (by unfold Kg26.unit; rw [List.length_map, List.length_range]) fun i j hi hj => by
  rw [unitTo_at hi hj]
  have e : at_ (Kg26.unit n) (i * n + j) = if (i * n + j) / n = (i * n + j) % n then Kg26.one else 0 := by
    unfold Kg26.unit Kg26.at_
    rw [List.getD_eq_getElem?_getD, List.getElem?_map, List.getElem?_range (cell_lt hi hj)]
    rfl
  rw [e, div_at hj, mod_at hj]
  by_cases z : i = j
  · rw [if_pos ⟨z, hi⟩, if_pos z]
  · rw [if_neg (fun q => z q.1), if_neg z]
end Bm
end

section
set_option linter.all false
set_option maxRecDepth 100000
set_option maxHeartbeats 4000000
namespace Bm
open PySem PySem.Spec PyProof.Rows L2
open Kg26 (at_ Ex)
theorem tr_tr {m n : Nat} {l : List Nat} (h : l.length = m * n) : tr n m (tr m n l) = l := flat_ext (m := m) (n := n) (tr_len _ _ _) h fun i j hi hj => by
  rw [tr_at _ hi hj, tr_at _ hj hi]
section
variable {m n c s i : Nat} {u r ct r4 : List Nat}
end
theorem fin_putm {l row : List Nat} {n r : Nat} (hn : 0 < n) (hf : Kg26.finite l = true) (hrow : row.length = n) (hf2 : Kg26.finite row = true) : Kg26.finite (putRow l n r row) = true := by
  refine finite_of fun k hk => ?_
  rw [putRow_len] at hk
  rw [putRow_at hk]
  split
  · exact fin_at hf2 (by rw [hrow]; exact Nat.mod_lt _ hn)
  · exact fin_at hf hk
theorem fin_tr {m n : Nat} {l : List Nat} (hl : l.length = m * n) (hf : Kg26.finite l = true) : Kg26.finite (tr m n l) = true := finite_map fun k hk => by
  have hm : 0 < m := Nat.pos_of_ne_zero fun z => by subst z; simp at hk
  exact fin_at hf (by rw [hl]; exact cell_lt (Nat.mod_lt _ hm) (Nat.div_lt_of_lt_mul (by rw [Nat.mul_comm]; exact hk)))
/-- all but the table at t is as it was -/
def SX (t : Addr) (H H' : Hp) : Prop := ∀ b o, b ≠ t → H b = some o → H' b = some o
section
variable {t p : Addr} {H H' H2 : Hp} {o : HO}
theorem SX.of (s : Same H H') : SX t H H' := fun b u _ e => s b u e
theorem SX.same (h : SX t H H') (s : Same H' H2) : SX t H H2 := fun b u n e => s b u (h b u n e)
theorem SX.self (h : SX t H H') : SX t H (upd H' t o) := fun b u n e => by
  rw [upd_ne n]
  exact h b u n e
end
end Bm
end

section
set_option linter.all false
set_option maxRecDepth 100000
set_option maxHeartbeats 4000000
namespace Bm
open PySem PySem.Spec PyProof.Rows L2
open Kg26 (at_ Ex)
theorem bindL {α β : Type} {a b : Option α} {f g : α → Option β} (e : a = b) (h : ∀ x, f x = g x) : a.bind f = b.bind g := by rw [e, funext h]
end Bm
end

section
set_option linter.all false
set_option maxRecDepth 100000
set_option maxHeartbeats 4000000
namespace Bm
open PySem PySem.Spec PyProof.Rows L2
open Kg26 (at_ Ex)
theorem nneg {x : Nat} (h : x < 2 ^ 63) : Kg26.neg x = false := by
  unfold Kg26.neg Kg26.SIGN
  exact decide_eq_false (by omega)
theorem signed_pos {r c : Nat} (h : Kg26.signed false r = some c) : c < 2 ^ 63 := by
  unfold Kg26.signed at h
  split at h
  · cases h
    rename_i hr
    exact inf63 hr
  · cases h
theorem mul_self_pos {x c : Nat} (h : Kg26.mul x x = some c) : c < 2 ^ 63 := by
  unfold Kg26.mul at h
  rw [show (Kg26.neg x != Kg26.neg x) = false by cases Kg26.neg x <;> rfl] at h
  exact signed_pos h
theorem value_pos {x : Nat} (h : x < 2 ^ 63) : 0 ≤ Kg26.value x := by
  unfold Kg26.value
  rw [nneg h]
  exact Int.natCast_nonneg _
theorem add_pos {a b c : Nat} (ha : a < 2 ^ 63) (hb : b < 2 ^ 63) (h : Kg26.add a b = some c) : c < 2 ^ 63 := by
  have h1 := value_pos ha
  have h2 := value_pos hb
  unfold Kg26.add at h
  dsimp only at h
  split at h
  · rw [if_neg (fun z => by rw [nneg ha] at z; exact absurd z.2.1 (by decide))] at h
    cases h
    decide
  · rw [decide_eq_false (by omega)] at h
    exact signed_pos h
theorem sqrt_pos {a c : Nat} (ha : a < 2 ^ 63) (h : Kg26.sqrt a = some c) : c < 2 ^ 63 := by
  unfold Kg26.sqrt at h
  split at h
  · cases h; exact ha
  · split at h
    · cases h
    · exact signed_pos h
theorem div_pos {a b c : Nat} (ha : a < 2 ^ 63) (hb : b < 2 ^ 63) (h : Kg26.div a b = some c) : c < 2 ^ 63 := by
  unfold Kg26.div at h
  split at h
  · cases h
  · rw [nneg ha, nneg hb] at h
    exact signed_pos h
def tanP (d x : Nat) : Option Nat := (Kg26.mul Kg26.two x).bind fun t => (Kg26.div d t).bind fun h => (Kg26.mul h h).bind fun hh => (Kg26.add hh Kg26.one).bind fun g => (Kg26.sqrt g).bind fun r => (Kg26.add (Kg26.rest h) r).bind fun k => (Kg26.div Kg26.one k).bind fun u => some (if Kg26.neg h = true then Kg26.flip u else u)
def cosP (u : Nat) : Option Nat := (Kg26.mul u u).bind fun uu => (Kg26.add uu Kg26.one).bind fun v => (Kg26.sqrt v).bind fun z => Kg26.div Kg26.one z
def angP (n : Nat) (a : List Nat) (p q : Nat) : Option (Option (Nat × Nat)) := ((Kg26.sub (at_ a (q * n + q)) (at_ a (p * n + p))).bind fun d => tanP d (at_ a (p * n + q))).bind fun u => (cosP u).bind fun c => (Kg26.mul u c).bind fun s => some (some (c, s))
theorem angle_eq (n : Nat) (a : List Nat) (p q : Nat) : Kg26.angle n a p q = if Kg26.rest (at_ a (p * n + q)) = 0 then some none else angP n a p q := by
  by_cases hz : Kg26.rest (at_ a (p * n + q)) = 0
  · rw [if_pos hz]
    unfold Kg26.angle
    exact if_pos hz
  · rw [if_neg hz]
    have e : Kg26.angle n a p q = _ := if_neg hz
    rw [e]
    unfold angP tanP cosP
    generalize Kg26.mul = mul
    generalize Kg26.add = add
    generalize Kg26.sub = sub
    generalize Kg26.div = div
    generalize Kg26.sqrt = sqrt
    generalize Kg26.rest = rst
    generalize Kg26.neg = neg
    generalize Kg26.flip = flip
    generalize Kg26.one = one
    generalize Kg26.two = two
    rw [Option.bind_assoc]
    refine bindL rfl fun d => ?_
    rw [Option.bind_assoc]
    refine bindL rfl fun t => ?_
    rw [Option.bind_assoc]
    refine bindL rfl fun h => ?_
    rw [Option.bind_assoc]
    refine bindL rfl fun hh => ?_
    rw [Option.bind_assoc]
    refine bindL rfl fun g => ?_
    rw [Option.bind_assoc]
    refine bindL rfl fun r => ?_
    rw [Option.bind_assoc]
    refine bindL rfl fun k => ?_
    rw [Option.bind_assoc]
    refine bindL rfl fun u => ?_
    rw [Option.bind_some, Option.bind_assoc]
    refine bindL rfl fun uu => ?_
    rw [Option.bind_assoc]
    refine bindL rfl fun v => ?_
    rw [Option.bind_assoc]
    exact bindL rfl fun z => bindL rfl fun c => bindL rfl fun s => rfl
def t1 (c s x y : Nat) : Option Nat := (Kg26.mul c x).bind fun a => (Kg26.mul s y).bind fun b => Kg26.sub a b
def t2 (c s x y : Nat) : Option Nat := (Kg26.mul s x).bind fun a => (Kg26.mul c y).bind fun b => Kg26.add a b
theorem t1_fin {c s x y z : Nat} (h : t1 c s x y = some z) : Kg26.fin z = true := by
  unfold t1 at h
  obtain ⟨a, _, h⟩ := Option.bind_eq_some_iff.mp h
  obtain ⟨b, _, h⟩ := Option.bind_eq_some_iff.mp h
  exact sub_fin h
theorem t2_fin {c s x y z : Nat} (h : t2 c s x y = some z) : Kg26.fin z = true := by
  unfold t2 at h
  obtain ⟨a, _, h⟩ := Option.bind_eq_some_iff.mp h
  obtain ⟨b, _, h⟩ := Option.bind_eq_some_iff.mp h
  exact add_fin h
theorem turned_eq (c s x y : Nat) : Kg26.turned c s x y = (t1 c s x y).bind fun u => (t2 c s x y).bind fun v => some (u, v) := by
  unfold Kg26.turned t1 t2
  generalize Kg26.mul = mul
  generalize Kg26.add = add
  generalize Kg26.sub = sub
  simp only [Option.bind_eq_bind, Option.pure_def]
  cases mul c x with
  | none => simp only [Option.bind_none]
  | some cx =>
    cases mul s y with
    | none => simp only [Option.bind_some, Option.bind_none]
    | some sy =>
      cases mul s x with
      | none => simp only [Option.bind_some, Option.bind_none, Option.bind_fun_none]
      | some sx =>
        cases mul c y with
        | none => simp only [Option.bind_some, Option.bind_none, Option.bind_fun_none]
        | some cy => simp only [Option.bind_some]
theorem turned_none {c s x y : Nat} (h : t1 c s x y = none ∨ t2 c s x y = none) : Kg26.turned c s x y = none := by
  rw [turned_eq]
  rcases h with h | h
  · rw [h, Option.bind_none]
  · rw [h]
    cases t1 c s x y with
    | none => simp only [Option.bind_none]
    | some u => simp only [Option.bind_some, Option.bind_none]
theorem turned_some {c s x y u v : Nat} (h1 : t1 c s x y = some u) (h2 : t2 c s x y = some v) : Kg26.turned c s x y = some (u, v) := by
  rw [turned_eq, h1, h2, Option.bind_some, Option.bind_some]
theorem fin_rest {h : Nat} (f : Kg26.fin h = true) : Kg26.fin (Kg26.rest h) = true := by
  unfold Kg26.fin Kg26.rest Kg26.SIGN at *
  simp only [Bool.and_eq_true, decide_eq_true_eq] at *
  refine ⟨by omega, ?_⟩
  rw [Nat.mod_mod]
  exact f.2
theorem or_tan {u h : Nat} (hu : u < 2 ^ 63) (hh : h < 2 ^ 64) : Builtin.bitOr (u : Int) (Builtin.bitAnd (h : Int) 9223372036854775808) = ((if Kg26.neg h = true then Kg26.flip u else u : Nat) : Int) := by
  rw [and_sign hh]
  cases Kg26.neg h with
  | false =>
    have := or_nat u 0
    rw [Nat.and_zero] at this
    refine this.trans ?_
    simp
  | true =>
    have := or_nat u (2 ^ 63)
    have z := and_small (b := 1) hu
    rw [Nat.mul_one] at z
    rw [z] at this
    refine this.trans ?_
    unfold Kg26.flip
    rw [nneg hu]
    simp [Kg26.SIGN]
end Bm
end

section
set_option linter.all false
set_option maxRecDepth 100000
set_option maxHeartbeats 4000000
namespace Bm
open PySem PySem.Spec PyProof.Rows L2
open Kg26 (at_ Ex)
theorem table_get {m n : Nat} {F : Nat → Nat → Option Nat} {l : List Nat} (h : Kg26.table m n F = some l) {i j : Nat} (hi : i < m) (hj : j < n) : F i j = some (at_ l (i * n + j)) := by
  rw [table_cells] at h
  have := cells_get h (i * n + j) (cell_lt hi hj)
  rw [div_at hj, mod_at hj] at this
  exact this
theorem table_len {m n : Nat} {F : Nat → Nat → Option Nat} {l : List Nat} (h : Kg26.table m n F = some l) : l.length = m * n := by
  rw [table_cells] at h
  exact cells_length h
theorem table_no {m n : Nat} {F : Nat → Nat → Option Nat} (h : Kg26.table m n F = none) : ∃ i j, i < m ∧ j < n ∧ F i j = none := by
  rw [table_cells] at h
  obtain ⟨k, hk, e⟩ := cells_no h
  have hn : 0 < n := Nat.pos_of_ne_zero fun z => by subst z; simp at hk
  exact ⟨k / n, k % n, Nat.div_lt_of_lt_mul (by rw [Nat.mul_comm]; exact hk), Nat.mod_lt _ hn, e⟩
def tuC (p q c s : Nat) (X : Nat → Nat) (j : Nat) : Option Nat := if j = p then (Kg26.turned c s (X p) (X q)).map fun x => x.1 else if j = q then (Kg26.turned c s (X p) (X q)).map fun x => x.2 else some (X j)
theorem columns_eq (n p q c s : Nat) (a : List Nat) : Kg26.columns n p q c s a = Kg26.table n n fun i j => tuC p q c s (fun k => at_ a (i * n + k)) j := rfl
theorem rows_eq (n p q c s : Nat) (a : List Nat) : Kg26.rows n p q c s a = Kg26.table n n fun i j => tuC p q c s (fun k => at_ a (k * n + j)) i := rfl
section
variable {p q c s : Nat} {X : Nat → Nat}
theorem tuC_p {u : Nat} (h1 : t1 c s (X p) (X q) = some u) {v : Nat} (h2 : t2 c s (X p) (X q) = some v) : tuC p q c s X p = some u := by
  unfold tuC
  rw [if_pos rfl, turned_some h1 h2]
  rfl
theorem tuC_q {u : Nat} (h1 : t1 c s (X p) (X q) = some u) {v : Nat} (h2 : t2 c s (X p) (X q) = some v) (ne : p ≠ q) : tuC p q c s X q = some v := by
  unfold tuC
  rw [if_neg ne.symm, if_pos rfl, turned_some h1 h2]
  rfl
theorem tuC_o {j : Nat} (h1 : j ≠ p) (h2 : j ≠ q) : tuC p q c s X j = some (X j) := by
  unfold tuC
  rw [if_neg h1, if_neg h2]
theorem tuC_n (h : t1 c s (X p) (X q) = none ∨ t2 c s (X p) (X q) = none) : tuC p q c s X p = none := by
  unfold tuC
  rw [if_pos rfl, turned_none h]
  rfl
end
/-- the first i rows' columns are turned -/
structure Tco (n p q c s : Nat) (a : List Nat) (i : Nat) (lk : List Nat) : Prop where
  len : lk.length = n * n
  fin : Kg26.finite lk = true
  done : ∀ r j, r < n → j < n → r < i → tuC p q c s (fun k => at_ a (r * n + k)) j = some (at_ lk (r * n + j))
  rest : ∀ r j, r < n → j < n → i ≤ r → at_ lk (r * n + j) = at_ a (r * n + j)
theorem tco_zero {n p q c s : Nat} {a : List Nat} (hl : a.length = n * n) (hf : Kg26.finite a = true) : Tco n p q c s a 0 a := ⟨hl, hf, fun _ _ _ _ h => absurd h (Nat.not_lt_zero _), fun _ _ _ _ _ => rfl⟩
section
variable {n p q c s i : Nat} {a lk : List Nat}
theorem Tco.step (h : Tco n p q c s a i lk) (hi : i < n) (hp : p < n) (hq : q < n) (ne : p ≠ q) {u v : Nat} (h1 : t1 c s (at_ lk (i * n + p)) (at_ lk (i * n + q)) = some u) (h2 : t2 c s (at_ lk (i * n + p)) (at_ lk (i * n + q)) = some v) : Tco n p q c s a (i + 1) ((lk.set (i * n + p) u).set (i * n + q) v) := by
  have l1 : i * n + p < lk.length := by rw [h.len]; exact cell_lt hi hp
  have l2 : i * n + q < (lk.set (i * n + p) u).length := by rw [List.length_set, h.len]; exact cell_lt hi hq
  rw [h.rest i p hi hp (Nat.le_refl _), h.rest i q hi hq (Nat.le_refl _)] at h1 h2
  have key : ∀ r j, j < n → at_ ((lk.set (i * n + p) u).set (i * n + q) v) (r * n + j) = if r = i ∧ j = q then v else if r = i ∧ j = p then u else at_ lk (r * n + j) := fun r j hj => by
    rw [at_set l2, at_set l1]
    by_cases z1 : r * n + j = i * n + q
    · rw [if_pos z1, if_pos (cell_inj hj hq z1)]
    · rw [if_neg z1, if_neg (fun z : r = i ∧ j = q => z1 (by rw [z.1, z.2]))]
      by_cases z2 : r * n + j = i * n + p
      · rw [if_pos z2, if_pos (cell_inj hj hp z2)]
      · rw [if_neg z2, if_neg (fun z : r = i ∧ j = p => z2 (by rw [z.1, z.2]))]
  refine ⟨by rw [List.length_set, List.length_set]; exact h.len, fin_set (fin_set h.fin (t1_fin h1) _) (t2_fin h2) _, fun r j hr hj e => ?_, fun r j hr hj e => ?_⟩
  · rw [key r j hj]
    by_cases z : r = i
    · subst z
      by_cases z1 : j = q
      · rw [if_pos ⟨rfl, z1⟩, z1]
        exact tuC_q (X := fun k => at_ a (r * n + k)) h1 h2 ne
      · rw [if_neg (fun z => z1 z.2)]
        by_cases z2 : j = p
        · rw [if_pos ⟨rfl, z2⟩, z2]
          exact tuC_p (X := fun k => at_ a (r * n + k)) h1 h2
        · rw [if_neg (fun z => z2 z.2), tuC_o z2 z1, h.rest r j hr hj (Nat.le_refl _)]
    · rw [if_neg (fun x => z x.1), if_neg (fun x => z x.1)]
      exact h.done r j hr hj (by omega)
  · rw [key r j hj, if_neg (by omega), if_neg (by omega)]
    exact h.rest r j hr hj (by omega)
theorem Tco.end (h : Tco n p q c s a i lk) (e : n ≤ i) : Kg26.columns n p q c s a = some lk := by
  rw [columns_eq]
  exact table_is h.len fun r j hr hj => h.done r j hr hj (by omega)
theorem Tco.fail (h : Tco n p q c s a i lk) (hi : i < n) (hp : p < n) (hq : q < n) (e : t1 c s (at_ lk (i * n + p)) (at_ lk (i * n + q)) = none ∨ t2 c s (at_ lk (i * n + p)) (at_ lk (i * n + q)) = none) : Kg26.columns n p q c s a = none := by
  rw [h.rest i p hi hp (Nat.le_refl _), h.rest i q hi hq (Nat.le_refl _)] at e
  rw [columns_eq]
  exact table_none hi hp (tuC_n (X := fun k => at_ a (i * n + k)) e)
end
/-- rows p and q put anew -/
theorem rows_is {n p q c s : Nat} {l r1 r2 : List Nat} (hl : l.length = n * n) (hp : p < n) (hq : q < n) (ne : p ≠ q) (e1 : cells (fun i => t1 c s (at_ (rowAt l n p) i) (at_ (rowAt l n q) i)) n = some r1) (e2 : cells (fun i => t2 c s (at_ (rowAt l n p) i) (at_ (rowAt l n q) i)) n = some r2) :
    Kg26.rows n p q c s l = some (putRow (putRow l n p r1) n q r2) := by
  rw [rows_eq]
  refine table_is (by rw [putRow_len, putRow_len]; exact hl) fun i j hi hj => ?_
  have h1 := cells_get e1 j hj
  have h2 := cells_get e2 j hj
  rw [rowAt_at hj, rowAt_at hj] at h1 h2
  have l1 : i * n + j < l.length := by rw [hl]; exact cell_lt hi hj
  rw [putRow_at (by rw [putRow_len]; exact l1), putRow_at l1, div_at hj, mod_at hj]
  by_cases z1 : i = q
  · rw [if_pos z1, z1]
    exact tuC_q (X := fun k => at_ l (k * n + j)) h1 h2 ne
  · rw [if_neg z1]
    by_cases z2 : i = p
    · rw [if_pos z2, z2]
      exact tuC_p (X := fun k => at_ l (k * n + j)) h1 h2
    · rw [if_neg z2]
      exact tuC_o z2 z1
theorem rows_none {n p q c s i : Nat} {l : List Nat} (hp : p < n) (hi : i < n) (e : t1 c s (at_ (rowAt l n p) i) (at_ (rowAt l n q) i) = none ∨ t2 c s (at_ (rowAt l n p) i) (at_ (rowAt l n q) i) = none) : Kg26.rows n p q c s l = none := by
  rw [rowAt_at hi, rowAt_at hi] at e
  rw [rows_eq]
  exact table_none hp hi (tuC_n (X := fun k => at_ l (k * n + i)) e)
/-- rows turned of a table turned about -/
theorem rows_tr (n p q c s : Nat) (v : List Nat) (hp : p < n) (hq : q < n) : Kg26.rows n p q c s (tr n n v) = (Kg26.columns n p q c s v).map (tr n n) := by
  rw [rows_eq, columns_eq]
  have hX : ∀ i j, i < n → j < n → tuC p q c s (fun k => at_ (tr n n v) (k * n + j)) i = tuC p q c s (fun k => at_ v (j * n + k)) i := fun i j hi hj => by
    unfold tuC
    dsimp only
    rw [tr_at v hp hj, tr_at v hq hj, tr_at v hi hj]
  cases e : Kg26.table n n fun i j => tuC p q c s (fun k => at_ v (i * n + k)) j with
  | none =>
    obtain ⟨i, j, hi, hj, z⟩ := table_no e
    exact table_none hj hi ((hX j i hj hi).trans z)
  | some w =>
    refine table_is (tr_len _ _ _) fun i j hi hj => ?_
    rw [hX i j hi hj, tr_at w hi hj]
    exact table_get e hj hi
theorem columns_len {n p q c s : Nat} {a b : List Nat} (h : Kg26.columns n p q c s a = some b) : b.length = n * n := table_len h
def zap (n : Nat) (b : List Nat) (p q : Nat) : List Nat := (List.range (n * n)).map fun (k : Nat) => if k = p * n + q ∨ k = q * n + p then 0 else at_ b k
theorem zap_eq {n p q : Nat} {b : List Nat} (hb : b.length = n * n) (hp : p < n) (hq : q < n) : (b.set (p * n + q) 0).set (q * n + p) 0 = zap n b p q := by
  have h1 : p * n + q < b.length := by rw [hb]; exact cell_lt hp hq
  have h2 : q * n + p < (b.set (p * n + q) 0).length := by rw [List.length_set, hb]; exact cell_lt hq hp
  refine list_ext (by unfold zap; rw [List.length_set, List.length_set, List.length_map, List.length_range, hb]) fun k hk => ?_
  rw [List.length_set, List.length_set, hb] at hk
  have e : at_ (zap n b p q) k = if k = p * n + q ∨ k = q * n + p then 0 else at_ b k := by
    conv => lhs; unfold zap Kg26.at_
    rw [List.getD_eq_getElem?_getD, List.getElem?_map, List.getElem?_range hk]
    rfl
  rw [e, at_set h2, at_set h1]
  by_cases z1 : k = q * n + p
  · rw [if_pos z1, if_pos (.inr z1)]
  · rw [if_neg z1]
    by_cases z2 : k = p * n + q
    · rw [if_pos z2, if_pos (.inl z2)]
    · rw [if_neg z2, if_neg (fun z => z.elim z2 z1)]
def tuM (n p q : Nat) (l v : List Nat) (c s : Nat) : Option (List Nat × List Nat) := (Kg26.columns n p q c s l).bind fun a => (Kg26.rows n p q c s a).bind fun b => (Kg26.columns n p q c s v).bind fun w => some (zap n b p q, w)
def tuA (n p q : Nat) (l v : List Nat) : Option (List Nat × List Nat) := ((Kg26.sub (at_ l (q * n + q)) (at_ l (p * n + p))).bind fun d => tanP d (at_ l (p * n + q))).bind fun u => (cosP u).bind fun c => (Kg26.mul u c).bind fun s => tuM n p q l v c s
theorem turn_skip {n p q : Nat} {x : List Nat × List Nat} (h : Kg26.rest (at_ x.1 (p * n + q)) = 0) : Kg26.turn n x (p, q) = some x := by
  unfold Kg26.turn
  dsimp only
  rw [angle_eq, if_pos h]
  rfl
theorem turn_go {n p q : Nat} {x : List Nat × List Nat} (h : Kg26.rest (at_ x.1 (p * n + q)) ≠ 0) : Kg26.turn n x (p, q) = tuA n p q x.1 x.2 := by
  unfold Kg26.turn
  dsimp only
  rw [angle_eq, if_neg h]
  unfold angP tuA
  rw [Option.bind_assoc]
  refine bindL rfl fun u => ?_
  rw [Option.bind_assoc]
  refine bindL rfl fun c => ?_
  rw [Option.bind_assoc]
  refine bindL rfl fun s => ?_
  rw [Option.bind_some]
  rfl
def jcQ (n : Nat) (x : List Nat × List Nat) (p i : Nat) : Option (List Nat × List Nat) := foldO (fun x k => Kg26.turn n x (p, p + 1 + k)) x i
def jcP (n : Nat) (x : List Nat × List Nat) (i : Nat) : Option (List Nat × List Nat) := foldO (fun x p => jcQ n x p (n - p - 1)) x i
def jcR (n : Nat) (x : List Nat × List Nat) (i : Nat) : Option (List Nat × List Nat) := foldO (fun x _ => jcP n x n) x i
theorem fold_no {α β : Type} (f : α → β → Option α) : ∀ l : List β, l.foldl (fun x b => x.bind fun x => f x b) none = none
  | [] => rfl
  | b :: l => fold_no f l
theorem jc_eq (n r : Nat) (a : List Nat) : Kg26.jacobi n r a = jcR n (a, Kg26.unit n) r := by
  unfold Kg26.jacobi jcR foldO
  have e : ∀ x, (Kg26.pairs n).foldl (fun x pq => x.bind fun x => Kg26.turn n x pq) (some x) = jcP n x n := fun x => by
    unfold Kg26.pairs jcP foldO
    rw [List.foldl_flatMap]
    congr 1
    funext y p
    rw [List.foldl_map]
    cases y with
    | none => exact fold_no (fun x k => Kg26.turn n x (p, p + 1 + k)) _
    | some y => rfl
  congr 1
  funext y _
  cases y with
  | none => rfl
  | some y => exact e y
theorem jcQ_succ (n : Nat) (x : List Nat × List Nat) (p i : Nat) : jcQ n x p (i + 1) = (jcQ n x p i).bind fun x => Kg26.turn n x (p, p + 1 + i) := foldO_succ i
theorem jcP_succ (n : Nat) (x : List Nat × List Nat) (i : Nat) : jcP n x (i + 1) = (jcP n x i).bind fun x => jcQ n x i (n - i - 1) := foldO_succ i
theorem jcR_succ (n : Nat) (x : List Nat × List Nat) (i : Nat) : jcR n x (i + 1) = (jcR n x i).bind fun x => jcP n x n := foldO_succ i
theorem jcQ_none {n : Nat} {x : List Nat × List Nat} {p i m : Nat} (h : jcQ n x p i = none) (e : i ≤ m) : jcQ n x p m = none := foldO_none h e
theorem jcP_none {n : Nat} {x : List Nat × List Nat} {i m : Nat} (h : jcP n x i = none) (e : i ≤ m) : jcP n x m = none := foldO_none h e
theorem jcR_none {n : Nat} {x : List Nat × List Nat} {i m : Nat} (h : jcR n x i = none) (e : i ≤ m) : jcR n x m = none := foldO_none h e
theorem unit_len (n : Nat) : (Kg26.unit n).length = n * n := by rw [← unit_eq]; exact unitTo_len _ _
theorem unit_tr (n : Nat) : tr n n (Kg26.unit n) = unitTo n n := flat_ext (m := n) (n := n) (tr_len _ _ _) (unitTo_len _ _) fun i j hi hj => by
  rw [tr_at _ hi hj, ← unit_eq, unitTo_at hj hi, unitTo_at hi hj]
  by_cases z : i = j
  · rw [if_pos ⟨z.symm, hj⟩, if_pos ⟨z, hi⟩]
  · rw [if_neg (fun q => z q.1.symm), if_neg (fun q => z q.1)]
theorem unit_fin (n : Nat) : Kg26.finite (Kg26.unit n) = true := by
  unfold Kg26.unit
  refine finite_map fun k _ => ?_
  split <;> decide
def Dj (t : Addr) (ps : List Addr) (t2 : Addr) (ps2 : List Addr) : Prop := ∀ b ∈ t :: ps, b ∉ t2 :: ps2
theorem Dj.symm {t t2 : Addr} {ps ps2 : List Addr} (h : Dj t ps t2 ps2) : Dj t2 ps2 t ps := fun b hb z => h b z hb
theorem TF.sx {H H' : Hp} {t t2 : Addr} {ps2 : List Addr} {m n : Nat} {l : List Nat} (h : TF H t2 ps2 m n l) (nt : t ∉ t2 :: ps2) (sx : SX t H H') : TF H' t2 ps2 m n l := h.keep fun b hb => by
  cases e : H b with
  | none => exact absurd hb (h.out e)
  | some o => exact sx b o (fun z => nt (z ▸ hb)) e
theorem Dj.put {H : Hp} {t t2 : Addr} {ps ps' ps2 : List Addr} {m n : Nat} {l : List Nat} (h : Dj t ps t2 ps2) (T2 : TF H t2 ps2 m n l) (hp : ∀ b ∈ ps', b ∈ ps ∨ H b = none) : Dj t ps' t2 ps2 := fun b hb => by
  rcases List.mem_cons.mp hb with z | z
  · rw [z]; exact h t List.mem_cons_self
  · rcases hp b z with z | z
    · exact h b (List.mem_cons_of_mem _ z)
    · exact T2.out z
/-- the table and the vectors as they stand in the heap -/
structure Jv (H : Hp) (t t2 : Addr) (n : Nat) (x : List Nat × List Nat) : Prop where
  tab : ∃ ps ps2, TF H t ps n n x.1 ∧ TF H t2 ps2 n n (tr n n x.2) ∧ Dj t ps t2 ps2
  len : x.2.length = n * n
  f1 : Kg26.finite x.1 = true
  f2 : Kg26.finite x.2 = true
end Bm
namespace Bm
open PySem PySem.Spec PyProof.Rows L2
open Kg26 (at_ Ex)
theorem vs4 {a b a' b' : Int} {x y : V} (e1 : a = a') (e2 : b = b') : [x, y, V.int a, V.int b] = [x, y, V.int a', V.int b'] := by subst e1 e2; rfl
theorem tan_fin {d x u : Nat} (h : tanP d x = some u) : Kg26.fin u = true := by
  unfold tanP at h
  obtain ⟨_, _, h⟩ := Option.bind_eq_some_iff.mp h
  obtain ⟨_, _, h⟩ := Option.bind_eq_some_iff.mp h
  obtain ⟨_, _, h⟩ := Option.bind_eq_some_iff.mp h
  obtain ⟨_, _, h⟩ := Option.bind_eq_some_iff.mp h
  obtain ⟨_, _, h⟩ := Option.bind_eq_some_iff.mp h
  obtain ⟨_, _, h⟩ := Option.bind_eq_some_iff.mp h
  obtain ⟨w, e, h⟩ := Option.bind_eq_some_iff.mp h
  have h := Option.some.inj h
  rw [← h]
  split
  · exact fin_flip (div_fin e)
  · exact div_fin e
theorem cos_fin {u c : Nat} (h : cosP u = some c) : Kg26.fin c = true := by
  unfold cosP at h
  obtain ⟨_, _, h⟩ := Option.bind_eq_some_iff.mp h
  obtain ⟨_, _, h⟩ := Option.bind_eq_some_iff.mp h
  obtain ⟨_, _, h⟩ := Option.bind_eq_some_iff.mp h
  exact div_fin h
theorem tan_fin2 {a b x u : Nat} (h : ((Kg26.sub a b).bind fun d => tanP d x) = some u) : Kg26.fin u = true := by
  obtain ⟨_, _, h⟩ := Option.bind_eq_some_iff.mp h
  exact tan_fin h
theorem fin_zap {n p q : Nat} {b : List Nat} (hb : b.length = n * n) (hp : p < n) (hq : q < n) (f : Kg26.finite b = true) : Kg26.finite (zap n b p q) = true := by
  rw [← zap_eq hb hp hq]
  exact fin_set (fin_set f (by decide) _) (by decide) _
theorem fin_untr {n : Nat} {v : List Nat} (hl : v.length = n * n) (h : Kg26.finite (tr n n v) = true) : Kg26.finite v = true := by
  have := fin_tr (m := n) (n := n) (tr_len n n v) h
  rwa [tr_tr hl] at this
end Bm
end

section
set_option linter.all false
namespace Bm
open Kg26
theorem nat_back : ∀ {l : List Int}, (l.all fun z => Kg26Neutral.natural z 64) = true → (l.map Int.toNat).map (fun k : Nat => (k : Int)) = l
  | [], _ => rfl
  | z :: l, h => by
    rw [List.all_cons, Bool.and_eq_true] at h
    rw [List.map_cons, List.map_cons, nat_back h.2]
    have : Kg26Neutral.natural z 64 = true := h.1
    unfold Kg26Neutral.natural at this
    simp only [Bool.and_eq_true, decide_eq_true_eq] at this
    rw [Int.toNat_of_nonneg this.1]
theorem nat_lt {l : List Int} (h : (l.all fun z => Kg26Neutral.natural z 64) = true) : ∀ k ∈ l.map Int.toNat, k < 2 ^ 64 := by
  intro k hk
  obtain ⟨z, hz, rfl⟩ := List.mem_map.mp hk
  have := List.all_eq_true.mp h z hz
  unfold Kg26Neutral.natural at this
  simp only [Bool.and_eq_true, decide_eq_true_eq] at this
  omega
theorem i32_back {n : Int} (h : Kg26Neutral.whole32 n = true) : Kg26Neutral.i32 (Kg26Neutral.unsigned32 n) = n := by
  unfold Kg26Neutral.whole32 at h
  simp only [Bool.and_eq_true, decide_eq_true_eq] at h
  unfold Kg26Neutral.i32 Kg26Neutral.unsigned32
  by_cases c : (n % 4294967296).toNat < 2 ^ 31
  · rw [if_pos c]; omega
  · rw [if_neg c]; omega
theorem h32_back {n : Int} (h : Kg26Neutral.whole32 n = true) (r : List Nat) : Kg26Neutral.h32 (Kg26Neutral.unsigned32 n :: r) = n := i32_back h
theorem sz_size (n : Int) : ((Kg26Neutral.sz n : Nat) : Int) = Kg26Neutral.size n := by
  unfold Kg26Neutral.sz Kg26Neutral.size
  split <;> omega
/-- an answer, number by number -/
def ans (a : Ans) : List Int := a.value :: (Kg26Neutral.ofNats a.out ++ Kg26Neutral.ofNats a.more ++ a.perm)
section
variable {n : Int} {X Y M : Row} {T : Nat}
end
section
variable {n : Int} {X Y : Row}
end
theorem sz_of {n : Int} (h : 1 ≤ n) (h2 : n ≤ 32) : Kg26Neutral.sz n = n.toNat := by
  unfold Kg26Neutral.sz
  rw [if_pos ⟨h, h2⟩]
theorem sz_le (n : Int) : Kg26Neutral.sz n ≤ 32 := by
  unfold Kg26Neutral.sz
  split <;> omega
section
variable {n m k : Int} {A B : Row}
end
theorem sizeT {n : Int} (h : 1 ≤ n ∧ n ≤ 32) : Kg26.size n = true := by unfold Kg26.size; simp [h]
theorem sizeF {n : Int} (h : ¬ (1 ≤ n ∧ n ≤ 32)) : Kg26.size n = false := by unfold Kg26.size; simp only [h, decide_false]
theorem jacobi_due {n rounds : Int} {a : List Int} (h : PyKg26.jacobi_asked n rounds a = true) :
    PyKg26.jacobi n rounds a = ans (does (.jacobi n rounds (a.map Int.toNat))) ∧ (a.all fun z => Kg26Neutral.natural z 64) = true ∧ a.length = Kg26Neutral.sz n * Kg26Neutral.sz n := by
  unfold PyKg26.jacobi_asked Kg26Neutral.asked at h
  simp only [List.all_cons, List.all_nil, Bool.and_true, Bool.and_eq_true, Kg26Neutral.asked1, decide_eq_true_eq] at h
  obtain ⟨_, _, ⟨h1, h2⟩, h4, h5⟩ := h
  rw [← sz_size, ← Int.natCast_mul] at h5
  have e5 : a.length = Kg26Neutral.sz n * Kg26Neutral.sz n := Int.natCast_inj.mp h5
  refine ⟨?_, h4, e5⟩
  unfold PyKg26.jacobi Kg26Neutral.f ans
  have e : Kg26Neutral.callOf (Kg26Neutral.numbers [[8, n, rounds], a]) = .jacobi n rounds (a.map Int.toNat) := by
    unfold Kg26Neutral.numbers Kg26Neutral.callOf
    have e1 := h32_back h1 (Kg26Neutral.unsigned32 rounds :: a.map Int.toNat)
    have e2 := h32_back h2 (a.map Int.toNat)
    simp only [List.cons_append, List.nil_append, List.append_assoc, List.drop_succ_cons, List.drop_zero, e1, e2]
    rw [List.take_of_length_le (by rw [List.length_map, e5]; exact Nat.le_refl _)]
  rw [e]
section
variable {n : Int} {A B : Row} {o : List Int}
theorem j_not {r : Int} (h : 1 ≤ n ∧ n ≤ 32) (h2 : 0 ≤ r ∧ r ≤ 64) : ¬ (size n = false ∨ r < 0 ∨ 64 < r) := by
  rw [sizeT h]
  rintro (q | q)
  · cases q
  · omega
theorem j_size {r : Int} (h : ¬ (1 ≤ n ∧ n ≤ 32)) : ans (does (.jacobi n r A)) = [-8] := by
  simp only [does]
  rw [if_pos (.inl (sizeF h))]; rfl
theorem j_rounds {r : Int} (h : ¬ (0 ≤ r ∧ r ≤ 64)) : ans (does (.jacobi n r A)) = [-8] := by
  simp only [does]
  rw [if_pos (.inr (by omega))]; rfl
theorem j_fin {r : Int} (h : 1 ≤ n ∧ n ≤ 32) (h2 : 0 ≤ r ∧ r ≤ 64) (h3 : finite A = false) : ans (does (.jacobi n r A)) = [-1] := by
  simp only [does]
  rw [if_neg (j_not h h2), if_pos h3]; rfl
theorem j_sym {r : Int} (h : 1 ≤ n ∧ n ≤ 32) (h2 : 0 ≤ r ∧ r ≤ 64) (h3 : finite A = true) (h4 : symmetric n.toNat A = false) : ans (does (.jacobi n r A)) = [-8] := by
  simp only [does]
  rw [if_neg (j_not h h2), if_neg (by rw [h3]; decide), if_pos h4]; rfl
theorem j_none {r : Int} (h : 1 ≤ n ∧ n ≤ 32) (h2 : 0 ≤ r ∧ r ≤ 64) (h3 : finite A = true) (h4 : symmetric n.toNat A = true) (h5 : Kg26.jacobi n.toNat r.toNat A = none) : ans (does (.jacobi n r A)) = [-1] := by
  simp only [does]
  rw [if_neg (j_not h h2), if_neg (by rw [h3]; decide), if_neg (by rw [h4]; decide), h5]; rfl
theorem j_out {r : Int} (h : 1 ≤ n ∧ n ≤ 32) (h2 : 0 ≤ r ∧ r ≤ 64) (h3 : finite A = true) (h4 : symmetric n.toNat A = true) {x : Row × Row} (h5 : Kg26.jacobi n.toNat r.toNat A = some x) : ans (does (.jacobi n r A)) = 0 :: Kg26Neutral.ofNats (((List.range n.toNat).map fun (i : Nat) => at_ x.1 (i * n.toNat + i)) ++ x.2) := by
  simp only [does]
  rw [if_neg (j_not h h2), if_neg (by rw [h3]; decide), if_neg (by rw [h4]; decide), h5]
  show (0 : Int) :: (Kg26Neutral.ofNats ((List.range n.toNat).map fun (i : Nat) => at_ x.1 (i * n.toNat + i)) ++ Kg26Neutral.ofNats x.2 ++ []) = _
  simp [Kg26Neutral.ofNats]
end
end Bm
end

section
set_option linter.all false
set_option maxRecDepth 100000
set_option maxHeartbeats 4000000
namespace Bm
open PySem PySem.Spec PyProof.Rows L2
def top (i : Nat) : Stmt := PySem.Challenge.pw_bitmatrix_s09_jacobi.main.body.getD i (.Pass ⟨0, 0, 0, 0⟩)
abbrev si_Refusal : Stmt := inClass (top 1) 0
abbrev si_OutOfRange : Stmt := inClass (top 2) 0
abbrev si_NotFinite : Stmt := inClass (top 3) 0
abbrev s_size_of : Stmt := top 15
abbrev s_is_finite : Stmt := top 16
abbrev s_whole_of : Stmt := top 17
abbrev s_place_of : Stmt := top 18
abbrev s_rounded : Stmt := top 19
abbrev s_add : Stmt := top 20
abbrev s_subtract : Stmt := top 21
abbrev s_multiply : Stmt := top 22
abbrev s_divide : Stmt := top 23
abbrev s_whole_root : Stmt := top 24
abbrev s_root : Stmt := top 25
abbrev s_rows_of : Stmt := top 27
abbrev s_columns_of : Stmt := top 28
abbrev s_zero_rows : Stmt := top 29
abbrev s_unit_rows : Stmt := top 30
abbrev s_joined : Stmt := top 31
abbrev s_turned_about : Stmt := top 32
abbrev s_tangent : Stmt := top 34
abbrev s_cosine : Stmt := top 35
abbrev s_first_turned : Stmt := top 36
abbrev s_second_turned : Stmt := top 37
abbrev s_turn_columns : Stmt := top 38
abbrev s_turn_rows : Stmt := top 39
abbrev s_turn : Stmt := top 40
abbrev s_turn_all : Stmt := top 41
abbrev s_check_size : Stmt := top 45
abbrev s_check_rounds : Stmt := top 46
abbrev s_check_finite : Stmt := top 47
abbrev s_check_same_turned_about : Stmt := top 48
abbrev s_jacobi : Stmt := top 49
structure Cn (P : Program) (w : World) (K : PySem.W.Frag) (mg : Str → Option Value) (base : Heap) (R : Addr) : Prop where
  c_SIGN : ∃ t, mg "SIGN" = some (.int 9223372036854775808 t)
  c_UNSIGNED : ∃ t, mg "UNSIGNED" = some (.int 9223372036854775807 t)
  c_INFINITE : ∃ t, mg "INFINITE" = some (.int 9218868437227405312 t)
  c_FRACTION : ∃ t, mg "FRACTION" = some (.int 4503599627370495 t)
  c_LEADING : ∃ t, mg "LEADING" = some (.int 4503599627370496 t)
  c_ONE : ∃ t, mg "ONE" = some (.int 4607182418800017408 t)
  c_TWO : ∃ t, mg "TWO" = some (.int 4611686018427387904 t)
  c_UNIT_PLACE : ∃ t, mg "UNIT_PLACE" = some (.int 1074 t)
  c_QUOTIENT_SHIFT : ∃ t, mg "QUOTIENT_SHIFT" = some (.int 110 t)
  c_ROOT_SHIFT : ∃ t, mg "ROOT_SHIFT" = some (.int 110 t)
  c_LARGEST_SIZE : ∃ t, mg "LARGEST_SIZE" = some (.int 32 t)
  c_LARGEST_ROUNDS : ∃ t, mg "LARGEST_ROUNDS" = some (.int 64 t)
  len : mg "len" = none
  range : mg "range" = none
  list : mg "list" = none
  sorted : mg "sorted" = none
  z_OutOfRange : Rz P w K mg base R "OutOfRange" (-8)
  z_NotFinite : Rz P w K mg base R "NotFinite" (-1)
section
variable {P : Program} {w : World} {K : PySem.W.Frag} {mg : Str → Option Value} {base : Heap} {R : Addr}
theorem sc_Refusal : FnScope ["self", "number"] ["self", "number"] (defScope si_Refusal) := ⟨rfl, rfl, rfl, by decide +kernel, rfl, by decide +kernel, by decide +kernel⟩
theorem ok_Refusal {f : Addr} {fd : FuncData} (F : Fun K "__init__" "Refusal.__init__" si_Refusal f fd) : FnOk P w K mg base CX0 1 f fd ["self", "number"] (spBase K) := by
  refine okX F sc_Refusal (fun vs H Q E h => ?_) (fun cdv A outer s H vs Q E hr h => ?_)
  · obtain ⟨x, C, t, k, rfl, _⟩ := h
    rfl
  · obtain ⟨x, C, t, k, rfl, hx, att, kk⟩ := h
    refine ⟨_, pss_one (ps_fldX (pv 0) (pv 1)), ?_⟩
    exact ⟨_, rfl, _, rfl, x, C, t, k, rfl, rfl, hx, att, kk⟩
/-- Refusal, as the others call it -/
structure Rb (K : PySem.W.Frag) (mg : Str → Option Value) (R f0 : Addr) (fd0 : FuncData) : Prop where
  fn : Fun K "__init__" "Refusal.__init__" si_Refusal f0 fd0
  bd : Binds K fd0 ["self", "number"] []
  mg : mg "Refusal" = some (.ref R)
  ga : PySem.W.specialIn K (.ref R) "__getattribute__" = some (some (.builtin "type.__getattribute__"))
  rd : PySem.W.readsIn K R (.type "type") = true
  fi : PySem.W.findCls K (.ref R) (.type "type") "__init__" = some (.val (.ref f0))
theorem sc_OutOfRange : FnScope ["self"] ["self"] (defScope si_OutOfRange) := ⟨rfl, rfl, rfl, by decide +kernel, rfl, by decide +kernel, by decide +kernel⟩
theorem ok_OutOfRange {f f0 : Addr} {fd fd0 : FuncData} (F : Fun K "__init__" "OutOfRange.__init__" si_OutOfRange f fd) (B : Rb K mg R f0 fd0) : FnOk P w K mg base CX0 2 f fd ["self"] (spInit K (-8)) := by
  refine okX F sc_OutOfRange (fun vs H Q E h => ?_) (fun cdv A outer s H vs Q E hr h => ?_)
  · obtain ⟨x, C, t, rfl, _⟩ := h
    rfl
  · obtain ⟨x, C, t, rfl, hx, att, kk⟩ := h
    refine ⟨_, pss_one (ps_expr (pe_base rfl B.mg B.ga B.rd B.fi B.fn.kp (ok_Refusal B.fn) hr B.bd pass0 (pa_cons (pv 0) (pa_cons (pe_un un_neg pe_int) pa_nil)))), ?_⟩
    exact ⟨_, rfl, _, rfl, x, C, t, -8, rfl, hx, att, kk⟩
theorem sc_NotFinite : FnScope ["self"] ["self"] (defScope si_NotFinite) := ⟨rfl, rfl, rfl, by decide +kernel, rfl, by decide +kernel, by decide +kernel⟩
theorem ok_NotFinite {f f0 : Addr} {fd fd0 : FuncData} (F : Fun K "__init__" "NotFinite.__init__" si_NotFinite f fd) (B : Rb K mg R f0 fd0) : FnOk P w K mg base CX0 2 f fd ["self"] (spInit K (-1)) := by
  refine okX F sc_NotFinite (fun vs H Q E h => ?_) (fun cdv A outer s H vs Q E hr h => ?_)
  · obtain ⟨x, C, t, rfl, _⟩ := h
    rfl
  · obtain ⟨x, C, t, rfl, hx, att, kk⟩ := h
    refine ⟨_, pss_one (ps_expr (pe_base rfl B.mg B.ga B.rd B.fi B.fn.kp (ok_Refusal B.fn) hr B.bd pass0 (pa_cons (pv 0) (pa_cons (pe_un un_neg pe_int) pa_nil)))), ?_⟩
    exact ⟨_, rfl, _, rfl, x, C, t, -1, rfl, hx, att, kk⟩
theorem cn_mk {h : Heap} {R f0 : Addr} {oc0 kV0 doc0 pm0 cdv0 ct0 : Value} {od0 an0 : Option Addr} {osl0 : Array (Option Value)} {cdR : ClassData} {C1 f1 : Addr} {oc1 kV1 doc1 pm1 cdv1 ct1 ob1 : Value} {od1 an1 ok1 : Option Addr} {osl1 sl1 : Array (Option Value)} {cd1 ce1 : ClassData} {C2 f2 : Addr} {oc2 kV2 doc2 pm2 cdv2 ct2 ob2 : Value} {od2 an2 ok2 : Option Addr} {osl2 sl2 : Array (Option Value)} {cd2 ce2 : ClassData} {t_SIGN : Tok} {t_UNSIGNED : Tok} {t_INFINITE : Tok} {t_FRACTION : Tok} {t_LEADING : Tok} {t_ONE : Tok} {t_TWO : Tok} {t_UNIT_PLACE : Tok} {t_QUOTIENT_SHIFT : Tok} {t_ROOT_SHIFT : Tok} {t_LARGEST_SIZE : Tok} {t_LARGEST_ROUNDS : Tok} (X : K.In h) (G : h.Ns mainGlobals mg)
    (aR : PySem.W.nsIn K mainGlobals "Refusal" = some (some (.ref R)))
    (fR : PySem.W.findCls K (.ref R) (.type "type") "__init__" = some (.val (.ref f0)))
    (lR : K.lookup f0 = some ⟨oc0, od0, .func (PySem.W.fnOf "__init__" "Refusal.__init__" (defArgs si_Refusal) (defBody si_Refusal) (defScope si_Refusal) .none kV0 doc0 pm0 an0 cdv0 ct0), osl0⟩)
    (cR : PySem.W.codeIn K cdv0 "Refusal.__init__" = true)
    (kR : PySem.W.keepIn K (.ref f0) = true)
    (gR : PySem.W.specialIn K (.ref R) "__getattribute__" = some (some (.builtin "type.__getattribute__")))
    (dR : PySem.W.readsIn K R (.type "type") = true)
    (mR : PySem.W.mroIn K R (.type "BaseException") = some true)
    (clR : PySem.W.clsIn K R = some cdR)
    (tR : PySem.W.typeIn K (.ref R) = some (.type "type"))
    (a1 : PySem.W.nsIn K mainGlobals "OutOfRange" = some (some (.ref C1)))
    (l1 : K.lookup C1 = some ⟨ob1, ok1, .cls cd1, sl1⟩)
    (ha1 : cd1.hasDel = false)
    (hb1 : cd1.mro.isEmpty = false)
    (hc1 : (sl1.toList[4]?).join = some (.builtin "Exception.__new__"))
    (m0_1 : PySem.W.mroIn K C1 (.ref C1) = some true)
    (m1_1 : PySem.W.mroIn K C1 (.type "Exception") = some true)
    (m2_1 : PySem.W.mroIn K C1 (.type "BaseException") = some true)
    (m3_1 : PySem.W.mroIn K C1 (.type "AttributeError") = some false)
    (m4_1 : PySem.W.mroIn K C1 (.type "NameError") = some false)
    (m5_1 : PySem.W.mroIn K C1 (.type "object") = some true)
    (m6_1 : PySem.W.mroIn K C1 (.ref R) = some true)
    (ca1 : PySem.W.specialIn K (.ref C1) "__call__" = some (some (.builtin "type.__call__")))
    (in1 : PySem.W.instIn K (.ref C1) (.type "type") = some true)
    (ty1 : PySem.W.typeIn K (.ref C1) = some (.type "type"))
    (fi1 : PySem.W.findIn K (.ref C1) "__init__" = some (some (.ref f1)))
    (tf1 : PySem.W.typeIn K (.ref f1) = some (.type "function"))
    (cl1 : PySem.W.clsIn K C1 = some ce1)
    (hd1 : ce1.hasDict = true)
    (mo1 : ce1.mro = [C1, R].map Value.ref ++ [.type "Exception", .type "BaseException", .type "object"])
    (sa1 : PySem.W.findIn K (.ref C1) "__setattr__" = some (some (.builtin "object.__setattr__")))
    (ga1 : PySem.W.findIn K (.ref C1) "__getattribute__" = some (some (.builtin "BaseException.__getattribute__")))
    (gh1 : PySem.W.findIn K (.ref C1) "__getattr__" = some none)
    (nn1 : PySem.W.findIn K (.ref C1) "number" = some none)
    (kp1 : PySem.W.keepIn K (.ref C1) = true)
    (lf1 : K.lookup f1 = some ⟨oc1, od1, .func (PySem.W.fnOf "__init__" "OutOfRange.__init__" (defArgs si_OutOfRange) (defBody si_OutOfRange) (defScope si_OutOfRange) .none kV1 doc1 pm1 an1 cdv1 ct1), osl1⟩)
    (cf1 : PySem.W.codeIn K cdv1 "OutOfRange.__init__" = true)
    (kf1 : PySem.W.keepIn K (.ref f1) = true)
    (a2 : PySem.W.nsIn K mainGlobals "NotFinite" = some (some (.ref C2)))
    (l2 : K.lookup C2 = some ⟨ob2, ok2, .cls cd2, sl2⟩)
    (ha2 : cd2.hasDel = false)
    (hb2 : cd2.mro.isEmpty = false)
    (hc2 : (sl2.toList[4]?).join = some (.builtin "Exception.__new__"))
    (m0_2 : PySem.W.mroIn K C2 (.ref C2) = some true)
    (m1_2 : PySem.W.mroIn K C2 (.type "Exception") = some true)
    (m2_2 : PySem.W.mroIn K C2 (.type "BaseException") = some true)
    (m3_2 : PySem.W.mroIn K C2 (.type "AttributeError") = some false)
    (m4_2 : PySem.W.mroIn K C2 (.type "NameError") = some false)
    (m5_2 : PySem.W.mroIn K C2 (.type "object") = some true)
    (m6_2 : PySem.W.mroIn K C2 (.ref R) = some true)
    (ca2 : PySem.W.specialIn K (.ref C2) "__call__" = some (some (.builtin "type.__call__")))
    (in2 : PySem.W.instIn K (.ref C2) (.type "type") = some true)
    (ty2 : PySem.W.typeIn K (.ref C2) = some (.type "type"))
    (fi2 : PySem.W.findIn K (.ref C2) "__init__" = some (some (.ref f2)))
    (tf2 : PySem.W.typeIn K (.ref f2) = some (.type "function"))
    (cl2 : PySem.W.clsIn K C2 = some ce2)
    (hd2 : ce2.hasDict = true)
    (mo2 : ce2.mro = [C2, R].map Value.ref ++ [.type "Exception", .type "BaseException", .type "object"])
    (sa2 : PySem.W.findIn K (.ref C2) "__setattr__" = some (some (.builtin "object.__setattr__")))
    (ga2 : PySem.W.findIn K (.ref C2) "__getattribute__" = some (some (.builtin "BaseException.__getattribute__")))
    (gh2 : PySem.W.findIn K (.ref C2) "__getattr__" = some none)
    (nn2 : PySem.W.findIn K (.ref C2) "number" = some none)
    (kp2 : PySem.W.keepIn K (.ref C2) = true)
    (lf2 : K.lookup f2 = some ⟨oc2, od2, .func (PySem.W.fnOf "__init__" "NotFinite.__init__" (defArgs si_NotFinite) (defBody si_NotFinite) (defScope si_NotFinite) .none kV2 doc2 pm2 an2 cdv2 ct2), osl2⟩)
    (cf2 : PySem.W.codeIn K cdv2 "NotFinite.__init__" = true)
    (kf2 : PySem.W.keepIn K (.ref f2) = true)
    (c_SIGN : PySem.W.nsIn K mainGlobals "SIGN" = some (some (.int 9223372036854775808 t_SIGN)))
    (c_UNSIGNED : PySem.W.nsIn K mainGlobals "UNSIGNED" = some (some (.int 9223372036854775807 t_UNSIGNED)))
    (c_INFINITE : PySem.W.nsIn K mainGlobals "INFINITE" = some (some (.int 9218868437227405312 t_INFINITE)))
    (c_FRACTION : PySem.W.nsIn K mainGlobals "FRACTION" = some (some (.int 4503599627370495 t_FRACTION)))
    (c_LEADING : PySem.W.nsIn K mainGlobals "LEADING" = some (some (.int 4503599627370496 t_LEADING)))
    (c_ONE : PySem.W.nsIn K mainGlobals "ONE" = some (some (.int 4607182418800017408 t_ONE)))
    (c_TWO : PySem.W.nsIn K mainGlobals "TWO" = some (some (.int 4611686018427387904 t_TWO)))
    (c_UNIT_PLACE : PySem.W.nsIn K mainGlobals "UNIT_PLACE" = some (some (.int 1074 t_UNIT_PLACE)))
    (c_QUOTIENT_SHIFT : PySem.W.nsIn K mainGlobals "QUOTIENT_SHIFT" = some (some (.int 110 t_QUOTIENT_SHIFT)))
    (c_ROOT_SHIFT : PySem.W.nsIn K mainGlobals "ROOT_SHIFT" = some (some (.int 110 t_ROOT_SHIFT)))
    (c_LARGEST_SIZE : PySem.W.nsIn K mainGlobals "LARGEST_SIZE" = some (some (.int 32 t_LARGEST_SIZE)))
    (c_LARGEST_ROUNDS : PySem.W.nsIn K mainGlobals "LARGEST_ROUNDS" = some (some (.int 64 t_LARGEST_ROUNDS)))
    (b_len : PySem.W.nsIn K mainGlobals "len" = some none)
    (b_range : PySem.W.nsIn K mainGlobals "range" = some none)
    (b_list : PySem.W.nsIn K mainGlobals "list" = some none)
    (b_sorted : PySem.W.nsIn K mainGlobals "sorted" = some none) :
    ∃ R : Addr, mg "Refusal" = some (.ref R) ∧ ∀ (P : Program) (w : World) (base : Heap), Cn P w K mg base R := by
  have F0 := fun_mk (st := si_Refusal) lR cR kR
  have b0 := F0.binds (ps := ["self", "number"]) fun _ _ _ _ _ _ us hl => match us, hl with | [_, _], _ => rfl
  have B : Rb K mg R f0 _ := ⟨F0, b0, PySem.W.mg_of X G aR, gR, dR, fR⟩
  have F1 := fun_mk (st := si_OutOfRange) lf1 cf1 kf1
  have b1 := F1.binds (ps := ["self"]) fun _ _ _ _ _ _ us hl => match us, hl with | [_], _ => rfl
  have x1 : XCls K C1 f1 := xcls_mk l1 ha1 hb1 hc1 m0_1 m1_1 m2_1 m3_1 m4_1 ca1 in1 ty1 fi1 tf1
  have r1 : XR K R C1 := ⟨xattr_mk [C1, R] cl1 hd1 mo1 sa1 ga1 gh1 nn1 m5_1 m2_1, exm_mk mR (by rw [clR]; rfl) tR m6_1⟩
  have F2 := fun_mk (st := si_NotFinite) lf2 cf2 kf2
  have b2 := F2.binds (ps := ["self"]) fun _ _ _ _ _ _ us hl => match us, hl with | [_], _ => rfl
  have x2 : XCls K C2 f2 := xcls_mk l2 ha2 hb2 hc2 m0_2 m1_2 m2_2 m3_2 m4_2 ca2 in2 ty2 fi2 tf2
  have r2 : XR K R C2 := ⟨xattr_mk [C2, R] cl2 hd2 mo2 sa2 ga2 gh2 nn2 m5_2 m2_2, exm_mk mR (by rw [clR]; rfl) tR m6_2⟩
  exact ⟨R, PySem.W.mg_of X G aR, fun P w base => ⟨⟨_, PySem.W.mg_of X G c_SIGN⟩, ⟨_, PySem.W.mg_of X G c_UNSIGNED⟩, ⟨_, PySem.W.mg_of X G c_INFINITE⟩, ⟨_, PySem.W.mg_of X G c_FRACTION⟩, ⟨_, PySem.W.mg_of X G c_LEADING⟩, ⟨_, PySem.W.mg_of X G c_ONE⟩, ⟨_, PySem.W.mg_of X G c_TWO⟩, ⟨_, PySem.W.mg_of X G c_UNIT_PLACE⟩, ⟨_, PySem.W.mg_of X G c_QUOTIENT_SHIFT⟩, ⟨_, PySem.W.mg_of X G c_ROOT_SHIFT⟩, ⟨_, PySem.W.mg_of X G c_LARGEST_SIZE⟩, ⟨_, PySem.W.mg_of X G c_LARGEST_ROUNDS⟩, PySem.W.mg_none_of X G b_len, PySem.W.mg_none_of X G b_range, PySem.W.mg_none_of X G b_list, PySem.W.mg_none_of X G b_sorted, ⟨⟨C1, f1, _, x1, r1, kp1, ok_OutOfRange F1 B, PySem.W.mg_of X G a1, b1⟩⟩, ⟨⟨C2, f2, _, x2, r2, kp2, ok_NotFinite F2 B, PySem.W.mg_of X G a2, b2⟩⟩⟩⟩
theorem bd_check_size {f : Addr} {fd : FuncData} {tk : Tok} (F : FunD K "check_size" "check_size" s_check_size f fd tk) : Binds K fd ["size", "smallest"] [] ∧ Binds K fd ["size", "smallest"] [.int 1 tk] := by
  obtain ⟨oc, od, T, kV, doc, pm, an, cdv, ct, osl, tc, td, n, tsl, rfl, lk, hcd, lt⟩ := F.ex
  refine ⟨fun s us X hl => ?_, fun s us X hl => ?_⟩
  · obtain ⟨a, b, rfl⟩ := len2 (by simpa using hl)
    exact BindsTo.of_defaults rfl (X _ _ lt) rfl rfl rfl
  · obtain ⟨a, rfl⟩ := len1 (by simpa using hl)
    exact BindsTo.of_defaults rfl (X _ _ lt) rfl rfl rfl
def sp_size_of (K : PySem.W.Frag) : Sp := spN1 fun x => .int ((x % 2 ^ 63 : Nat) : Int)
theorem sc_size_of : FnScope ["x"] ["x"] (defScope s_size_of) := ⟨rfl, rfl, rfl, by decide +kernel, rfl, by decide +kernel, by decide +kernel⟩
theorem ok_size_of {f : Addr} {fd : FuncData} (F : Fun K "size_of" "size_of" s_size_of f fd) (T : Cn P w K mg base R)
     : FnOk P w K mg base CX0 1 f fd ["x"] (sp_size_of K) := by
  refine okX F sc_size_of (fun vs H Q E h => ?_) (fun cdv A outer s H vs Q E hr h => ?_)
  · obtain ⟨x, rfl, _⟩ := h
    rfl
  · obtain ⟨x, rfl, hx, k⟩ := h
    refine ⟨_, (pss_one (ps_ret (pe_op op_and (pv 0) (pgc T.c_UNSIGNED)))), ?_⟩
    dsimp only at k
    refine ⟨_, rfl, _, _, rfl, rfl, ?_⟩
    rw [← and_uns] at k
    exact k
def sp_is_finite (K : PySem.W.Frag) : Sp := spN1 fun x => .bl (Kg26.fin x)
theorem sc_is_finite : FnScope ["x"] ["x"] (defScope s_is_finite) := ⟨rfl, rfl, rfl, by decide +kernel, rfl, by decide +kernel, by decide +kernel⟩
theorem ok_is_finite {f : Addr} {fd : FuncData} (F : Fun K "is_finite" "is_finite" s_is_finite f fd) (T : Cn P w K mg base R)
     : FnOk P w K mg base CX0 1 f fd ["x"] (sp_is_finite K) := by
  refine okX F sc_is_finite (fun vs H Q E h => ?_) (fun cdv A outer s H vs Q E hr h => ?_)
  · obtain ⟨x, rfl, _⟩ := h
    rfl
  · obtain ⟨x, rfl, hx, k⟩ := h
    refine ⟨_, (pss_one (ps_ret (pe_cmpR op_lt (pe_op op_and (pv 0) (pgc T.c_UNSIGNED)) (pgc T.c_INFINITE) (nomark _)))), ?_⟩
    dsimp only at k
    refine ⟨_, rfl, _, _, rfl, rfl, _, _, rfl, rfl, ?_⟩
    rw [← fin_eq hx] at k
    exact k
def sp_whole_of (K : PySem.W.Frag) : Sp := spN1 fun x => .int ((whole x : Nat) : Int)
theorem sc_whole_of : FnScope ["x"] ["x"] (defScope s_whole_of) := ⟨rfl, rfl, rfl, by decide +kernel, rfl, by decide +kernel, by decide +kernel⟩
theorem ok_whole_of {f : Addr} {fd : FuncData} (F : Fun K "whole_of" "whole_of" s_whole_of f fd) (T : Cn P w K mg base R)
     : FnOk P w K mg base CX0 1 f fd ["x"] (sp_whole_of K) := by
  refine okX F sc_whole_of (fun vs H Q E h => ?_) (fun cdv A outer s H vs Q E hr h => ?_)
  · obtain ⟨x, rfl, _⟩ := h
    rfl
  · obtain ⟨x, rfl, hx, k⟩ := h
    refine ⟨_, (pss_cons (ps_if (pt_truth (pe_op op_and (pv 0) (pgc T.c_INFINITE)) (fun _ => rfl)) (pss_one (ps_ret (pe_op op_or (pe_op op_and (pv 0) (pgc T.c_FRACTION)) (pgc T.c_LEADING)))) pss_nil)
      (pss_one (ps_ret (pe_op op_and (pv 0) (pgc T.c_FRACTION))))), ?_⟩
    dsimp only at k
    refine ⟨_, rfl, _, _, rfl, rfl, _, rfl, iteB (fun z => ?_) (fun z => ?_)⟩
    · refine ⟨_, rfl, _, _, rfl, rfl, _, _, rfl, rfl, ?_⟩
      rw [← whole_pos z] at k
      exact k
    · refine ⟨_, rfl, _, _, rfl, rfl, ?_⟩
      rw [← whole_neg z] at k
      exact k
def sp_place_of (K : PySem.W.Frag) : Sp := spN1 fun x => .int ((place x : Nat) : Int)
theorem sc_place_of : FnScope ["x", "field"] ["x"] (defScope s_place_of) := ⟨rfl, rfl, rfl, by decide +kernel, rfl, by decide +kernel, by decide +kernel⟩
theorem ok_place_of {f : Addr} {fd : FuncData} (F : Fun K "place_of" "place_of" s_place_of f fd) (T : Cn P w K mg base R)
     : FnOk P w K mg base CX0 1 f fd ["x"] (sp_place_of K) := by
  refine okX F sc_place_of (fun vs H Q E h => ?_) (fun cdv A outer s H vs Q E hr h => ?_)
  · obtain ⟨x, rfl, _⟩ := h
    rfl
  · obtain ⟨x, rfl, hx, k⟩ := h
    refine ⟨_, (pss_cons (ps_set (i := 1) sc_place_of.nd rfl (Or.inl rfl) (pe_op op_shr (pe_op op_and (pv 0) (pgc T.c_UNSIGNED)) pe_int))
      (pss_one (ps_ret (pe_join (pe_ifExp (pt_truth (pv 1) (fun _ => rfl)) (pe_op op_sub (pv 1) pe_int) pe_int))))), ?_⟩
    have e := field_eq x
    refine ⟨_, rfl, _, _, rfl, rfl, _, _, rfl, rfl, (by show (0 : Int) ≤ 52; decide), ?_⟩
    refine ⟨fun v H' => v = .int ((place x : Nat) : Int) ∧ H' = H, ⟨_, rfl, _, rfl, ?_⟩, fun v H' z => ?_⟩
    · refine iteB (fun z => ?_) (fun z => ?_)
      · refine ⟨_, rfl, _, _, rfl, rfl, congrArg V.int ?_, rfl⟩
        show Builtin.bitAnd (x : Int) 9223372036854775807 / 2 ^ (52 : Int).toNat - 1 = _
        have z' : Builtin.bitAnd (x : Int) 9223372036854775807 / 2 ^ (52 : Int).toNat ≠ 0 := by simpa using z
        rw [e] at z' ⊢
        unfold place
        omega
      · refine ⟨congrArg V.int ?_, rfl⟩
        have z' : Builtin.bitAnd (x : Int) 9223372036854775807 / 2 ^ (52 : Int).toNat = 0 := by simpa using z
        rw [e] at z'
        unfold place
        omega
    · obtain ⟨rfl, rfl⟩ := z
      exact k
def sp_rounded (K : PySem.W.Frag) : Sp := spRnd
theorem sc_rounded : FnScope ["whole", "place", "drop", "odd", "kept", "bits"] ["whole", "place"] (defScope s_rounded) := ⟨rfl, rfl, rfl, by decide +kernel, rfl, by decide +kernel, by decide +kernel⟩
theorem ok_rounded {f : Addr} {fd : FuncData} (F : Fun K "rounded" "rounded" s_rounded f fd) (T : Cn P w K mg base R)
     : FnOk P w K mg base (CXr P w K R) 4 f fd ["whole", "place"] (sp_rounded K) := by
  refine okX F sc_rounded (fun vs H Q E h => ?_) (fun cdv A outer s H vs Q E hr h => ?_)
  · obtain ⟨w, p, rfl, _⟩ := h
    rfl
  · obtain ⟨w0, p, rfl, hw, hp, k1, k2⟩ := h
    have hfl : Flies R (cxOf (CXr P w K R) P w K mg base ["whole", "place", "drop", "odd", "kept", "bits"] "rounded" (defScope s_rounded) f cdv A outer s H E) E := flies_fn
    have hpx := passes_of hfl
    refine ⟨_, (pss_cons (ps_if (pt_cmpR op_eq (pv 0) pe_int (nomark _)) (pss_one (ps_ret pe_int)) pss_nil)
      (pss_cons (ps_set (i := 2) sc_rounded.nd rfl (Or.inl rfl) (pe_op op_sub (pe_bm0 PySem.F.plainAttrs_int PySem.F.slot_int_bit_length PySem.F.type_int_bit_length mt_bitlen (pv 0)) pe_int))
      (pss_cons (ps_join (ps_if (pt_cmpR op_lt (pv 2) (pe_un un_neg (pv 1)) (nomark _)) (pss_one (ps_set (i := 2) sc_rounded.nd rfl (Or.inl rfl) (pe_un un_neg (pv 1)))) pss_nil))
      (pss_cons (ps_join (ps_if (pt_cmpR op_gt (pv 2) pe_int (nomark _)) (pss_cons (ps_set (i := 3) sc_rounded.nd rfl (Or.inl rfl) (pe_op op_and (pe_op op_shr (pv 0) (pv 2)) pe_int))
      (pss_one (ps_set (i := 4) sc_rounded.nd rfl (Or.inl rfl) (pe_op op_shr (pe_op op_add (pe_op op_sub (pe_op op_add (pv 0) (pe_op op_shlB pe_int (pe_op op_sub (pv 2) pe_int))) pe_int) (pv 3)) (pv 2))))) (pss_one (ps_set (i := 4) sc_rounded.nd rfl (Or.inl rfl) (pe_op op_shlB (pv 0) (pe_un un_neg (pv 2)))))))
      (pss_cons (ps_set (i := 5) sc_rounded.nd rfl (Or.inl rfl) (pe_op op_add (pe_op op_shlB (pe_op op_add (pv 1) (pv 2)) pe_int) (pv 4)))
      (pss_cons (ps_if (pt_cmpR op_ge (pv 5) (pgc T.c_INFINITE) (nomark _)) (pss_one (praise T.z_NotFinite hr hfl)) pss_nil)
      (pss_one (ps_ret (pv 5))))))))), ?_⟩
    clear hpx hfl
    refine ⟨_, rfl, rfl, _, rfl, iteD (fun z => ?_) (fun z => ?_)⟩
    · have z' : (w0 : Int) = 0 := V.int.inj z
      obtain rfl : w0 = 0 := by omega
      exact k1 (by rw [rnd_zero]; decide)
    have hw0 : w0 ≠ 0 := fun q => z (by rw [q]; rfl)
    have hbl := intBits_nat hw0
    obtain ⟨d, hd⟩ : ∃ d : Int, d = max ((w0.log2 : Int) + 1 - 53) (-p) := ⟨_, rfl⟩
    have hr0 := rnd_kept hw0 p hd
    refine ⟨_, rfl, rfl, _, rfl, rfl, _, _, rfl, rfl, ?_⟩
    refine ⟨fun σ' H' => H' = H ∧ σ' = [some (.int w0), some (.int p), some (.int d), none, none, none], ⟨_, rfl, _, rfl, _, rfl, _, _, rfl, rfl, _, rfl, iteD (fun z => ?_) (fun z => ?_)⟩, fun σ' H' z => ?_⟩
    · refine ⟨_, rfl, _, rfl, rfl, ?_⟩
      have e : -p = d := by
        have z' : (Builtin.Int.intBits (w0 : Int) : Int) - 53 < -p := z
        rw [hbl] at z'
        omega
      rw [← e]
      rfl
    · refine ⟨rfl, ?_⟩
      have e : (Builtin.Int.intBits (w0 : Int) : Int) - 53 = d := by
        have z' : ¬ (Builtin.Int.intBits (w0 : Int) : Int) - 53 < -p := z
        rw [hbl] at z' ⊢
        omega
      rw [← e]
      rfl
    obtain ⟨rfl, rfl⟩ := z
    refine ⟨fun σ' H'' => H'' = H' ∧ ∃ o, σ' = [some (.int w0), some (.int p), some (.int d), o, some (.int (keptOf w0 d : Nat)), none], ⟨_, rfl, _, _, rfl, rfl, _, rfl, iteD (fun z => ?_) (fun z => ?_)⟩, fun σ' H'' z => ?_⟩
    · have z' : 0 < d := z
      refine ⟨_, rfl, _, rfl, _, _, rfl, rfl, (by show 0 ≤ d; omega), _, _, rfl, rfl, ?_⟩
      refine ⟨_, rfl, _, rfl, _, _, rfl, rfl, _, _, rfl, rfl, (by show 0 ≤ d - 1 ∧ d - 1 ≤ 1000000 ∧ _; exact ⟨by omega, by omega, by decide⟩), _, _, rfl, rfl, _, _, rfl, rfl, _, rfl, _, _, rfl, rfl, _, rfl, _, _, rfl, rfl, (by show 0 ≤ d; omega), rfl, some (.int (Builtin.bitAnd ((w0 : Int) / 2 ^ d.toNat) 1)), ?_⟩
      have e := kept_pos w0 z'
      have e2 : keptOf w0 d = (w0 + 2 ^ (d - 1).toNat - 1 + w0 / 2 ^ d.toNat % 2) / 2 ^ d.toNat := by unfold keptOf; rw [if_pos z']
      rw [e2, ← e]
      rfl
    · have z' : ¬ 0 < d := z
      refine ⟨_, rfl, _, rfl, _, rfl, _, _, rfl, rfl, (by show 0 ≤ -d ∧ -d ≤ 1000000 ∧ _; exact ⟨by omega, by omega, intBits_log hw⟩), rfl, none, ?_⟩
      have e2 : keptOf w0 d = w0 * 2 ^ (-d).toNat := by unfold keptOf; rw [if_neg z']
      rw [e2, ← kept_neg]
      rfl
    obtain ⟨rfl, o, rfl⟩ := z
    refine ⟨_, rfl, _, rfl, _, _, rfl, rfl, _, _, rfl, rfl, (by show 0 ≤ (52 : Int) ∧ (52 : Int) ≤ 1000000 ∧ Builtin.Int.intBits (p + d) ≤ 5000; exact ⟨by decide, by decide, Nat.le_trans (intBits_le_64 (by omega) (by omega)) (by decide)⟩), _, rfl, _, _, rfl, rfl, ?_⟩
    have hb := bits_eq (p := p) (d := d) (by omega) (keptOf w0 d)
    rw [← hr0] at hb
    refine ⟨_, rfl, _, _, rfl, rfl, _, rfl, iteD (fun z => ?_) (fun z => ?_)⟩
    · refine k2 fun q => ?_
      have z' : (9218868437227405312 : Int) ≤ (p + d) * 2 ^ (52 : Int).toNat + (keptOf w0 d : Int) := z
      rw [hb] at z'
      unfold Kg26.INF at q
      omega
    · have z' : ¬ (9218868437227405312 : Int) ≤ (p + d) * 2 ^ (52 : Int).toNat + (keptOf w0 d : Int) := z
      rw [hb] at z'
      refine ⟨_, rfl, ?_⟩
      have := k1 (by unfold Kg26.INF; omega)
      rw [← hb] at this
      exact this
def sp_add (K : PySem.W.Frag) : Sp := spO2 Kg26.add
theorem sc_add : FnScope ["x", "y", "x_place", "y_place", "place", "x_whole", "y_whole", "total"] ["x", "y"] (defScope s_add) := ⟨rfl, rfl, rfl, by decide +kernel, rfl, by decide +kernel, by decide +kernel⟩
theorem ok_add {f : Addr} {fd : FuncData} (F : Fun K "add" "add" s_add f fd) (T : Cn P w K mg base R)
    (G_whole_of : Df P w K mg base CX0 1 "whole_of" [] (sp_whole_of K))
    (G_place_of : Df P w K mg base CX0 1 "place_of" [] (sp_place_of K))
    (G_rounded : Df P w K mg base (CXr P w K R) 4 "rounded" [] (sp_rounded K)) : FnOk P w K mg base (CXr P w K R) 5 f fd ["x", "y"] (sp_add K) := by
  refine okX F sc_add (fun vs H Q E h => ?_) (fun cdv A outer s H vs Q E hr h => ?_)
  · obtain ⟨x, y, rfl, _⟩ := h
    rfl
  · obtain ⟨x, y, rfl, fx, fy, k⟩ := h
    have hfl : Flies R (cxOf (CXr P w K R) P w K mg base ["x", "y", "x_place", "y_place", "place", "x_whole", "y_whole", "total"] "add" (defScope s_add) f cdv A outer s H E) E := flies_fn
    have hpx := passes_of hfl
    refine ⟨_, (pss_cons (ps_set (i := 2) sc_add.nd rfl (Or.inl rfl) (pf G_place_of hr pass0 (pa_cons (pv 0) pa_nil)))
      (pss_cons (ps_set (i := 3) sc_add.nd rfl (Or.inl rfl) (pf G_place_of hr pass0 (pa_cons (pv 1) pa_nil)))
      (pss_cons (ps_set (i := 4) sc_add.nd rfl (Or.inl rfl) (pe_join (pe_ifExp (pt_cmpR op_lt (pv 2) (pv 3) (nomark _)) (pv 2) (pv 3))))
      (pss_cons (ps_set (i := 5) sc_add.nd rfl (Or.inl rfl) (pe_op op_shlB (pf G_whole_of hr pass0 (pa_cons (pv 0) pa_nil)) (pe_op op_sub (pv 2) (pv 4))))
      (pss_cons (ps_set (i := 6) sc_add.nd rfl (Or.inl rfl) (pe_op op_shlB (pf G_whole_of hr pass0 (pa_cons (pv 1) pa_nil)) (pe_op op_sub (pv 3) (pv 4))))
      (pss_cons (ps_set (i := 7) sc_add.nd rfl (Or.inl rfl) (pe_op op_add (pe_join (pe_ifExp (pt_truth (pe_op op_and (pv 0) (pgc T.c_SIGN)) (fun _ => rfl)) (pe_un un_neg (pv 5)) (pv 5))) (pe_join (pe_ifExp (pt_truth (pe_op op_and (pv 1) (pgc T.c_SIGN)) (fun _ => rfl)) (pe_un un_neg (pv 6)) (pv 6)))))
      (pss_cons (ps_if (pt_cmpR op_eq (pv 7) pe_int (nomark _)) (pss_one (ps_ret (pe_op op_and (pe_op op_and (pv 0) (pv 1)) (pgc T.c_SIGN)))) pss_nil)
      (pss_cons (ps_if (pt_cmpR op_lt (pv 7) pe_int (nomark _)) (pss_one (ps_ret (pe_op op_or (pgc T.c_SIGN) (pf G_rounded hr hpx (pa_cons (pe_un un_neg (pv 7)) (pa_cons (pv 4) pa_nil)))))) pss_nil)
      (pss_one (ps_ret (pf G_rounded hr hpx (pa_cons (pv 7) (pa_cons (pv 4) pa_nil))))))))))))), ?_⟩
    clear hpx hfl
    have hx := fin_lt fx
    have hy := fin_lt fy
    have px := place_le fx
    have py := place_le fy
    have hlog := total_log fx fy
    obtain ⟨p, hp⟩ : ∃ p, p = min (place x) (place y) := ⟨_, rfl⟩
    obtain ⟨t, ht⟩ : ∃ t, t = total x y := ⟨_, rfl⟩
    rw [add_eq, ← hp, ← ht] at k
    rw [← ht] at hlog
    refine ⟨_, rfl, x, rfl, hx, _, rfl, y, rfl, hy, ?_⟩
    refine ⟨fun v H' => v = .int (p : Int) ∧ H' = H, ⟨_, rfl, _, rfl, _, _, rfl, rfl, _, rfl, iteD (fun z => ?_) (fun z => ?_)⟩, fun v H' z => ?_⟩
    · exact ⟨_, rfl, congrArg V.int (by omega), rfl⟩
    · exact ⟨_, rfl, congrArg V.int (by omega), rfl⟩
    obtain ⟨rfl, rfl⟩ := z
    refine ⟨_, rfl, x, rfl, hx, _, rfl, _, rfl, _, _, rfl, rfl, _, _, rfl, rfl, (by show 0 ≤ (place x : Int) - (p : Int) ∧ (place x : Int) - (p : Int) ≤ 1000000 ∧ _; exact ⟨by omega, by omega, whole_bits x⟩), ?_⟩
    refine ⟨_, rfl, y, rfl, hy, _, rfl, _, rfl, _, _, rfl, rfl, _, _, rfl, rfl, (by show 0 ≤ (place y : Int) - (p : Int) ∧ (place y : Int) - (p : Int) ≤ 1000000 ∧ _; exact ⟨by omega, by omega, whole_bits y⟩), ?_⟩
    have ex := shl_nat (whole x) (place x) p
    have ey := shl_nat (whole y) (place y) p
    refine ⟨fun v H'' => v = .int (if Kg26.neg x = true then -((whole x * 2 ^ (place x - p) : Nat) : Int) else ((whole x * 2 ^ (place x - p) : Nat) : Int)) ∧ H'' = H', ⟨_, rfl, _, _, rfl, rfl, _, rfl, iteB (fun z => ?_) (fun z => ?_)⟩, fun v H'' z => ?_⟩
    · refine ⟨_, rfl, _, rfl, congrArg V.int ?_, rfl⟩
      rw [if_pos (sgn_pos hx z), ← ex]
    · refine ⟨_, rfl, congrArg V.int ?_, rfl⟩
      rw [if_neg (sgn_neg hx z), ← ex]
    obtain ⟨rfl, rfl⟩ := z
    refine ⟨fun v H' => v = .int (if Kg26.neg y = true then -((whole y * 2 ^ (place y - p) : Nat) : Int) else ((whole y * 2 ^ (place y - p) : Nat) : Int)) ∧ H' = H'', ⟨_, rfl, _, _, rfl, rfl, _, rfl, iteB (fun z => ?_) (fun z => ?_)⟩, fun v H' z => ?_⟩
    · refine ⟨_, rfl, _, rfl, congrArg V.int ?_, rfl⟩
      rw [if_pos (sgn_pos hy z), ← ey]
    · refine ⟨_, rfl, congrArg V.int ?_, rfl⟩
      rw [if_neg (sgn_neg hy z), ← ey]
    obtain ⟨rfl, rfl⟩ := z
    refine ⟨_, _, rfl, rfl, ?_⟩
    have et : (if Kg26.neg x = true then -((whole x * 2 ^ (place x - p) : Nat) : Int) else ((whole x * 2 ^ (place x - p) : Nat) : Int)) + (if Kg26.neg y = true then -((whole y * 2 ^ (place y - p) : Nat) : Int) else ((whole y * 2 ^ (place y - p) : Nat) : Int)) = t := by
      rw [ht]
      unfold total
      rw [← hp]
    dsimp only
    rw [et]
    refine ⟨_, rfl, rfl, _, rfl, iteD (fun z => ?_) (fun z => ?_)⟩
    · have z' : t = 0 := V.int.inj z
      refine ⟨_, rfl, _, rfl, _, _, rfl, rfl, _, _, rfl, rfl, ?_⟩
      rw [if_pos z'] at k
      have := k.1 _ rfl
      refine qint Q (and_and_sign hx hy) ?_
      unfold Kg26.SIGN at this
      by_cases c : Kg26.neg x = true ∧ Kg26.neg y = true
      · rw [if_pos c] at this ⊢; exact this
      · rw [if_neg c] at this ⊢; exact this
    have z' : ¬ t = 0 := fun q => z (congrArg V.int q)
    rw [if_neg z'] at k
    refine ⟨_, rfl, _, _, rfl, rfl, _, rfl, iteD (fun z => ?_) (fun z => ?_)⟩
    · have z2 : t < 0 := z
      rw [decide_eq_true z2] at k
      refine ⟨_, rfl, _, rfl, _, rfl, t.natAbs, p, vint1 (show -t = (t.natAbs : Int) by omega), hlog, ⟨by omega, by omega⟩, fun q => ?_, fun q => oq_inf k q⟩
      refine ⟨_, _, rfl, rfl, ?_⟩
      have e := or_sign true (inf63 q)
      rw [if_pos rfl] at e
      exact qint Q e (oq_signed k q)
    · have z2 : ¬ t < 0 := z
      rw [decide_eq_false z2] at k
      refine ⟨_, rfl, _, rfl, t.natAbs, p, vint1 (show t = (t.natAbs : Int) by omega), hlog, ⟨by omega, by omega⟩, fun q => ?_, fun q => oq_inf k q⟩
      have := oq_signed k q
      rw [if_neg (by decide), Nat.zero_add] at this
      exact this
def sp_subtract (K : PySem.W.Frag) : Sp := spO2 Kg26.sub
theorem sc_subtract : FnScope ["x", "y"] ["x", "y"] (defScope s_subtract) := ⟨rfl, rfl, rfl, by decide +kernel, rfl, by decide +kernel, by decide +kernel⟩
theorem ok_subtract {f : Addr} {fd : FuncData} (F : Fun K "subtract" "subtract" s_subtract f fd) (T : Cn P w K mg base R)
    (G_add : Df P w K mg base (CXr P w K R) 5 "add" [] (sp_add K)) : FnOk P w K mg base (CXr P w K R) 6 f fd ["x", "y"] (sp_subtract K) := by
  refine okX F sc_subtract (fun vs H Q E h => ?_) (fun cdv A outer s H vs Q E hr h => ?_)
  · obtain ⟨x, y, rfl, _⟩ := h
    rfl
  · obtain ⟨x, y, rfl, fx, fy, k⟩ := h
    have hfl : Flies R (cxOf (CXr P w K R) P w K mg base ["x", "y"] "subtract" (defScope s_subtract) f cdv A outer s H E) E := flies_fn
    have hpx := passes_of hfl
    refine ⟨_, (pss_one (ps_ret (pf G_add hr hpx (pa_cons (pv 0) (pa_cons (pe_op op_xor (pv 1) (pgc T.c_SIGN)) pa_nil))))), ?_⟩
    clear hpx hfl
    have e := xor_sign (fin_lt fy)
    refine ⟨_, rfl, _, rfl, _, _, rfl, rfl, x, Kg26.flip y, ?_, fx, fin_flip fy, k⟩
    rw [← e]
    rfl
def sp_multiply (K : PySem.W.Frag) : Sp := spO2 Kg26.mul
theorem sc_multiply : FnScope ["x", "y", "place"] ["x", "y"] (defScope s_multiply) := ⟨rfl, rfl, rfl, by decide +kernel, rfl, by decide +kernel, by decide +kernel⟩
theorem ok_multiply {f : Addr} {fd : FuncData} (F : Fun K "multiply" "multiply" s_multiply f fd) (T : Cn P w K mg base R)
    (G_whole_of : Df P w K mg base CX0 1 "whole_of" [] (sp_whole_of K))
    (G_place_of : Df P w K mg base CX0 1 "place_of" [] (sp_place_of K))
    (G_rounded : Df P w K mg base (CXr P w K R) 4 "rounded" [] (sp_rounded K)) : FnOk P w K mg base (CXr P w K R) 5 f fd ["x", "y"] (sp_multiply K) := by
  refine okX F sc_multiply (fun vs H Q E h => ?_) (fun cdv A outer s H vs Q E hr h => ?_)
  · obtain ⟨x, y, rfl, _⟩ := h
    rfl
  · obtain ⟨x, y, rfl, fx, fy, k⟩ := h
    have hfl : Flies R (cxOf (CXr P w K R) P w K mg base ["x", "y", "place"] "multiply" (defScope s_multiply) f cdv A outer s H E) E := flies_fn
    have hpx := passes_of hfl
    refine ⟨_, (pss_cons (ps_set (i := 2) sc_multiply.nd rfl (Or.inl rfl) (pe_op op_sub (pe_op op_add (pf G_place_of hr pass0 (pa_cons (pv 0) pa_nil)) (pf G_place_of hr pass0 (pa_cons (pv 1) pa_nil))) (pgc T.c_UNIT_PLACE)))
      (pss_one (ps_ret (pe_op op_or (pe_op op_and (pe_op op_xor (pv 0) (pv 1)) (pgc T.c_SIGN)) (pf G_rounded hr hpx (pa_cons (pe_op op_mulB (pf G_whole_of hr pass0 (pa_cons (pv 0) pa_nil)) (pf G_whole_of hr pass0 (pa_cons (pv 1) pa_nil))) (pa_cons (pv 2) pa_nil))))))), ?_⟩
    clear hpx hfl
    have hx := fin_lt fx
    have hy := fin_lt fy
    have px := place_le fx
    have py := place_le fy
    rw [mul_eq] at k
    have hw : whole x * whole y < 2 ^ (53 + 53) := by
      rw [Nat.pow_add]
      exact Nat.mul_lt_mul'' (whole_lt x) (whole_lt y)
    refine ⟨_, rfl, x, rfl, hx, _, rfl, y, rfl, hy, _, _, rfl, rfl, _, _, rfl, rfl, ?_⟩
    refine ⟨_, rfl, _, rfl, _, _, rfl, rfl, _, _, rfl, rfl, _, rfl, x, rfl, hx, _, rfl, y, rfl, hy, _, _, rfl, rfl, ⟨whole_bits x, whole_bits y⟩, _, rfl, whole x * whole y, _, vint1 (Int.natCast_mul _ _).symm, log2_small hw (by decide), ⟨by omega, by omega⟩, fun q => ?_, fun q => oq_inf k q⟩
    refine ⟨_, _, rfl, rfl, ?_⟩
    exact qint Q ((congrArg (fun z => Builtin.bitOr z _) (and_xor_sign hx hy)).trans (or_sign _ (inf63 q))) (oq_signed k q)
def sp_divide (K : PySem.W.Frag) : Sp := spO2 Kg26.div
theorem sc_divide : FnScope ["x", "y", "below", "above", "quotient", "place"] ["x", "y"] (defScope s_divide) := ⟨rfl, rfl, rfl, by decide +kernel, rfl, by decide +kernel, by decide +kernel⟩
theorem ok_divide {f : Addr} {fd : FuncData} (F : Fun K "divide" "divide" s_divide f fd) (T : Cn P w K mg base R)
    (G_whole_of : Df P w K mg base CX0 1 "whole_of" [] (sp_whole_of K))
    (G_place_of : Df P w K mg base CX0 1 "place_of" [] (sp_place_of K))
    (G_rounded : Df P w K mg base (CXr P w K R) 4 "rounded" [] (sp_rounded K)) : FnOk P w K mg base (CXr P w K R) 5 f fd ["x", "y"] (sp_divide K) := by
  refine okX F sc_divide (fun vs H Q E h => ?_) (fun cdv A outer s H vs Q E hr h => ?_)
  · obtain ⟨x, y, rfl, _⟩ := h
    rfl
  · obtain ⟨x, y, rfl, fx, fy, k⟩ := h
    have hfl : Flies R (cxOf (CXr P w K R) P w K mg base ["x", "y", "below", "above", "quotient", "place"] "divide" (defScope s_divide) f cdv A outer s H E) E := flies_fn
    have hpx := passes_of hfl
    refine ⟨_, (pss_cons (ps_set (i := 2) sc_divide.nd rfl (Or.inl rfl) (pf G_whole_of hr pass0 (pa_cons (pv 1) pa_nil)))
      (pss_cons (ps_if (pt_cmpR op_eq (pv 2) pe_int (nomark _)) (pss_one (praise T.z_NotFinite hr hfl)) pss_nil)
      (pss_cons (ps_set (i := 3) sc_divide.nd rfl (Or.inl rfl) (pe_op op_shlB (pf G_whole_of hr pass0 (pa_cons (pv 0) pa_nil)) (pgc T.c_QUOTIENT_SHIFT)))
      (pss_cons (ps_set (i := 4) sc_divide.nd rfl (Or.inl rfl) (pe_op op_fdivB (pv 3) (pv 2)))
      (pss_cons (ps_join (ps_if (pt_cmpR op_ne (pe_op op_mulB (pv 4) (pv 2)) (pv 3) (nomark _)) (pss_one (ps_set (i := 4) sc_divide.nd rfl (Or.inl rfl) (pe_op op_or (pv 4) pe_int))) pss_nil))
      (pss_cons (ps_set (i := 5) sc_divide.nd rfl (Or.inl rfl) (pe_op op_sub (pe_op op_add (pe_op op_sub (pf G_place_of hr pass0 (pa_cons (pv 0) pa_nil)) (pf G_place_of hr pass0 (pa_cons (pv 1) pa_nil))) (pgc T.c_UNIT_PLACE)) (pgc T.c_QUOTIENT_SHIFT)))
      (pss_one (ps_ret (pe_op op_or (pe_op op_and (pe_op op_xor (pv 0) (pv 1)) (pgc T.c_SIGN)) (pf G_rounded hr hpx (pa_cons (pv 4) (pa_cons (pv 5) pa_nil)))))))))))), ?_⟩
    clear hpx hfl
    have hx := fin_lt fx
    have hy := fin_lt fy
    have px := place_le fx
    have py := place_le fy
    rw [div_eq] at k
    refine ⟨_, rfl, y, rfl, hy, ?_⟩
    refine ⟨_, rfl, rfl, _, rfl, iteD (fun z => ?_) (fun z => ?_)⟩
    · have z' : (whole y : Int) = 0 := V.int.inj z
      rw [if_pos (by omega)] at k
      exact k.2 rfl
    have z' : whole y ≠ 0 := fun q => z (vint (a := (whole y : Int)) (by rw [q]; rfl))
    rw [if_neg z'] at k
    have hwy := whole_lt y
    have eA : (whole x : Int) * 2 ^ (110 : Int).toNat = ((whole x * 2 ^ 110 : Nat) : Int) := by rw [Int.natCast_mul]; rfl
    have hA : whole x * 2 ^ 110 < 2 ^ (53 + 110) := mul_pow_lt (whole_lt x) (Nat.le_refl _)
    obtain ⟨N, hN⟩ : ∃ N, N = whole x * 2 ^ 110 := ⟨_, rfl⟩
    rw [← hN] at k eA hA
    refine ⟨_, rfl, x, rfl, hx, _, _, rfl, rfl, ⟨by decide, by decide, whole_bits x⟩, ?_⟩
    dsimp only
    rw [eA]
    have hq : N / whole y < 2 ^ (53 + 110) := Nat.lt_of_le_of_lt (Nat.div_le_self _ _) hA
    have es := sticky_int N (whole y)
    have hs : sticky N (whole y) < 2 ^ 200 := by
      have h2 := sticky_half N (whole y)
      omega
    refine ⟨_, rfl, _, rfl, _, _, rfl, rfl, ⟨by show (0 : Int) < (whole y : Int); omega, by show ((whole y : Int).natAbs).log2 < 9000; exact Nat.lt_of_lt_of_le (log2_small (k := 53) (by omega) (by decide)) (by decide)⟩, ?_⟩
    refine ⟨fun σ' H' => H' = H ∧ σ' = [some (.int x), some (.int y), some (.int (whole y : Nat)), some (.int (N : Nat)), some (.int (sticky N (whole y) : Nat)), none], ⟨_, rfl, _, rfl, _, _, rfl, rfl, ⟨intBits_small (w := N / whole y) hq (by decide), whole_bits y⟩, _, rfl, rfl, _, rfl, iteND (fun z => ?_) (fun z => ?_)⟩, fun σ' H' z => ?_⟩
    · refine ⟨_, rfl, _, _, rfl, rfl, rfl, ?_⟩
      rw [if_neg (fun q => z (congrArg V.int q))] at es
      rw [← es]
      rfl
    · refine ⟨rfl, ?_⟩
      rw [if_pos (V.int.inj z)] at es
      rw [← es]
      rfl
    obtain ⟨rfl, rfl⟩ := z
    refine ⟨_, rfl, x, rfl, hx, _, rfl, y, rfl, hy, _, _, rfl, rfl, _, _, rfl, rfl, _, _, rfl, rfl, ?_⟩
    refine ⟨_, rfl, _, rfl, _, _, rfl, rfl, _, _, rfl, rfl, _, rfl, _, rfl, sticky N (whole y), _, rfl, log2_small hs (by decide), ⟨by omega, by omega⟩, fun q => ?_, fun q => oq_inf k q⟩
    refine ⟨_, _, rfl, rfl, ?_⟩
    exact qint Q ((congrArg (fun z => Builtin.bitOr z _) (and_xor_sign hx hy)).trans (or_sign _ (inf63 q))) (oq_signed k q)
def sp_whole_root (K : PySem.W.Frag) : Sp := fun vs H Q _ => ∃ n : Nat, vs = [.int (n : Int)] ∧ 1 ≤ n ∧ n < 2 ^ 300 ∧ ∀ g, IsRoot n g → Q (.int (g : Int)) H
theorem sc_whole_root : FnScope ["number", "guess", "better"] ["number"] (defScope s_whole_root) := ⟨rfl, rfl, rfl, by decide +kernel, rfl, by decide +kernel, by decide +kernel⟩
theorem ok_whole_root {f : Addr} {fd : FuncData} (F : Fun K "whole_root" "whole_root" s_whole_root f fd) (T : Cn P w K mg base R)
     : FnOk P w K mg base CX0 1 f fd ["number"] (sp_whole_root K) := by
  refine okX F sc_whole_root (fun vs H Q E h => ?_) (fun cdv A outer s H vs Q E hr h => ?_)
  · obtain ⟨n, rfl, _⟩ := h
    rfl
  · obtain ⟨n, rfl, h1, h2, k⟩ := h
    refine ⟨_, (pss_cons (ps_set (i := 1) sc_whole_root.nd rfl (Or.inl rfl) (pe_op op_shlB pe_int (pe_op op_fdivB (pe_op op_add (pe_bm0 PySem.F.plainAttrs_int PySem.F.slot_int_bit_length PySem.F.type_int_bit_length mt_bitlen (pv 0)) pe_int) pe_int)))
      (pss_cons (ps_set (i := 2) sc_whole_root.nd rfl (Or.inl rfl) (pe_op op_fdivB (pe_op op_add (pv 1) (pe_op op_fdivB (pv 0) (pv 1))) pe_int))
      (pss_cons (ps_while own_fn (pt_cmpR op_lt (pv 2) (pv 1) (nomark _)) (pss_cons (ps_set (i := 1) sc_whole_root.nd rfl (Or.inl rfl) (pv 2))
      (pss_one (ps_set (i := 2) sc_whole_root.nd rfl (Or.inl rfl) (pe_op op_fdivB (pe_op op_add (pv 1) (pe_op op_fdivB (pv 0) (pv 1))) pe_int)))))
      (pss_one (ps_ret (pv 1)))))), ?_⟩
    have hbl := intBits_nat (w := n) (by omega)
    have hl2 : n.log2 < 300 := (Nat.log2_lt (by omega)).mpr h2
    obtain ⟨g0, hg0⟩ : ∃ g0 : Nat, g0 = 2 ^ ((n.log2 + 2) / 2) := ⟨_, rfl⟩
    have hg0p : 0 < g0 := by rw [hg0]; exact two_pos _
    have hg0l : g0.log2 < 9000 := by
      rw [hg0, Nat.log2_two_pow]
      omega
    have hn0 : n < (g0 + 1) * (g0 + 1) := by
      have e1 : n < 2 ^ (n.log2 + 1) := Nat.lt_log2_self
      have e2 : 2 ^ (n.log2 + 1) ≤ 2 ^ ((n.log2 + 2) / 2 + (n.log2 + 2) / 2) := Nat.pow_le_pow_right (by decide) (by omega)
      rw [Nat.pow_add 2 ((n.log2 + 2) / 2), ← hg0] at e2
      have e3 := Nat.mul_le_mul (Nat.le_succ g0) (Nat.le_succ g0)
      exact Nat.lt_of_lt_of_le e1 (Nat.le_trans e2 e3)
    refine ⟨_, rfl, rfl, _, rfl, rfl, _, _, rfl, rfl, _, _, rfl, rfl, ⟨by decide, by decide⟩, _, _, rfl, rfl, ⟨by rw [hbl]; show (0 : Int) ≤ ((n.log2 + 1 : Nat) + 1 : Int) / 2; omega, by rw [hbl]; show ((n.log2 + 1 : Nat) + 1 : Int) / 2 ≤ 1000000; omega, by decide⟩, ?_⟩
    have eg2 : (1 : Int) * 2 ^ ((((Builtin.Int.intBits (n : Int) : Nat) : Int) + 1) / 2).toNat = (g0 : Int) := by
      rw [hbl, hg0, Int.one_mul, pow_cast]
      have e : ((((n.log2 + 1 : Nat) : Int) + 1) / 2).toNat = (n.log2 + 2) / 2 := by omega
      rw [e]
    dsimp only
    rw [eg2]
    have hdv : ∀ g : Nat, ((g : Int) + (n : Int) / (g : Int)) / 2 = (((g + n / g) / 2 : Nat) : Int) := fun g => rfl
    have hlg : ∀ g : Nat, g ≤ g0 → 0 < g → ((0 : Int) < (g : Int) ∧ ((g : Int).natAbs).log2 < 9000) := fun g h h' => ⟨by omega, by
      show g.log2 < 9000
      exact (Nat.log2_lt (by omega)).mpr (Nat.lt_of_le_of_lt h ((Nat.log2_lt (by omega)).mp hg0l))⟩
    refine ⟨_, rfl, _, rfl, _, rfl, _, _, rfl, rfl, hlg g0 (Nat.le_refl _) hg0p, _, _, rfl, rfl, _, _, rfl, rfl, ⟨by decide, by decide⟩, ?_⟩
    dsimp only
    rw [hdv]
    refine while_by (fun σ' H' => ∃ g : Nat, H' = H ∧ 0 < g ∧ g ≤ g0 ∧ n < (g + 1) * (g + 1) ∧ σ' = [some (.int (n : Int)), some (.int (g : Int)), some (.int (((g + n / g) / 2 : Nat) : Int))]) (fun σ' _ => match σ' with | [_, some (.int g), _] => g.toNat | _ => 0) ⟨g0, rfl, hg0p, Nat.le_refl _, hn0, rfl⟩ ?_ ?_
    · rintro σ' H' ⟨g, rfl, hg, hgl, hng, rfl⟩
      refine ⟨_, rfl, _, rfl, _, _, rfl, rfl, _, rfl, iteD (fun z => ?_) (fun z => ?_)⟩
      · have z' : (g + n / g) / 2 < g := by have : (((g + n / g) / 2 : Nat) : Int) < (g : Int) := z; omega
        have hnw := newton (n := n) hg
        have hp : 0 < (g + n / g) / 2 := by
          rcases Nat.eq_zero_or_pos ((g + n / g) / 2) with y | y
          · rw [y] at hnw; omega
          · exact y
        refine ⟨_, rfl, _, rfl, _, rfl, _, rfl, _, _, rfl, rfl, hlg _ (by omega) hp, _, _, rfl, rfl, _, _, rfl, rfl, ⟨by decide, by decide⟩, ⟨(g + n / g) / 2, rfl, hp, by omega, hnw, rfl⟩, ?_⟩
        show ((((g + n / g) / 2 : Nat) : Int)).toNat < ((g : Nat) : Int).toNat
        omega
      · have z' : ¬ (g + n / g) / 2 < g := by have : ¬ (((g + n / g) / 2 : Nat) : Int) < (g : Int) := z; omega
        exact ⟨_, rfl, k g ⟨newton_end hg z', hng⟩⟩
    · rintro σ' H' Q1 Q2 hQ ⟨v1, e1, v2, e2, i, j, e3, e4, kk, e5, q⟩
      exact ⟨v1, e1, v2, e2, i, j, e3, e4, kk, e5, hQ _ _ q⟩
def sp_root (K : PySem.W.Frag) : Sp := spO1 Kg26.sqrt
theorem sc_root : FnScope ["x", "shift", "square", "whole"] ["x"] (defScope s_root) := ⟨rfl, rfl, rfl, by decide +kernel, rfl, by decide +kernel, by decide +kernel⟩
theorem ok_root {f : Addr} {fd : FuncData} (F : Fun K "root" "root" s_root f fd) (T : Cn P w K mg base R)
    (G_size_of : Df P w K mg base CX0 1 "size_of" [] (sp_size_of K))
    (G_whole_of : Df P w K mg base CX0 1 "whole_of" [] (sp_whole_of K))
    (G_place_of : Df P w K mg base CX0 1 "place_of" [] (sp_place_of K))
    (G_rounded : Df P w K mg base (CXr P w K R) 4 "rounded" [] (sp_rounded K))
    (G_whole_root : Df P w K mg base CX0 1 "whole_root" [] (sp_whole_root K)) : FnOk P w K mg base (CXr P w K R) 5 f fd ["x"] (sp_root K) := by
  refine okX F sc_root (fun vs H Q E h => ?_) (fun cdv A outer s H vs Q E hr h => ?_)
  · obtain ⟨x, rfl, _⟩ := h
    rfl
  · obtain ⟨x, rfl, fx, k⟩ := h
    have hfl : Flies R (cxOf (CXr P w K R) P w K mg base ["x", "shift", "square", "whole"] "root" (defScope s_root) f cdv A outer s H E) E := flies_fn
    have hpx := passes_of hfl
    refine ⟨_, (pss_cons (ps_if (pt_cmpR op_eq (pf G_size_of hr pass0 (pa_cons (pv 0) pa_nil)) pe_int (nomark _)) (pss_one (ps_ret (pv 0))) pss_nil)
      (pss_cons (ps_if (pt_truth (pe_op op_and (pv 0) (pgc T.c_SIGN)) (fun _ => rfl)) (pss_one (praise T.z_NotFinite hr hfl)) pss_nil)
      (pss_cons (ps_set (i := 1) sc_root.nd rfl (Or.inl rfl) (pe_op op_add (pgc T.c_ROOT_SHIFT) (pe_op op_and (pf G_place_of hr pass0 (pa_cons (pv 0) pa_nil)) pe_int)))
      (pss_cons (ps_set (i := 2) sc_root.nd rfl (Or.inl rfl) (pe_op op_shlB (pf G_whole_of hr pass0 (pa_cons (pv 0) pa_nil)) (pv 1)))
      (pss_cons (ps_set (i := 3) sc_root.nd rfl (Or.inl rfl) (pf G_whole_root hr pass0 (pa_cons (pv 2) pa_nil)))
      (pss_cons (ps_join (ps_if (pt_cmpR op_ne (pe_op op_mulB (pv 3) (pv 3)) (pv 2) (nomark _)) (pss_one (ps_set (i := 3) sc_root.nd rfl (Or.inl rfl) (pe_op op_or (pv 3) pe_int))) pss_nil))
      (pss_one (ps_ret (pf G_rounded hr hpx (pa_cons (pv 3) (pa_cons (pe_op op_fdivB (pe_op op_add (pe_op op_sub (pf G_place_of hr pass0 (pa_cons (pv 0) pa_nil)) (pv 1)) (pgc T.c_UNIT_PLACE)) pe_int) pa_nil))))))))))), ?_⟩
    clear hpx hfl
    have hx := fin_lt fx
    have px := place_le fx
    refine ⟨_, rfl, x, rfl, hx, rfl, _, rfl, iteD (fun z => ?_) (fun z => ?_)⟩
    · have z' : ((x % 2 ^ 63 : Nat) : Int) = 0 := V.int.inj z
      refine ⟨_, rfl, k.1 x ?_⟩
      unfold Kg26.sqrt
      rw [if_pos (by unfold Kg26.rest Kg26.SIGN; omega)]
    have h0 : Kg26.rest x ≠ 0 := fun q => z (vint (by unfold Kg26.rest Kg26.SIGN at q; rw [q]; rfl))
    refine ⟨_, rfl, _, _, rfl, rfl, _, rfl, iteB (fun z2 => ?_) (fun z2 => ?_)⟩
    · refine k.2 ?_
      unfold Kg26.sqrt
      rw [if_neg h0, if_pos (sgn_pos hx z2)]
    have hneg := sgn_neg hx z2
    have hwh : whole x ≠ 0 := fun q => h0 (whole_zero.mp q)
    refine ⟨_, rfl, x, rfl, hx, _, _, rfl, rfl, _, _, rfl, rfl, ?_⟩
    have esh : (110 : Int) + Builtin.bitAnd ((place x : Nat) : Int) 1 = ((rshift x : Nat) : Int) := by
      have := and_nat (place x) 1
      rw [Nat.and_one_is_mod] at this
      have e : Builtin.bitAnd ((place x : Nat) : Int) 1 = ((place x % 2 : Nat) : Int) := this
      rw [e]
      unfold rshift
      omega
    dsimp only
    rw [esh]
    have hsh : rshift x ≤ 111 := by unfold rshift; omega
    refine ⟨_, rfl, x, rfl, hx, _, rfl, _, _, rfl, rfl, ⟨by omega, by omega, whole_bits x⟩, ?_⟩
    have esq : ((whole x : Nat) : Int) * 2 ^ ((rshift x : Nat) : Int).toNat = ((rsquare x : Nat) : Int) := by
      rw [Int.toNat_natCast, pow_cast]
      unfold rsquare
      rw [Int.natCast_mul]
    dsimp only
    rw [esq]
    have hsq1 := rsquare_pos hwh
    have hsq2 := rsquare_lt x
    refine ⟨_, rfl, rsquare x, rfl, Nat.le_trans (Nat.pow_pos (by decide)) hsq1, Nat.lt_of_lt_of_le hsq2 (Nat.pow_le_pow_right (by decide) (by decide)), fun g hg => ?_⟩
    rw [sqrt_eq fx h0 hneg hg] at k
    have hgl : g < 2 ^ 82 := by
      rcases Nat.lt_or_ge g (2 ^ 82) with y | y
      · exact y
      · have h1 := Nat.mul_le_mul y y
        have h2 := hg.1
        have e : 2 ^ 82 * 2 ^ 82 = 2 ^ 164 := by rw [← Nat.pow_add]
        omega
    have hW : rwhole x g < 2 ^ 83 := by
      unfold rwhole
      split
      · omega
      · rw [lor_one]; omega
    refine ⟨fun σ' H' => H' = H ∧ σ' = [some (.int x), some (.int ((rshift x : Nat) : Int)), some (.int ((rsquare x : Nat) : Int)), some (.int ((rwhole x g : Nat) : Int))], ⟨_, rfl, _, rfl, _, _, rfl, rfl, ⟨intBits_small hgl (by decide), intBits_small hgl (by decide)⟩, _, rfl, rfl, _, rfl, iteND (fun z3 => ?_) (fun z3 => ?_)⟩, fun σ' H' z3 => ?_⟩
    · refine ⟨_, rfl, _, _, rfl, rfl, rfl, ?_⟩
      have z4 : ¬ g * g = rsquare x := fun q => z3 (vint (by rw [← q, Int.natCast_mul]))
      have e : Builtin.bitOr (g : Int) 1 = ((rwhole x g : Nat) : Int) := by
        unfold rwhole
        rw [if_neg z4, lor_one]
        have := or_nat g 1
        refine this.trans ?_
        rw [Nat.and_one_is_mod]
        omega
      rw [← e]
      rfl
    · refine ⟨rfl, ?_⟩
      have z4 : g * g = rsquare x := by
        have := V.int.inj z3
        rw [← Int.natCast_mul] at this
        exact Int.natCast_inj.mp this
      have e : rwhole x g = g := by unfold rwhole; rw [if_pos z4]
      rw [e]
      rfl
    obtain ⟨rfl, rfl⟩ := z3
    refine ⟨_, rfl, _, rfl, x, rfl, hx, _, rfl, _, _, rfl, rfl, _, _, rfl, rfl, _, _, rfl, rfl, ⟨by decide, by decide⟩, rwhole x g, rplace x, rfl, log2_small hW (by decide), ?_, fun q => ?_, fun q => oq_inf k q⟩
    · unfold rplace
      omega
    · have := oq_signed k q
      rw [if_neg (by decide), Nat.zero_add] at this
      exact this
def sp_rows_of (K : PySem.W.Frag) : Sp := fun vs H Q _ => ∃ (a : Addr) (xs : List Nat) (m k : Nat), vs = [.ref a, .int (k : Int)] ∧ SqL K H a (nv xs) ∧ xs.length = m * k ∧ (1 ≤ k ∧ k ≤ 32 ∧ m ≤ 32) ∧ ∀ (t : Addr) (ps : List Addr) (H' : Hp), Same H H' → New H (t :: ps) → Tb H' t ps ((List.range m).map (rowAt xs k)) → Q (.ref t) H'
theorem sc_rows_of : FnScope ["numbers", "width", "start"] ["numbers", "width"] (defScope s_rows_of) := ⟨rfl, rfl, rfl, by decide +kernel, rfl, by decide +kernel, by decide +kernel⟩
theorem ok_rows_of {f : Addr} {fd : FuncData} (F : Fun K "rows_of" "rows_of" s_rows_of f fd) (T : Cn P w K mg base R)
     : FnOk P w K mg base CX0 1 f fd ["numbers", "width"] (sp_rows_of K) := by
  refine okX F sc_rows_of (fun vs H Q E h => ?_) (fun cdv A outer s H vs Q E hr h => ?_)
  · obtain ⟨a, xs, m, k, rfl, _⟩ := h
    rfl
  · obtain ⟨a, xs, m, kk, rfl, hS, hl, ⟨k1, k2, m2⟩, k⟩ := h
    refine ⟨_, (pss_one (ps_ret (pe_lc rfl sc_rows_of.nd (pi_range3 rfl T.range (pa_cons pe_int (pa_cons (pe_callB call_len_seq rfl T.len PySem.boot_len (pa_cons (pv 0) pa_nil)) (pa_cons (pv 1) pa_nil)))) (blkOk_by (own := [("start", 2)]) (show blkC ["numbers", "width", "start"] (defScope s_rows_of) _ _ = true by decide +kernel)) (fun _ _ _ _ _ => pg_name (i := 2) sc_rows_of.nd rfl (Or.inl rfl)) (fun _ _ _ _ _ => pts_nil) (fun _ _ _ _ _ => (pe_slice (r := rSlL K) sl_list (pv 0) (po_some (pv 2)) (po_some (pe_op op_add (pv 2) (pv 1)))))))), ?_⟩
    have hlen := nv_len xs
    have hmk : m * kk ≤ 32 * 32 := Nat.mul_le_mul m2 k2
    refine ⟨_, rfl, a, _, rfl, .inl hS, _, rfl, 0, _, _, m, rfl, ⟨by omega, by omega, small_up (by omega) (by omega) (by omega) (by omega) (by omega) (by omega), by rw [hlen, hl]; exact size_up k1⟩, fun D hD => ?_⟩
    refine lc_rangeC (fun i H' => ∃ ps, Same H H' ∧ New H (D :: ps) ∧ Tb H' D ps ((List.range i).map (rowAt xs kk))) ⟨[], tb_nil hD⟩ ?_ ?_
    · rintro i H' hi ⟨ps, s1, nw, Tt⟩
      refine ⟨rfl, ?_⟩
      refine ⟨_, rfl, _, rfl, _, rfl, _, rfl, _, rfl, _, _, rfl, rfl, _, rfl, a, _, rfl, s1.seq hS, fun p hp => ?_⟩
      have := tb_push s1 nw Tt hp (cut_row (lo := 0 + (i : Nat) * (kk : Int)) (hi := 0 + (i : Nat) * (kk : Int) + (kk : Int)) hl hi (by rw [Int.zero_add, Int.natCast_mul]) (by rw [Int.zero_add, Int.natCast_add, Int.natCast_mul])) (by rw [Tt.len, List.length_map, List.length_range]; exact small1000 (by omega))
      rw [List.range_succ, List.map_append]
      exact this
    · rintro H' ⟨ps, s1, nw, Tt⟩
      exact k D ps H' s1 nw Tt
def sp_columns_of (K : PySem.W.Frag) : Sp := fun vs H Q _ => ∃ (a : Addr) (xs : List Nat) (m k : Nat), vs = [.ref a, .int (k : Int)] ∧ SqL K H a (nv xs) ∧ xs.length = m * k ∧ (1 ≤ k ∧ k ≤ 32 ∧ 1 ≤ m ∧ m ≤ 32) ∧ ∀ (t : Addr) (ps : List Addr) (H' : Hp), Same H H' → New H (t :: ps) → Tb H' t ps ((List.range k).map (colAt xs k m)) → Q (.ref t) H'
theorem sc_columns_of : FnScope ["numbers", "width", "start"] ["numbers", "width"] (defScope s_columns_of) := ⟨rfl, rfl, rfl, by decide +kernel, rfl, by decide +kernel, by decide +kernel⟩
theorem ok_columns_of {f : Addr} {fd : FuncData} (F : Fun K "columns_of" "columns_of" s_columns_of f fd) (T : Cn P w K mg base R)
     : FnOk P w K mg base CX0 1 f fd ["numbers", "width"] (sp_columns_of K) := by
  refine okX F sc_columns_of (fun vs H Q E h => ?_) (fun cdv A outer s H vs Q E hr h => ?_)
  · obtain ⟨a, xs, m, k, rfl, _⟩ := h
    rfl
  · obtain ⟨a, xs, m, kk, rfl, hS, hl, ⟨k1, k2, m1, m2⟩, k⟩ := h
    refine ⟨_, (pss_one (ps_ret (pe_lc rfl sc_columns_of.nd (pi_range1 rfl T.range (pa_cons (pv 1) pa_nil)) (blkOk_by (own := [("start", 2)]) (show blkC ["numbers", "width", "start"] (defScope s_columns_of) _ _ = true by decide +kernel)) (fun _ _ _ _ _ => pg_name (i := 2) sc_columns_of.nd rfl (Or.inl rfl)) (fun _ _ _ _ _ => pts_nil) (fun _ _ _ _ _ => (pe_slice3K (K := K) rfl (pv 0) (po_some (pv 2)) (pv 1)))))), ?_⟩
    have hlen := nv_len xs
    have hmk : kk ≤ m * kk := Nat.le_mul_of_pos_left _ m1
    refine ⟨_, rfl, _, rfl, by omega, by omega, fun D hD => ?_⟩
    rw [Int.toNat_natCast]
    refine lc_range (fun i H' => ∃ ps, Same H H' ∧ New H (D :: ps) ∧ Tb H' D ps ((List.range i).map (colAt xs kk m))) ⟨[], tb_nil hD⟩ ?_ ?_
    · rintro i H' hi ⟨ps, s1, nw, Tt⟩
      refine ⟨rfl, ?_⟩
      refine ⟨_, rfl, _, rfl, _, rfl, _, rfl, a, _, i, kk, rfl, s1.seq hS, (by rw [Int.zero_add]), rfl, k1, by omega, fun p hp => ?_⟩
      have := tb_push s1 nw Tt hp (step_col hl hi) (by rw [Tt.len, List.length_map, List.length_range]; exact small1000 (by omega))
      rw [List.range_succ, List.map_append]
      exact this
    · rintro H' ⟨ps, s1, nw, Tt⟩
      exact k D ps H' s1 nw Tt
def sp_zero_rows (K : PySem.W.Frag) : Sp := fun vs H Q _ => ∃ n : Nat, vs = [.int (n : Int)] ∧ n ≤ 32 ∧ ∀ (t : Addr) (ps : List Addr) (H' : Hp), Same H H' → New H (t :: ps) → TF H' t ps n n (List.replicate (n * n) 0) → Q (.ref t) H'
theorem sc_zero_rows : FnScope ["n", "i"] ["n"] (defScope s_zero_rows) := ⟨rfl, rfl, rfl, by decide +kernel, rfl, by decide +kernel, by decide +kernel⟩
theorem ok_zero_rows {f : Addr} {fd : FuncData} (F : Fun K "zero_rows" "zero_rows" s_zero_rows f fd) (T : Cn P w K mg base R)
     : FnOk P w K mg base CX0 1 f fd ["n"] (sp_zero_rows K) := by
  refine okX F sc_zero_rows (fun vs H Q E h => ?_) (fun cdv A outer s H vs Q E hr h => ?_)
  · obtain ⟨n, rfl, _⟩ := h
    rfl
  · obtain ⟨n, rfl, hn, k⟩ := h
    refine ⟨_, (pss_one (ps_ret (pe_lc rfl sc_zero_rows.nd (pi_range1 rfl T.range (pa_cons (pv 0) pa_nil)) (blkOk_by (own := [("i", 1)]) (show blkC ["n", "i"] (defScope s_zero_rows) _ _ = true by decide +kernel)) (fun _ _ _ _ _ => pg_name (i := 1) sc_zero_rows.nd rfl (Or.inl rfl)) (fun _ _ _ _ _ => pts_nil) (fun _ _ _ _ _ => (pe_op op_rep (pe_lst (pa_cons pe_int pa_nil)) (pv 0)))))), ?_⟩
    refine ⟨_, rfl, _, rfl, by omega, by omega, fun D hD => ?_⟩
    rw [Int.toNat_natCast]
    have hz : ∀ i, i < n → rowAt (List.replicate (n * n) 0) n i = List.replicate n 0 := fun i hi => by
      refine list_ext (by rw [rowAt_len, List.length_replicate]) fun j hj => ?_
      rw [rowAt_len] at hj
      rw [rowAt_at hj, at_rep, at_rep]
    refine lc_range (fun i H' => ∃ ps, i ≤ n ∧ Same H H' ∧ New H (D :: ps) ∧ Tb H' D ps ((List.range i).map (rowAt (List.replicate (n * n) 0) n))) ⟨[], Nat.zero_le _, tb_nil hD⟩ ?_ ?_
    · rintro i H' hi ⟨ps, _, s1, nw, Tt⟩
      refine ⟨rfl, ?_⟩
      refine ⟨(by show 1 ≤ sizeLine; decide), fun q hq => ?_⟩
      have s2 : Same H' (upd H' q (.lst [.int 0])) := same_upd hq
      refine ⟨_, rfl, q, _, _, rfl, rfl, upd_same, by omega, by omega, (by rw [Int.toNat_natCast, sizeLine_eq]; show 1 * n ≤ _; omega), fun p hp => ?_⟩
      have := tb_push (s1.trans s2) nw (Tt.same s2) hp (l := (List.replicate (n : Int).toNat [V.int 0]).flatten) (r := rowAt (List.replicate (n * n) 0) n i) (by rw [hz i hi, Int.toNat_natCast]; exact rep_nv n) (by rw [Tt.len, List.length_map, List.length_range]; exact small1000 (by omega))
      obtain ⟨acc, h1, h2, ps', h3, h4, h5⟩ := this
      refine ⟨acc, h1, h2, ps', hi, h3, h4, ?_⟩
      rw [List.range_succ, List.map_append]
      exact h5
    · rintro H' ⟨ps, _, s1, nw, Tt⟩
      exact k D ps H' s1 nw ⟨Tt, List.length_replicate⟩
def sp_unit_rows (K : PySem.W.Frag) : Sp := fun vs H Q _ => ∃ n : Nat, vs = [.int (n : Int)] ∧ n ≤ 32 ∧ ∀ (t : Addr) (ps : List Addr) (H' : Hp), Same H H' → New H (t :: ps) → TF H' t ps n n (unitTo n n) → Q (.ref t) H'
theorem sc_unit_rows : FnScope ["n", "rows", "i"] ["n"] (defScope s_unit_rows) := ⟨rfl, rfl, rfl, by decide +kernel, rfl, by decide +kernel, by decide +kernel⟩
theorem ok_unit_rows {f : Addr} {fd : FuncData} (F : Fun K "unit_rows" "unit_rows" s_unit_rows f fd) (T : Cn P w K mg base R)
    (G_zero_rows : Df P w K mg base CX0 1 "zero_rows" [] (sp_zero_rows K)) : FnOk P w K mg base CX0 2 f fd ["n"] (sp_unit_rows K) := by
  refine okX F sc_unit_rows (fun vs H Q E h => ?_) (fun cdv A outer s H vs Q E hr h => ?_)
  · obtain ⟨n, rfl, _⟩ := h
    rfl
  · obtain ⟨n, rfl, hn, k⟩ := h
    refine ⟨_, (pss_cons (ps_set (i := 1) sc_unit_rows.nd rfl (Or.inl rfl) (pf G_zero_rows hr pass0 (pa_cons (pv 0) pa_nil)))
      (pss_cons (ps_for own_fn rfl (pi_range1 rfl T.range (pa_cons (pv 0) pa_nil)) (pg_name (i := 2) sc_unit_rows.nd rfl (Or.inl rfl)) (pss_one (ps_asg (pgc T.c_ONE) (pg_sub (pe_ix (r := rIxL K) ix_list (pv 1) (pv 2) (fun _ _ => rfl)) (pv 2) set_list))))
      (pss_one (ps_ret (pv 1))))), ?_⟩
    refine ⟨_, rfl, n, rfl, hn, fun t ps H1 s1 nw T1 => ?_⟩
    refine ⟨_, rfl, _, rfl, by omega, by omega, ?_⟩
    rw [← unitTo_zero] at T1
    refine for_range (fun i σ' H' => ∃ o, Same H H' ∧ TF H' t ps n n (unitTo n i) ∧ σ' = [some (.int (n : Int)), some (.ref t), o]) ⟨none, s1, T1, rfl⟩ ?_ ?_
    · rintro i σ' H' hi ⟨o, s2, T2, rfl⟩
      have hi' : i < n := by omega
      obtain ⟨p1, a1, c1, b1⟩ := T2.ix (z := 0 + (i : Int)) (i := i) (by omega) hi'
      have T3 := T2.set (v := Kg26.one) hi' hi' c1
      rw [unitTo_succ hi'] at T3
      have np : H p1 = none := nw p1 (List.mem_cons_of_mem _ (List.mem_of_getElem? c1))
      exact ⟨_, rfl, _, rfl, t, _, _, _, rfl, rfl, SqL.of T2.tb.top, a1, _, rfl, p1, _, _, i, rfl, rfl, b1, ixN_nat (by omega) (by rw [nv_len, rowAt_len]; exact hi'), some (.int (0 + (i : Int))), Bm.Same.upd_out s2 np, T3, rfl⟩
    · rintro σ' H' ⟨o, s2, T2, rfl⟩
      rw [Int.toNat_natCast] at T2
      exact ⟨_, rfl, k t ps H' s2 nw T2⟩
def sp_joined (K : PySem.W.Frag) : Sp := fun vs H Q _ => ∃ (t : Addr) (ps : List Addr) (m n : Nat) (l : List Nat), vs = [.ref t] ∧ TF H t ps m n l ∧ m ≤ 32 ∧ n ≤ 32 ∧ ∀ (q : Addr) (H' : Hp), Same H H' → H q = none → H' q = some (.lst (nv l)) → Q (.ref q) H'
theorem sc_joined : FnScope ["rows", "numbers", "row"] ["rows"] (defScope s_joined) := ⟨rfl, rfl, rfl, by decide +kernel, rfl, by decide +kernel, by decide +kernel⟩
theorem ok_joined {f : Addr} {fd : FuncData} (F : Fun K "joined" "joined" s_joined f fd) (T : Cn P w K mg base R)
     : FnOk P w K mg base CX0 1 f fd ["rows"] (sp_joined K) := by
  refine okX F sc_joined (fun vs H Q E h => ?_) (fun cdv A outer s H vs Q E hr h => ?_)
  · obtain ⟨t, ps, m, n, l, rfl, _⟩ := h
    rfl
  · obtain ⟨t, ps, m, n, l, rfl, Tt, hm, hn, k⟩ := h
    refine ⟨_, (pss_cons (ps_set (i := 1) sc_joined.nd rfl (Or.inl rfl) (pe_lst pa_nil))
      (pss_cons (ps_for own_fn rfl (pi_list (pv 0)) (pg_name (i := 2) sc_joined.nd rfl (Or.inl rfl)) (pss_one (ps_expr (pe_bm PySem.F.plainAttrs_list PySem.F.slot_list_extend PySem.F.type_list_extend mt_extend (pv 1) (pa_cons (pv 2) pa_nil)))))
      (pss_one (ps_ret (pv 1))))), ?_⟩
    refine ⟨by decide, fun q hq => ?_⟩
    have s0 : Same H (upd H q (.lst [])) := same_upd hq
    have hpl := Tt.plen
    have hll : l.length ≤ 32 * 32 := by rw [Tt.len]; exact Nat.mul_le_mul hm hn
    refine ⟨_, rfl, t, rfl, ⟨_, SqL.of (s0 _ _ Tt.tb.top)⟩, for_list (xs := ps.map V.ref) (fun i σ' H' => ∃ (o : Option V), Same H H' ∧ H' q = some (.lst (nv (l.take (i * n)))) ∧ σ' = [some (.ref t), some (.ref q), o]) ⟨none, s0, by rw [Nat.zero_mul]; exact upd_same, rfl⟩ ?_ ?_ ?_⟩
    · rintro i σ' H' _ ⟨o, s1, _⟩
      exact SqL.of (s1 _ _ Tt.tb.top)
    · rintro i x σ' H' hi ⟨o, s1, hq1, rfl⟩
      have hil : i < m := by have := (List.getElem?_eq_some_iff.mp hi).1; omega
      obtain ⟨p, _, h2, h3⟩ := Tt.ix (z := (i : Int)) rfl hil
      rw [List.getElem?_map, h2] at hi
      cases hi
      have hle : i * n + n ≤ l.length := by rw [Tt.len, ← Nat.succ_mul]; exact Nat.mul_le_mul_right _ hil
      refine ⟨_, rfl, .inl ⟨rfl, _, SqL.of hq1⟩, _, rfl, q, p, _, _, rfl, rfl, hq1, s1 _ _ h3, ?_, some (.ref p), fun b o e => ?_, ?_, rfl⟩
      · rw [nv_len, nv_len, rowAt_len, List.length_take, sizeLine_eq]
        omega
      · rw [upd_ne (ne_of_none e hq)]
        exact s1 b o e
      · rw [upd_same, ← nv_append, ← row_slice hle, Nat.succ_mul, List.take_add]
    · rintro σ' H' ⟨o, s1, hq1, rfl⟩
      rw [hpl, ← Tt.len, List.take_length] at hq1
      exact ⟨_, rfl, k q H' s1 hq hq1⟩
def sp_turned_about (K : PySem.W.Frag) : Sp := fun vs H Q _ => ∃ (t : Addr) (ps : List Addr) (m n : Nat) (l : List Nat), vs = [.ref t] ∧ TF H t ps m n l ∧ (1 ≤ m ∧ m ≤ 32 ∧ 1 ≤ n ∧ n ≤ 32) ∧ ∀ (t' : Addr) (ps' : List Addr) (H' : Hp), Same H H' → New H (t' :: ps') → Tb H' t' ps' ((List.range n).map (colAt l n m)) → Q (.ref t') H'
theorem sc_turned_about : FnScope ["rows"] ["rows"] (defScope s_turned_about) := ⟨rfl, rfl, rfl, by decide +kernel, rfl, by decide +kernel, by decide +kernel⟩
theorem ok_turned_about {f : Addr} {fd : FuncData} (F : Fun K "turned_about" "turned_about" s_turned_about f fd) (T : Cn P w K mg base R)
    (G_columns_of : Df P w K mg base CX0 1 "columns_of" [] (sp_columns_of K))
    (G_joined : Df P w K mg base CX0 1 "joined" [] (sp_joined K)) : FnOk P w K mg base CX0 2 f fd ["rows"] (sp_turned_about K) := by
  refine okX F sc_turned_about (fun vs H Q E h => ?_) (fun cdv A outer s H vs Q E hr h => ?_)
  · obtain ⟨t, ps, m, n, l, rfl, _⟩ := h
    rfl
  · obtain ⟨t, ps, m, n, l, rfl, Tt, ⟨h1, h2, h3, h4⟩, k⟩ := h
    refine ⟨_, (pss_one (ps_ret (pf G_columns_of hr pass0 (pa_cons (pf G_joined hr pass0 (pa_cons (pv 0) pa_nil)) (pa_cons (pe_callB call_len_seq rfl T.len PySem.boot_len (pa_cons (pe_ix (r := rIxL K) ix_list (pv 0) pe_int (fun _ _ => rfl)) pa_nil)) pa_nil))))), ?_⟩
    refine ⟨_, rfl, t, ps, m, n, l, rfl, Tt, h2, h4, fun q H1 s1 hq hq1 => ?_⟩
    obtain ⟨p, a1, _, b1⟩ := (Tt.same s1).ix (z := 0) (i := 0) rfl h1
    refine ⟨_, rfl, t, _, _, _, rfl, rfl, SqL.of (s1 _ _ Tt.tb.top), a1, p, _, rfl, .inl (SqL.of b1), q, l, m, n, ?_, SqL.of hq1, Tt.len, ⟨h3, h4, h1, h2⟩, fun t' ps' H' s2 nw T2 => k t' ps' H' (s1.trans s2) (fun p hp => s1.free (nw p hp)) T2⟩
    rw [nv_len, rowAt_len]
    rfl
def sp_tangent (K : PySem.W.Frag) : Sp := fun vs H Q E => ∃ (t : Addr) (ps : List Addr) (n p q : Nat) (l : List Nat), vs = [.ref t, .int (p : Int), .int (q : Int)] ∧ TF H t ps n n l ∧ (p < n ∧ q < n ∧ n ≤ 32) ∧ Kg26.finite l = true ∧ OQ ((Kg26.sub (Kg26.at_ l (q * n + q)) (Kg26.at_ l (p * n + p))).bind fun d => tanP d (Kg26.at_ l (p * n + q))) Q E H
theorem sc_tangent : FnScope ["rows", "p", "q", "h", "g"] ["rows", "p", "q"] (defScope s_tangent) := ⟨rfl, rfl, rfl, by decide +kernel, rfl, by decide +kernel, by decide +kernel⟩
theorem ok_tangent {f : Addr} {fd : FuncData} (F : Fun K "tangent" "tangent" s_tangent f fd) (T : Cn P w K mg base R)
    (G_size_of : Df P w K mg base CX0 1 "size_of" [] (sp_size_of K))
    (G_add : Df P w K mg base (CXr P w K R) 5 "add" [] (sp_add K))
    (G_subtract : Df P w K mg base (CXr P w K R) 6 "subtract" [] (sp_subtract K))
    (G_multiply : Df P w K mg base (CXr P w K R) 5 "multiply" [] (sp_multiply K))
    (G_divide : Df P w K mg base (CXr P w K R) 5 "divide" [] (sp_divide K))
    (G_root : Df P w K mg base (CXr P w K R) 5 "root" [] (sp_root K)) : FnOk P w K mg base (CXr P w K R) 7 f fd ["rows", "p", "q"] (sp_tangent K) := by
  refine okX F sc_tangent (fun vs H Q E h => ?_) (fun cdv A outer s H vs Q E hr h => ?_)
  · obtain ⟨t, ps, n, p, q, l, rfl, _⟩ := h
    rfl
  · obtain ⟨t, ps, n, p, q, l, rfl, Tt, ⟨h1, h2, h3⟩, fX, k⟩ := h
    have hfl : Flies R (cxOf (CXr P w K R) P w K mg base ["rows", "p", "q", "h", "g"] "tangent" (defScope s_tangent) f cdv A outer s H E) E := flies_fn
    have hpx := passes_of hfl
    refine ⟨_, (pss_cons (ps_set (i := 3) sc_tangent.nd rfl (Or.inl rfl) (pf G_divide hr hpx (pa_cons (pf G_subtract hr hpx (pa_cons (pe_ix (r := rIxL K) ix_list (pe_ix (r := rIxL K) ix_list (pv 0) (pv 2) (fun _ _ => rfl)) (pv 2) (fun _ _ => rfl)) (pa_cons (pe_ix (r := rIxL K) ix_list (pe_ix (r := rIxL K) ix_list (pv 0) (pv 1) (fun _ _ => rfl)) (pv 1) (fun _ _ => rfl)) pa_nil))) (pa_cons (pf G_multiply hr hpx (pa_cons (pgc T.c_TWO) (pa_cons (pe_ix (r := rIxL K) ix_list (pe_ix (r := rIxL K) ix_list (pv 0) (pv 1) (fun _ _ => rfl)) (pv 2) (fun _ _ => rfl)) pa_nil))) pa_nil))))
      (pss_cons (ps_set (i := 4) sc_tangent.nd rfl (Or.inl rfl) (pf G_root hr hpx (pa_cons (pf G_add hr hpx (pa_cons (pf G_multiply hr hpx (pa_cons (pv 3) (pa_cons (pv 3) pa_nil))) (pa_cons (pgc T.c_ONE) pa_nil))) pa_nil)))
      (pss_one (ps_ret (pe_op op_or (pf G_divide hr hpx (pa_cons (pgc T.c_ONE) (pa_cons (pf G_add hr hpx (pa_cons (pf G_size_of hr pass0 (pa_cons (pv 3) pa_nil)) (pa_cons (pv 4) pa_nil))) pa_nil))) (pe_op op_and (pv 3) (pgc T.c_SIGN))))))), ?_⟩
    clear hpx hfl
    have fc : ∀ i j, i < n → j < n → Kg26.fin (Kg26.at_ l (i * n + j)) = true := fun i j hi hj => fin_at fX (by rw [Tt.len]; exact cell_lt hi hj)
    obtain ⟨pp, ap, cp, bp⟩ := Tt.ix (z := (p : Int)) (i := p) rfl h1
    obtain ⟨pq, aq, cq, bq⟩ := Tt.ix (z := (q : Int)) (i := q) rfl h2
    refine ⟨_, rfl, _, rfl, t, _, _, _, rfl, rfl, SqL.of Tt.tb.top, aq, _, rfl, pq, _, _, _, rfl, rfl, SqL.of bq, ixr (j := q) rfl h2, _, rfl, _, rfl, t, _, _, _, rfl, rfl, SqL.of Tt.tb.top, ap, _, rfl, pp, _, _, _, rfl, rfl, SqL.of bp, ixr (j := p) rfl h1, _, _, rfl, fc q q h2 h2, fc p p h1 h1, fun d ed => ?_, fun e => k.non e⟩
    have k := k.step ed
    unfold tanP at k
    refine ⟨_, rfl, _, rfl, t, _, _, _, rfl, rfl, SqL.of Tt.tb.top, ap, _, rfl, pp, _, _, _, rfl, rfl, SqL.of bp, ixr (j := q) rfl h2, Kg26.two, _, rfl, by decide, fc p q h1 h2, fun tt et => ?_, fun e => k.non e⟩
    have k := k.step et
    refine ⟨d, tt, rfl, sub_fin ed, mul_fin et, fun h eh => ?_, fun e => k.non e⟩
    have k := k.step eh
    have fh := div_fin eh
    refine ⟨_, rfl, _, rfl, h, h, rfl, fh, fh, fun hh e1 => ?_, fun e => k.non e⟩
    have k := k.step e1
    refine ⟨hh, Kg26.one, rfl, mul_fin e1, by decide, fun g eg => ?_, fun e => k.non e⟩
    have k := k.step eg
    refine ⟨g, rfl, add_fin eg, fun r er => ?_, fun e => k.non e⟩
    have k := k.step er
    have gp := add_pos (mul_self_pos e1) (by decide) eg
    have rp := sqrt_pos gp er
    have hlt := fin_lt fh
    refine ⟨_, rfl, h, rfl, hlt, _, rfl, Kg26.rest h, r, rfl, fin_rest fh, sqrt_fin (add_fin eg) er, fun kk ek => ?_, fun e => k.non e⟩
    have k := k.step ek
    have kp := add_pos (by unfold Kg26.rest Kg26.SIGN; omega) rp ek
    refine ⟨Kg26.one, kk, rfl, by decide, add_fin ek, fun u eu => ?_, fun e => k.non e⟩
    have k := k.step eu
    refine ⟨_, rfl, _, _, rfl, rfl, _, _, rfl, rfl, ?_⟩
    exact qint Q (or_tan (div_pos (by decide) kp eu) hlt) (k.1 _ rfl)
def sp_cosine (K : PySem.W.Frag) : Sp := spO1 cosP
theorem sc_cosine : FnScope ["u"] ["u"] (defScope s_cosine) := ⟨rfl, rfl, rfl, by decide +kernel, rfl, by decide +kernel, by decide +kernel⟩
theorem ok_cosine {f : Addr} {fd : FuncData} (F : Fun K "cosine" "cosine" s_cosine f fd) (T : Cn P w K mg base R)
    (G_add : Df P w K mg base (CXr P w K R) 5 "add" [] (sp_add K))
    (G_multiply : Df P w K mg base (CXr P w K R) 5 "multiply" [] (sp_multiply K))
    (G_divide : Df P w K mg base (CXr P w K R) 5 "divide" [] (sp_divide K))
    (G_root : Df P w K mg base (CXr P w K R) 5 "root" [] (sp_root K)) : FnOk P w K mg base (CXr P w K R) 6 f fd ["u"] (sp_cosine K) := by
  refine okX F sc_cosine (fun vs H Q E h => ?_) (fun cdv A outer s H vs Q E hr h => ?_)
  · obtain ⟨x, rfl, _⟩ := h
    rfl
  · obtain ⟨u, rfl, fu, k⟩ := h
    have hfl : Flies R (cxOf (CXr P w K R) P w K mg base ["u"] "cosine" (defScope s_cosine) f cdv A outer s H E) E := flies_fn
    have hpx := passes_of hfl
    refine ⟨_, (pss_one (ps_ret (pf G_divide hr hpx (pa_cons (pgc T.c_ONE) (pa_cons (pf G_root hr hpx (pa_cons (pf G_add hr hpx (pa_cons (pf G_multiply hr hpx (pa_cons (pv 0) (pa_cons (pv 0) pa_nil))) (pa_cons (pgc T.c_ONE) pa_nil))) pa_nil)) pa_nil))))), ?_⟩
    clear hpx hfl
    unfold cosP at k
    refine ⟨_, rfl, _, rfl, u, u, rfl, fu, fu, fun uu e1 => ?_, fun e => k.non e⟩
    have k := k.step e1
    refine ⟨uu, Kg26.one, rfl, mul_fin e1, by decide, fun v e2 => ?_, fun e => k.non e⟩
    have k := k.step e2
    refine ⟨v, rfl, add_fin e2, fun z e3 => ?_, fun e => k.non e⟩
    have k := k.step e3
    exact ⟨Kg26.one, z, rfl, by decide, sqrt_fin (add_fin e2) e3, k⟩
def sp_first_turned (K : PySem.W.Frag) : Sp := fun vs H Q E => ∃ x y c s : Nat, vs = [.int (x : Int), .int (y : Int), .int (c : Int), .int (s : Int)] ∧ Kg26.fin x = true ∧ Kg26.fin y = true ∧ Kg26.fin c = true ∧ Kg26.fin s = true ∧ OQ (t1 c s x y) Q E H
theorem sc_first_turned : FnScope ["x", "y", "c", "s"] ["x", "y", "c", "s"] (defScope s_first_turned) := ⟨rfl, rfl, rfl, by decide +kernel, rfl, by decide +kernel, by decide +kernel⟩
theorem ok_first_turned {f : Addr} {fd : FuncData} (F : Fun K "first_turned" "first_turned" s_first_turned f fd) (T : Cn P w K mg base R)
    (G_subtract : Df P w K mg base (CXr P w K R) 6 "subtract" [] (sp_subtract K))
    (G_multiply : Df P w K mg base (CXr P w K R) 5 "multiply" [] (sp_multiply K)) : FnOk P w K mg base (CXr P w K R) 7 f fd ["x", "y", "c", "s"] (sp_first_turned K) := by
  refine okX F sc_first_turned (fun vs H Q E h => ?_) (fun cdv A outer s H vs Q E hr h => ?_)
  · obtain ⟨x, y, c, s, rfl, _⟩ := h
    rfl
  · obtain ⟨x, y, c, sn, rfl, fx, fy, fc, fs, k⟩ := h
    have hfl : Flies R (cxOf (CXr P w K R) P w K mg base ["x", "y", "c", "s"] "first_turned" (defScope s_first_turned) f cdv A outer s H E) E := flies_fn
    have hpx := passes_of hfl
    refine ⟨_, (pss_one (ps_ret (pf G_subtract hr hpx (pa_cons (pf G_multiply hr hpx (pa_cons (pv 2) (pa_cons (pv 0) pa_nil))) (pa_cons (pf G_multiply hr hpx (pa_cons (pv 3) (pa_cons (pv 1) pa_nil))) pa_nil))))), ?_⟩
    clear hpx hfl
    unfold t1 at k
    refine ⟨_, rfl, _, rfl, c, x, rfl, fc, fx, fun a ea => ?_, fun e => k.non e⟩
    have k := k.step ea
    refine ⟨_, rfl, _, rfl, sn, y, rfl, fs, fy, fun b eb => ?_, fun e => k.non e⟩
    have k := k.step eb
    exact ⟨a, b, rfl, mul_fin ea, mul_fin eb, k⟩
def sp_second_turned (K : PySem.W.Frag) : Sp := fun vs H Q E => ∃ x y c s : Nat, vs = [.int (x : Int), .int (y : Int), .int (c : Int), .int (s : Int)] ∧ Kg26.fin x = true ∧ Kg26.fin y = true ∧ Kg26.fin c = true ∧ Kg26.fin s = true ∧ OQ (t2 c s x y) Q E H
theorem sc_second_turned : FnScope ["x", "y", "c", "s"] ["x", "y", "c", "s"] (defScope s_second_turned) := ⟨rfl, rfl, rfl, by decide +kernel, rfl, by decide +kernel, by decide +kernel⟩
theorem ok_second_turned {f : Addr} {fd : FuncData} (F : Fun K "second_turned" "second_turned" s_second_turned f fd) (T : Cn P w K mg base R)
    (G_add : Df P w K mg base (CXr P w K R) 5 "add" [] (sp_add K))
    (G_multiply : Df P w K mg base (CXr P w K R) 5 "multiply" [] (sp_multiply K)) : FnOk P w K mg base (CXr P w K R) 6 f fd ["x", "y", "c", "s"] (sp_second_turned K) := by
  refine okX F sc_second_turned (fun vs H Q E h => ?_) (fun cdv A outer s H vs Q E hr h => ?_)
  · obtain ⟨x, y, c, s, rfl, _⟩ := h
    rfl
  · obtain ⟨x, y, c, sn, rfl, fx, fy, fc, fs, k⟩ := h
    have hfl : Flies R (cxOf (CXr P w K R) P w K mg base ["x", "y", "c", "s"] "second_turned" (defScope s_second_turned) f cdv A outer s H E) E := flies_fn
    have hpx := passes_of hfl
    refine ⟨_, (pss_one (ps_ret (pf G_add hr hpx (pa_cons (pf G_multiply hr hpx (pa_cons (pv 3) (pa_cons (pv 0) pa_nil))) (pa_cons (pf G_multiply hr hpx (pa_cons (pv 2) (pa_cons (pv 1) pa_nil))) pa_nil))))), ?_⟩
    clear hpx hfl
    unfold t2 at k
    refine ⟨_, rfl, _, rfl, sn, x, rfl, fs, fx, fun a ea => ?_, fun e => k.non e⟩
    have k := k.step ea
    refine ⟨_, rfl, _, rfl, c, y, rfl, fc, fy, fun b eb => ?_, fun e => k.non e⟩
    have k := k.step eb
    exact ⟨a, b, rfl, mul_fin ea, mul_fin eb, k⟩
def sp_turn_columns (K : PySem.W.Frag) : Sp := fun vs H Q E => ∃ (t : Addr) (ps : List Addr) (n p q c s : Nat) (l : List Nat), vs = [.ref t, .int (p : Int), .int (q : Int), .int (c : Int), .int (s : Int)] ∧ TF H t ps n n l ∧ (p < n ∧ q < n ∧ p ≠ q ∧ n ≤ 32) ∧ Kg26.finite l = true ∧ (Kg26.fin c = true ∧ Kg26.fin s = true) ∧ (∀ l', Kg26.columns n p q c s l = some l' → Kg26.finite l' = true → ∀ H' : Hp, (∀ b, b ∉ ps → H' b = H b) → TF H' t ps n n l' → Q .non H') ∧ (Kg26.columns n p q c s l = none → ∀ H', E (.int (-1) 0) none H')
theorem sc_turn_columns : FnScope ["rows", "p", "q", "c", "s", "i", "x", "y"] ["rows", "p", "q", "c", "s"] (defScope s_turn_columns) := ⟨rfl, rfl, rfl, by decide +kernel, rfl, by decide +kernel, by decide +kernel⟩
theorem ok_turn_columns {f : Addr} {fd : FuncData} (F : Fun K "turn_columns" "turn_columns" s_turn_columns f fd) (T : Cn P w K mg base R)
    (G_first_turned : Df P w K mg base (CXr P w K R) 7 "first_turned" [] (sp_first_turned K))
    (G_second_turned : Df P w K mg base (CXr P w K R) 6 "second_turned" [] (sp_second_turned K)) : FnOk P w K mg base (CXr P w K R) 8 f fd ["rows", "p", "q", "c", "s"] (sp_turn_columns K) := by
  refine okX F sc_turn_columns (fun vs H Q E h => ?_) (fun cdv A outer s H vs Q E hr h => ?_)
  · obtain ⟨t, ps, n, p, q, c, s, l, rfl, _⟩ := h
    rfl
  · obtain ⟨t, ps, n, p, q, c, sn, l, rfl, Tt, ⟨h1, h2, h3, h4⟩, fX, ⟨fc, fs⟩, k1, k2⟩ := h
    have hfl : Flies R (cxOf (CXr P w K R) P w K mg base ["rows", "p", "q", "c", "s", "i", "x", "y"] "turn_columns" (defScope s_turn_columns) f cdv A outer s H E) E := flies_fn
    have hpx := passes_of hfl
    refine ⟨_, (pss_one (ps_for own_fn rfl (pi_range1 rfl T.range (pa_cons (pe_callB call_len_seq rfl T.len PySem.boot_len (pa_cons (pv 0) pa_nil)) pa_nil)) (pg_name (i := 5) sc_turn_columns.nd rfl (Or.inl rfl)) (pss_cons (ps_set (i := 6) sc_turn_columns.nd rfl (Or.inl rfl) (pe_ix (r := rIxL K) ix_list (pe_ix (r := rIxL K) ix_list (pv 0) (pv 5) (fun _ _ => rfl)) (pv 1) (fun _ _ => rfl)))
      (pss_cons (ps_set (i := 7) sc_turn_columns.nd rfl (Or.inl rfl) (pe_ix (r := rIxL K) ix_list (pe_ix (r := rIxL K) ix_list (pv 0) (pv 5) (fun _ _ => rfl)) (pv 2) (fun _ _ => rfl)))
      (pss_cons (ps_asg (pf G_first_turned hr hpx (pa_cons (pv 6) (pa_cons (pv 7) (pa_cons (pv 3) (pa_cons (pv 4) pa_nil))))) (pg_sub (pe_ix (r := rIxL K) ix_list (pv 0) (pv 5) (fun _ _ => rfl)) (pv 1) set_list))
      (pss_one (ps_asg (pf G_second_turned hr hpx (pa_cons (pv 6) (pa_cons (pv 7) (pa_cons (pv 3) (pa_cons (pv 4) pa_nil))))) (pg_sub (pe_ix (r := rIxL K) ix_list (pv 0) (pv 5) (fun _ _ => rfl)) (pv 2) set_list)))))))), ?_⟩
    clear hpx hfl
    have hpl := Tt.plen
    refine ⟨_, rfl, t, _, rfl, .inl (SqL.of Tt.tb.top), _, rfl, by omega, by omega, ?_⟩
    refine for_range (fun i σ' H' => ∃ (o5 o6 o7 : Option V) (lk : List Nat), (∀ b, b ∉ ps → H' b = H b) ∧ TF H' t ps n n lk ∧ Tco n p q c sn l i lk ∧ σ' = [some (.ref t), some (.int (p : Int)), some (.int (q : Int)), some (.int (c : Int)), some (.int (sn : Int)), o5, o6, o7]) ⟨none, none, none, l, fun _ _ => rfl, Tt, tco_zero Tt.len fX, rfl⟩ ?_ ?_
    · rintro i σ' H' hi ⟨o5, o6, o7, lk, fr, T2, C2, rfl⟩
      have hin : i < n := by omega
      obtain ⟨p1, a1, c1, b1⟩ := T2.ix (z := 0 + (i : Int)) (i := i) (by omega) hin
      have m1 : p1 ∈ ps := List.mem_of_getElem? c1
      have fx := fin_at C2.fin (i := i * n + p) (by rw [C2.len]; exact cell_lt hin h1)
      have fy := fin_at C2.fin (i := i * n + q) (by rw [C2.len]; exact cell_lt hin h2)
      refine ⟨_, rfl, _, rfl, t, _, _, _, rfl, rfl, SqL.of T2.tb.top, a1, _, rfl, p1, _, _, _, rfl, rfl, SqL.of b1, ixr (j := p) rfl h1, ?_⟩
      refine ⟨_, rfl, _, rfl, t, _, _, _, rfl, rfl, SqL.of T2.tb.top, a1, _, rfl, p1, _, _, _, rfl, rfl, SqL.of b1, ixr (j := q) rfl h2, ?_⟩
      refine ⟨_, rfl, _, rfl, _, rfl, _, rfl, _, _, c, sn, rfl, fx, fy, fc, fs, fun u eu => ?_, fun en => k2 (C2.fail hin h1 h2 (.inl en)) _⟩
      refine ⟨_, rfl, _, rfl, t, _, _, _, rfl, rfl, SqL.of T2.tb.top, a1, _, rfl, p1, _, _, p, rfl, rfl, b1, ixN_nat rfl (by rw [nv_len, rowAt_len]; exact h1), ?_⟩
      have T3 := T2.set (v := u) hin h1 c1
      have fr3 : ∀ b, b ∉ ps → upd H' p1 (.lst ((nv (rowAt lk n i)).set p (.int (u : Int)))) b = H b := fun b hb => by
        rw [upd_ne (fun z : b = p1 => hb (z ▸ m1))]
        exact fr b hb
      generalize upd H' p1 (.lst ((nv (rowAt lk n i)).set p (.int (u : Int)))) = H3 at T3 fr3 ⊢
      obtain ⟨p3, a3, c3, b3⟩ := T3.ix (z := 0 + (i : Int)) (i := i) (by omega) hin
      have m3 : p3 ∈ ps := List.mem_of_getElem? c3
      refine ⟨_, rfl, _, rfl, _, rfl, _, rfl, _, _, c, sn, rfl, fx, fy, fc, fs, fun v ev => ?_, fun en => k2 (C2.fail hin h1 h2 (.inr en)) _⟩
      refine ⟨_, rfl, _, rfl, t, _, _, _, rfl, rfl, SqL.of T3.tb.top, a3, _, rfl, p3, _, _, q, rfl, rfl, b3, ixN_nat rfl (by rw [nv_len, rowAt_len]; exact h2), some (.int (0 + (i : Int))), some (.int ((Kg26.at_ lk (i * n + p) : Nat) : Int)), some (.int ((Kg26.at_ lk (i * n + q) : Nat) : Int)), (lk.set (i * n + p) u).set (i * n + q) v, fun b hb => ?_, T3.set (v := v) hin h2 c3, C2.step hin h1 h2 h3 eu ev, rfl⟩
      rw [upd_ne (fun z : b = p3 => hb (z ▸ m3))]
      exact fr3 b hb
    · rintro σ' H' ⟨o5, o6, o7, lk, fr, T2, C2, rfl⟩
      exact k1 lk (C2.end (by omega)) C2.fin H' fr T2
def sp_turn_rows (K : PySem.W.Frag) : Sp := fun vs H Q E => ∃ (t : Addr) (ps : List Addr) (n p q c s : Nat) (l : List Nat), vs = [.ref t, .int (p : Int), .int (q : Int), .int (c : Int), .int (s : Int)] ∧ TF H t ps n n l ∧ (p < n ∧ q < n ∧ p ≠ q ∧ n ≤ 32) ∧ Kg26.finite l = true ∧ (Kg26.fin c = true ∧ Kg26.fin s = true) ∧ (∀ l', Kg26.rows n p q c s l = some l' → Kg26.finite l' = true → ∀ (ps' : List Addr) (H' : Hp), SX t H H' → (∀ b ∈ ps', b ∈ ps ∨ H b = none) → TF H' t ps' n n l' → Q .non H') ∧ (Kg26.rows n p q c s l = none → ∀ H', E (.int (-1) 0) none H')
theorem sc_turn_rows : FnScope ["rows", "p", "q", "c", "s", "xs", "ys", "i"] ["rows", "p", "q", "c", "s"] (defScope s_turn_rows) := ⟨rfl, rfl, rfl, by decide +kernel, rfl, by decide +kernel, by decide +kernel⟩
theorem ok_turn_rows {f : Addr} {fd : FuncData} (F : Fun K "turn_rows" "turn_rows" s_turn_rows f fd) (T : Cn P w K mg base R)
    (G_first_turned : Df P w K mg base (CXr P w K R) 7 "first_turned" [] (sp_first_turned K))
    (G_second_turned : Df P w K mg base (CXr P w K R) 6 "second_turned" [] (sp_second_turned K)) : FnOk P w K mg base (CXr P w K R) 8 f fd ["rows", "p", "q", "c", "s"] (sp_turn_rows K) := by
  refine okX F sc_turn_rows (fun vs H Q E h => ?_) (fun cdv A outer s H vs Q E hr h => ?_)
  · obtain ⟨t, ps, n, p, q, c, s, l, rfl, _⟩ := h
    rfl
  · obtain ⟨t, ps, n, p, q, c, sn, l, rfl, Tt, ⟨h1, h2, h3, h4⟩, fX, ⟨fc, fs⟩, k1, k2⟩ := h
    have hfl : Flies R (cxOf (CXr P w K R) P w K mg base ["rows", "p", "q", "c", "s", "xs", "ys", "i"] "turn_rows" (defScope s_turn_rows) f cdv A outer s H E) E := flies_fn
    have hpx := passes_of hfl
    refine ⟨_, (pss_cons (ps_set (i := 5) sc_turn_rows.nd rfl (Or.inr rfl) (pe_ix (r := rIxL K) ix_list (pv 0) (pv 1) (fun _ _ => rfl)))
      (pss_cons (ps_set (i := 6) sc_turn_rows.nd rfl (Or.inr rfl) (pe_ix (r := rIxL K) ix_list (pv 0) (pv 2) (fun _ _ => rfl)))
      (pss_cons (ps_asg (pe_lcX rfl hfl sc_turn_rows.nd (pi_range1 rfl T.range (pa_cons (pe_callB call_len_seq rfl T.len PySem.boot_len (pa_cons (pv 5) pa_nil)) pa_nil)) (blkOk_by (own := [("i", 7)]) (show blkC ["rows", "p", "q", "c", "s", "xs", "ys", "i"] (defScope s_turn_rows) _ _ = true by decide +kernel)) (fun _ _ _ _ _ _ => pg_name (i := 7) sc_turn_rows.nd rfl (Or.inl rfl)) (fun _ _ _ _ _ _ hfl => have hpx := passes_of hfl; (pf G_first_turned hr hpx (pa_cons (pe_ix (r := rIxL K) ix_list (pv 5) (pv 7) (fun _ _ => rfl)) (pa_cons (pe_ix (r := rIxL K) ix_list (pv 6) (pv 7) (fun _ _ => rfl)) (pa_cons (pv 3) (pa_cons (pv 4) pa_nil))))))) (pg_sub (pv 0) (pv 1) set_list))
      (pss_one (ps_asg (pe_lcX rfl hfl sc_turn_rows.nd (pi_range1 rfl T.range (pa_cons (pe_callB call_len_seq rfl T.len PySem.boot_len (pa_cons (pv 5) pa_nil)) pa_nil)) (blkOk_by (own := [("i", 7)]) (show blkC ["rows", "p", "q", "c", "s", "xs", "ys", "i"] (defScope s_turn_rows) _ _ = true by decide +kernel)) (fun _ _ _ _ _ _ => pg_name (i := 7) sc_turn_rows.nd rfl (Or.inl rfl)) (fun _ _ _ _ _ _ hfl => have hpx := passes_of hfl; (pf G_second_turned hr hpx (pa_cons (pe_ix (r := rIxL K) ix_list (pv 5) (pv 7) (fun _ _ => rfl)) (pa_cons (pe_ix (r := rIxL K) ix_list (pv 6) (pv 7) (fun _ _ => rfl)) (pa_cons (pv 3) (pa_cons (pv 4) pa_nil))))))) (pg_sub (pv 0) (pv 2) set_list)))))), ?_⟩
    clear hpx hfl
    obtain ⟨p1, a1, c1, b1⟩ := Tt.ix (z := (p : Int)) (i := p) rfl h1
    obtain ⟨p2, a2, c2, b2⟩ := Tt.ix (z := (q : Int)) (i := q) rfl h2
    have n1 : p1 ≠ t := Tt.ne c1
    have n2 : p2 ≠ t := Tt.ne c2
    have fx : ∀ i, i < n → Kg26.fin (Kg26.at_ (rowAt l n p) i) = true := fun i hi => fin_at (fin_rowAt Tt.len fX h1) (by rw [rowAt_len]; exact hi)
    have fy : ∀ i, i < n → Kg26.fin (Kg26.at_ (rowAt l n q) i) = true := fun i hi => fin_at (fin_rowAt Tt.len fX h2) (by rw [rowAt_len]; exact hi)
    have le1 : (nv (rowAt l n p)).length = n := by rw [nv_len, rowAt_len]
    have en1 : ((nv (rowAt l n p)).length : Int).toNat = n := by omega
    refine ⟨_, rfl, _, rfl, t, _, _, _, rfl, rfl, SqL.of Tt.tb.top, a1, ?_⟩
    refine ⟨_, rfl, _, rfl, t, _, _, _, rfl, rfl, SqL.of Tt.tb.top, a2, ?_⟩
    refine ⟨_, rfl, p1, _, rfl, .inl (SqL.of b1), _, rfl, by omega, by omega, fun D hD => ?_⟩
    rw [en1]
    refine lc_cells (fun i => t1 c sn (Kg26.at_ (rowAt l n p) i) (Kg26.at_ (rowAt l n q) i)) hD (by omega) ?_ ?_ (fun x σ H A B z q => z _ _ q)
    · intro i H2 acc K2 hi s2 hD2 hc k3
      refine ⟨rfl, ?_⟩
      refine ⟨_, rfl, _, rfl, p1, _, _, _, rfl, rfl, SqL.of (s2 _ _ b1), ixn (j := i) (by omega) (by rw [rowAt_len]; exact hi), _, rfl, _, rfl, p2, _, _, _, rfl, rfl, SqL.of (s2 _ _ b2), ixn (j := i) (by omega) (by rw [rowAt_len]; exact hi), _, rfl, _, rfl, _, _, c, sn, rfl, fx i hi, fy i hi, fc, fs, fun u eu => k3 u eu _ s2 hD2, fun en => k2 (rows_none h1 hi (.inl en)) _⟩
    intro r1 H2 s2 hD2 er1
    have T2 := Tt.same s2
    have nD : D ∉ t :: ps := Tt.out hD
    have lr1 := cells_length er1
    have fr1 := cells_finite (fun _ _ z => t1_fin z) er1
    have T3 := T2.put h1 lr1 nD hD2
    rw [List.map_set] at T3
    have sx3 : SX t H (upd H2 t (.lst ((ps.map V.ref).set p (.ref D)))) := (SX.of s2).self
    refine ⟨_, rfl, _, rfl, t, _, _, p, rfl, rfl, T2.tb.top, ixN_nat rfl (by rw [T2.plen]; exact h1), ?_⟩
    generalize upd H2 t (.lst ((ps.map V.ref).set p (.ref D))) = H3 at T3 sx3 ⊢
    have b13 := sx3 _ _ n1 b1
    have b23 := sx3 _ _ n2 b2
    refine ⟨_, rfl, p1, _, rfl, .inl (SqL.of b13), _, rfl, by omega, by omega, fun D2 hE => ?_⟩
    rw [en1]
    refine lc_cells (fun i => t2 c sn (Kg26.at_ (rowAt l n p) i) (Kg26.at_ (rowAt l n q) i)) hE (by omega) ?_ ?_ (fun x σ H A B z q => z _ _ q)
    · intro i H4 acc K2 hi s4 hD4 hc k3
      refine ⟨rfl, ?_⟩
      refine ⟨_, rfl, _, rfl, p1, _, _, _, rfl, rfl, SqL.of (s4 _ _ b13), ixn (j := i) (by omega) (by rw [rowAt_len]; exact hi), _, rfl, _, rfl, p2, _, _, _, rfl, rfl, SqL.of (s4 _ _ b23), ixn (j := i) (by omega) (by rw [rowAt_len]; exact hi), _, rfl, _, rfl, _, _, c, sn, rfl, fx i hi, fy i hi, fc, fs, fun u eu => k3 u eu _ s4 hD4, fun en => k2 (rows_none h1 hi (.inr en)) _⟩
    intro r2 H4 s4 hD4 er2
    have T4 := T3.same s4
    have nD2 : D2 ∉ t :: ps.set p D := T3.out hE
    have nH2 : H D2 = none := by
      cases e : H D2 with
      | none => rfl
      | some o =>
        have nt : D2 ≠ t := fun z => nD2 (z ▸ List.mem_cons_self)
        have := sx3 _ _ nt e
        rw [hE] at this
        cases this
    have lr2 := cells_length er2
    have fr2 := cells_finite (fun _ _ z => t2_fin z) er2
    have T5 := T4.put h2 lr2 nD2 hD4
    rw [List.map_set] at T5
    have sx5 : SX t H (upd H4 t (.lst (((ps.set p D).map V.ref).set q (.ref D2)))) := (sx3.same s4).self
    refine ⟨_, rfl, _, rfl, t, _, _, q, rfl, rfl, T4.tb.top, ixN_nat rfl (by rw [T4.plen]; exact h2), ?_⟩
    refine k1 _ (rows_is Tt.len h1 h2 h3 er1 er2) (fin_putm (by omega) (fin_putm (by omega) fX lr1 fr1) lr2 fr2) _ _ sx5 (fun b hb => ?_) T5
    rcases List.mem_or_eq_of_mem_set hb with z | z
    · rcases List.mem_or_eq_of_mem_set z with z | z
      · exact .inl z
      · exact .inr (z ▸ hD)
    · exact .inr (z ▸ nH2)
def sp_turn (K : PySem.W.Frag) : Sp := fun vs H Q E => ∃ (t t2 : Addr) (n p q : Nat) (x : List Nat × List Nat), vs = [.ref t, .ref t2, .int (p : Int), .int (q : Int)] ∧ Jv H t t2 n x ∧ (p < n ∧ q < n ∧ p ≠ q ∧ n ≤ 32) ∧ Kg26.rest (Kg26.at_ x.1 (p * n + q)) ≠ 0 ∧ (∀ x', Kg26.turn n x (p, q) = some x' → ∀ H' : Hp, Jv H' t t2 n x' → Q .non H') ∧ (Kg26.turn n x (p, q) = none → ∀ H', E (.int (-1) 0) none H')
theorem sc_turn : FnScope ["rows", "vectors", "p", "q", "u", "c", "s"] ["rows", "vectors", "p", "q"] (defScope s_turn) := ⟨rfl, rfl, rfl, by decide +kernel, rfl, by decide +kernel, by decide +kernel⟩
theorem ok_turn {f : Addr} {fd : FuncData} (F : Fun K "turn" "turn" s_turn f fd) (T : Cn P w K mg base R)
    (G_multiply : Df P w K mg base (CXr P w K R) 5 "multiply" [] (sp_multiply K))
    (G_tangent : Df P w K mg base (CXr P w K R) 7 "tangent" [] (sp_tangent K))
    (G_cosine : Df P w K mg base (CXr P w K R) 6 "cosine" [] (sp_cosine K))
    (G_turn_columns : Df P w K mg base (CXr P w K R) 8 "turn_columns" [] (sp_turn_columns K))
    (G_turn_rows : Df P w K mg base (CXr P w K R) 8 "turn_rows" [] (sp_turn_rows K)) : FnOk P w K mg base (CXr P w K R) 9 f fd ["rows", "vectors", "p", "q"] (sp_turn K) := by
  refine okX F sc_turn (fun vs H Q E h => ?_) (fun cdv A outer s H vs Q E hr h => ?_)
  · obtain ⟨t, t2, n, p, q, x, rfl, _⟩ := h
    rfl
  · obtain ⟨t, t2, n, p, q, x, rfl, J, ⟨h1, h2, h3, h4⟩, hz, k1, k2⟩ := h
    have hfl : Flies R (cxOf (CXr P w K R) P w K mg base ["rows", "vectors", "p", "q", "u", "c", "s"] "turn" (defScope s_turn) f cdv A outer s H E) E := flies_fn
    have hpx := passes_of hfl
    refine ⟨_, (pss_cons (ps_set (i := 4) sc_turn.nd rfl (Or.inl rfl) (pf G_tangent hr hpx (pa_cons (pv 0) (pa_cons (pv 2) (pa_cons (pv 3) pa_nil)))))
      (pss_cons (ps_set (i := 5) sc_turn.nd rfl (Or.inl rfl) (pf G_cosine hr hpx (pa_cons (pv 4) pa_nil)))
      (pss_cons (ps_set (i := 6) sc_turn.nd rfl (Or.inl rfl) (pf G_multiply hr hpx (pa_cons (pv 4) (pa_cons (pv 5) pa_nil))))
      (pss_cons (ps_expr (pf G_turn_columns hr hpx (pa_cons (pv 0) (pa_cons (pv 2) (pa_cons (pv 3) (pa_cons (pv 5) (pa_cons (pv 6) pa_nil)))))))
      (pss_cons (ps_expr (pf G_turn_rows hr hpx (pa_cons (pv 0) (pa_cons (pv 2) (pa_cons (pv 3) (pa_cons (pv 5) (pa_cons (pv 6) pa_nil)))))))
      (pss_cons (ps_asg pe_int (pg_sub (pe_ix (r := rIxL K) ix_list (pv 0) (pv 2) (fun _ _ => rfl)) (pv 3) set_list))
      (pss_cons (ps_asg pe_int (pg_sub (pe_ix (r := rIxL K) ix_list (pv 0) (pv 3) (fun _ _ => rfl)) (pv 2) set_list))
      (pss_one (ps_expr (pf G_turn_rows hr hpx (pa_cons (pv 1) (pa_cons (pv 2) (pa_cons (pv 3) (pa_cons (pv 5) (pa_cons (pv 6) pa_nil))))))))))))))), ?_⟩
    clear hpx hfl
    obtain ⟨ps, ps2, Tt, V0, dj⟩ := J.tab
    obtain ⟨Z, hZ⟩ : ∃ Z, Z = Kg26.turn n x (p, q) := ⟨_, rfl⟩
    rw [← hZ] at k1 k2
    rw [turn_go hz] at hZ
    unfold tuA at hZ
    refine ⟨_, rfl, _, rfl, _, rfl, t, ps, n, p, q, x.1, rfl, Tt, ⟨h1, h2, h4⟩, J.f1, fun u eu => ?_, fun en => k2 (by rw [hZ, en, Option.bind_none]) _⟩
    rw [eu, Option.bind_some] at hZ
    have fu := tan_fin2 eu
    refine ⟨_, rfl, u, rfl, fu, fun c ec => ?_, fun en => k2 (by rw [hZ, en, Option.bind_none]) _⟩
    rw [ec, Option.bind_some] at hZ
    have fc := cos_fin ec
    refine ⟨_, rfl, _, rfl, u, c, rfl, fu, fc, fun sn es => ?_, fun en => k2 (by rw [hZ, en, Option.bind_none]) _⟩
    rw [es, Option.bind_some] at hZ
    have fs := mul_fin es
    unfold tuM at hZ
    refine ⟨_, rfl, _, rfl, _, rfl, _, rfl, _, rfl, t, ps, n, p, q, c, sn, x.1, rfl, Tt, ⟨h1, h2, h3, h4⟩, J.f1, ⟨fc, fs⟩, fun a ea fa H1 fr T1 => ?_, fun en H1 => k2 (by rw [hZ, en, Option.bind_none]) _⟩
    rw [ea, Option.bind_some] at hZ
    have V1 := V0.keep (H' := H1) fun b hb => fr b (fun z => dj b (List.mem_cons_of_mem _ z) hb)
    refine ⟨_, rfl, _, rfl, _, rfl, _, rfl, _, rfl, t, ps, n, p, q, c, sn, a, rfl, T1, ⟨h1, h2, h3, h4⟩, fa, ⟨fc, fs⟩, fun b eb fb ps3 H3 sx3 hp3 T3 => ?_, fun en H3 => k2 (by rw [hZ, en, Option.bind_none]) _⟩
    rw [eb, Option.bind_some] at hZ
    have V3 := V1.sx (dj t List.mem_cons_self) sx3
    have dj3 : Dj t ps3 t2 ps2 := Dj.put dj V1 hp3
    obtain ⟨p3, a3, c3, b3⟩ := T3.ix (z := (p : Int)) (i := p) rfl h1
    refine ⟨_, rfl, _, rfl, t, _, _, _, rfl, rfl, SqL.of T3.tb.top, a3, _, rfl, p3, _, _, q, rfl, rfl, b3, ixN_nat rfl (by rw [nv_len, rowAt_len]; exact h2), ?_⟩
    have T4 : TF (upd H3 p3 (.lst ((nv (rowAt b n p)).set q (.int 0)))) t ps3 n n (b.set (p * n + q) 0) := T3.set (v := 0) h1 h2 c3
    have V4 := V3.keep (H' := upd H3 p3 (.lst ((nv (rowAt b n p)).set q (.int 0)))) fun y hy => upd_ne (fun z : y = p3 => dj3 p3 (List.mem_cons_of_mem _ (List.mem_of_getElem? c3)) (z ▸ hy))
    generalize upd H3 p3 (.lst ((nv (rowAt b n p)).set q (.int 0))) = H4 at T4 V4 ⊢
    obtain ⟨p4, a4, c4, b4⟩ := T4.ix (z := (q : Int)) (i := q) rfl h2
    refine ⟨_, rfl, _, rfl, t, _, _, _, rfl, rfl, SqL.of T4.tb.top, a4, _, rfl, p4, _, _, p, rfl, rfl, b4, ixN_nat rfl (by rw [nv_len, rowAt_len]; exact h1), ?_⟩
    have T5 : TF (upd H4 p4 (.lst ((nv (rowAt (b.set (p * n + q) 0) n q)).set p (.int 0)))) t ps3 n n ((b.set (p * n + q) 0).set (q * n + p) 0) := T4.set (v := 0) h2 h1 c4
    have V5 := V4.keep (H' := upd H4 p4 (.lst ((nv (rowAt (b.set (p * n + q) 0) n q)).set p (.int 0)))) fun y hy => upd_ne (fun z : y = p4 => dj3 p4 (List.mem_cons_of_mem _ (List.mem_of_getElem? c4)) (z ▸ hy))
    generalize upd H4 p4 (.lst ((nv (rowAt (b.set (p * n + q) 0) n q)).set p (.int 0))) = H5 at T5 V5 ⊢
    rw [zap_eq T3.len h1 h2] at T5
    have et := rows_tr n p q c sn x.2 h1 h2
    refine ⟨_, rfl, _, rfl, _, rfl, _, rfl, _, rfl, t2, ps2, n, p, q, c, sn, tr n n x.2, rfl, V5, ⟨h1, h2, h3, h4⟩, fin_tr J.len J.f2, ⟨fc, fs⟩, fun w2 ew fw ps6 H6 sx6 hp6 T6 => ?_, fun en H6 => k2 ?_ _⟩
    · rw [et] at ew
      obtain ⟨v', ev, rfl⟩ := Option.map_eq_some_iff.mp ew
      rw [ev, Option.bind_some] at hZ
      exact k1 _ hZ H6 ⟨⟨ps3, ps6, T5.sx (dj3.symm t2 List.mem_cons_self) sx6, T6, (Dj.put dj3.symm T5 hp6).symm⟩, columns_len ev, fin_zap T3.len h1 h2 fb, fin_untr (columns_len ev) fw⟩
    · rw [et] at en
      rw [hZ, Option.map_eq_none_iff.mp en, Option.bind_none]
def sp_turn_all (K : PySem.W.Frag) : Sp := fun vs H Q E => ∃ (t : Addr) (ps : List Addr) (n r : Nat) (l : List Nat), vs = [.ref t, .int (r : Int)] ∧ TF H t ps n n l ∧ (n ≤ 32 ∧ r ≤ 64) ∧ Kg26.finite l = true ∧ (∀ x, Kg26.jacobi n r l = some x → ∀ (t2 : Addr) (H' : Hp), Jv H' t t2 n x → Q (.ref t2) H') ∧ (Kg26.jacobi n r l = none → ∀ H', E (.int (-1) 0) none H')
theorem sc_turn_all : FnScope ["rows", "rounds", "vectors", "count", "p", "q"] ["rows", "rounds"] (defScope s_turn_all) := ⟨rfl, rfl, rfl, by decide +kernel, rfl, by decide +kernel, by decide +kernel⟩
theorem ok_turn_all {f : Addr} {fd : FuncData} (F : Fun K "turn_all" "turn_all" s_turn_all f fd) (T : Cn P w K mg base R)
    (G_size_of : Df P w K mg base CX0 1 "size_of" [] (sp_size_of K))
    (G_unit_rows : Df P w K mg base CX0 2 "unit_rows" [] (sp_unit_rows K))
    (G_turn : Df P w K mg base (CXr P w K R) 9 "turn" [] (sp_turn K)) : FnOk P w K mg base (CXr P w K R) 10 f fd ["rows", "rounds"] (sp_turn_all K) := by
  refine okX F sc_turn_all (fun vs H Q E h => ?_) (fun cdv A outer s H vs Q E hr h => ?_)
  · obtain ⟨t, ps, n, r, l, rfl, _⟩ := h
    rfl
  · obtain ⟨t, ps, n, r, l, rfl, Tt, ⟨h1, h2⟩, fX, k1, k2⟩ := h
    have hfl : Flies R (cxOf (CXr P w K R) P w K mg base ["rows", "rounds", "vectors", "count", "p", "q"] "turn_all" (defScope s_turn_all) f cdv A outer s H E) E := flies_fn
    have hpx := passes_of hfl
    refine ⟨_, (pss_cons (ps_set (i := 2) sc_turn_all.nd rfl (Or.inl rfl) (pf G_unit_rows hr pass0 (pa_cons (pe_callB call_len_seq rfl T.len PySem.boot_len (pa_cons (pv 0) pa_nil)) pa_nil)))
      (pss_cons (ps_for own_fn rfl (pi_range1 rfl T.range (pa_cons (pv 1) pa_nil)) (pg_name (i := 3) sc_turn_all.nd rfl (Or.inl rfl)) (pss_one (ps_for own_fn rfl (pi_range1 rfl T.range (pa_cons (pe_callB call_len_seq rfl T.len PySem.boot_len (pa_cons (pv 0) pa_nil)) pa_nil)) (pg_name (i := 4) sc_turn_all.nd rfl (Or.inl rfl)) (pss_one (ps_for own_fn rfl (pi_range2 rfl T.range (pa_cons (pe_op op_add (pv 4) pe_int) (pa_cons (pe_callB call_len_seq rfl T.len PySem.boot_len (pa_cons (pv 0) pa_nil)) pa_nil))) (pg_name (i := 5) sc_turn_all.nd rfl (Or.inl rfl)) (pss_one (ps_join (ps_if (pt_cmpR op_ne (pf G_size_of hr pass0 (pa_cons (pe_ix (r := rIxL K) ix_list (pe_ix (r := rIxL K) ix_list (pv 0) (pv 4) (fun _ _ => rfl)) (pv 5) (fun _ _ => rfl)) pa_nil)) pe_int (nomark _)) (pss_one (ps_expr (pf G_turn hr hpx (pa_cons (pv 0) (pa_cons (pv 2) (pa_cons (pv 4) (pa_cons (pv 5) pa_nil))))))) pss_nil))))))))
      (pss_one (ps_ret (pv 2))))), ?_⟩
    clear hpx hfl
    rw [jc_eq] at k1 k2
    have hpl := Tt.plen
    refine ⟨_, rfl, t, _, rfl, .inl (SqL.of Tt.tb.top), n, (by rw [hpl]; rfl), h1, fun t2 ps2 H1 s1 nw T1 => ?_⟩
    have dj0 : Dj t ps t2 ps2 := fun b hb z => (Tt.out (nw b z)) hb
    have J0 : Jv H1 t t2 n (l, Kg26.unit n) := ⟨⟨ps, ps2, Tt.same s1, by rw [unit_tr]; exact T1, dj0⟩, unit_len n, fX, unit_fin n⟩
    refine ⟨_, rfl, _, rfl, by omega, by omega, ?_⟩
    refine for_range (fun i σ' H' => ∃ (o3 o4 o5 : Option V) (x : List Nat × List Nat), jcR n (l, Kg26.unit n) i = some x ∧ Jv H' t t2 n x ∧ σ' = [some (.ref t), some (.int (r : Int)), some (.ref t2), o3, o4, o5]) ⟨none, none, none, _, rfl, J0, rfl⟩ ?_ ?_
    · rintro i σ' H' hi ⟨o3, o4, o5, x, ex, J, rfl⟩
      have hir : i < r := by omega
      have kR : jcP n x n = none → ∀ H', E (.int (-1) 0) none H' := fun e => k2 (jcR_none (i := i + 1) (by rw [jcR_succ, ex, Option.bind_some]; exact e) hir)
      obtain ⟨ps3, ps4, T3, _, _⟩ := J.tab
      have hp3 := T3.plen
      refine ⟨_, rfl, t, _, rfl, .inl (SqL.of T3.tb.top), _, rfl, by omega, by omega, ?_⟩
      refine for_range (fun p σ' H' => ∃ (o4 o5 : Option V) (y : List Nat × List Nat), jcP n x p = some y ∧ Jv H' t t2 n y ∧ σ' = [some (.ref t), some (.int (r : Int)), some (.ref t2), some (.int (0 + (i : Int))), o4, o5]) ⟨o4, o5, x, rfl, J, rfl⟩ ?_ ?_
      · rintro p σ' H' hp ⟨o4, o5, y, ey, Jy, rfl⟩
        have hpn : p < n := by omega
        have kP : jcQ n y p (n - p - 1) = none → ∀ H', E (.int (-1) 0) none H' := fun e => kR (jcP_none (i := p + 1) (by rw [jcP_succ, ey, Option.bind_some]; exact e) hpn)
        obtain ⟨ps5, ps6, T5, _, _⟩ := Jy.tab
        have hp5 := T5.plen
        refine ⟨_, rfl, _, _, rfl, rfl, _, rfl, t, _, rfl, .inl (SqL.of T5.tb.top), _, _, rfl, ⟨by omega, by omega, by omega, by omega⟩, ?_⟩
        refine for_range (fun k σ' H' => ∃ (o5 : Option V) (z : List Nat × List Nat), jcQ n y p k = some z ∧ Jv H' t t2 n z ∧ σ' = [some (.ref t), some (.int (r : Int)), some (.ref t2), some (.int (0 + (i : Int))), some (.int (0 + (p : Int))), o5]) ⟨o5, y, rfl, Jy, rfl⟩ ?_ ?_
        · rintro k σ' H' hk ⟨o5, z, ez, Jz, rfl⟩
          have hq : p + 1 + k < n := by omega
          have hkn : k < n - p - 1 := by omega
          have eq : jcQ n y p (k + 1) = Kg26.turn n z (p, p + 1 + k) := by rw [jcQ_succ, ez, Option.bind_some]
          obtain ⟨ps7, ps8, T7, _, _⟩ := Jz.tab
          obtain ⟨p7, a7, c7, b7⟩ := T7.ix (z := 0 + (p : Int)) (i := p) (by omega) hpn
          have fz := fin_at Jz.f1 (i := p * n + (p + 1 + k)) (by rw [T7.len]; exact cell_lt hpn hq)
          refine ⟨fun σ' H' => ∃ (o5 : Option V) (z : List Nat × List Nat), jcQ n y p (k + 1) = some z ∧ Jv H' t t2 n z ∧ σ' = [some (.ref t), some (.int (r : Int)), some (.ref t2), some (.int (0 + (i : Int))), some (.int (0 + (p : Int))), o5], ⟨_, rfl, _, rfl, t, _, _, _, rfl, rfl, SqL.of T7.tb.top, a7, _, rfl, p7, _, _, _, rfl, rfl, SqL.of b7, ixr (j := p + 1 + k) (by omega) hq, _, rfl, fin_lt fz, rfl, _, rfl, iteND (fun c => ?_) (fun c => ?_)⟩, fun σ' H' z => z⟩
          · have hz : Kg26.rest (Kg26.at_ z.1 (p * n + (p + 1 + k))) ≠ 0 := fun e => c (congrArg (fun x : Nat => V.int (x : Int)) e)
            refine ⟨_, rfl, _, rfl, _, rfl, _, rfl, t, t2, n, p, p + 1 + k, z, vs4 (by omega) (by omega), Jz, ⟨hpn, hq, by omega, h1⟩, hz, fun z' ez' H8 J8 => ?_, fun en => kP (jcQ_none (eq.trans en) hkn)⟩
            exact ⟨some (.int (0 + (p : Int) + 1 + (k : Int))), z', eq.trans ez', J8, rfl⟩
          · have hz : Kg26.rest (Kg26.at_ z.1 (p * n + (p + 1 + k))) = 0 := Int.natCast_inj.mp (V.int.inj c)
            exact ⟨some (.int (0 + (p : Int) + 1 + (k : Int))), z, eq.trans (turn_skip hz), Jz, rfl⟩
        · rintro σ' H' ⟨o5, z, ez, Jz, rfl⟩
          rw [show (((ps5.map V.ref).length : Int) - (0 + (p : Int) + 1)).toNat = n - p - 1 by omega] at ez
          exact ⟨some (.int (0 + (p : Int))), o5, z, by rw [jcP_succ, ey, Option.bind_some]; exact ez, Jz, rfl⟩
      · rintro σ' H' ⟨o4, o5, y, ey, Jy, rfl⟩
        rw [show ((ps3.map V.ref).length : Int).toNat = n by omega] at ey
        exact ⟨some (.int (0 + (i : Int))), o4, o5, y, by rw [jcR_succ, ex, Option.bind_some]; exact ey, Jy, rfl⟩
    · rintro σ' H' ⟨o3, o4, o5, x, ex, J, rfl⟩
      rw [Int.toNat_natCast] at ex
      exact ⟨_, rfl, k1 x ex t2 H' J⟩
def sp_check_size (K : PySem.W.Frag) : Sp := fun vs H Q E => ∃ n m : Int, vs = [.int n, .int m] ∧ (m ≤ n ∧ n ≤ 32 → Q .non H) ∧ (¬ (m ≤ n ∧ n ≤ 32) → E (.int (-8) 0) none H)
theorem sc_check_size : FnScope ["size", "smallest"] ["size", "smallest"] (defScope s_check_size) := ⟨rfl, rfl, rfl, by decide +kernel, rfl, by decide +kernel, by decide +kernel⟩
theorem ok_check_size {f : Addr} {fd : FuncData} {tk : Tok} (F : FunD K "check_size" "check_size" s_check_size f fd tk) (T : Cn P w K mg base R)
     : FnOk P w K mg base (CXr P w K R) 4 f fd ["size", "smallest"] (sp_check_size K) := by
  refine okXD F sc_check_size (fun vs H Q E h => ?_) (fun cdv A outer s H vs Q E hr h => ?_)
  · obtain ⟨n, m, rfl, _⟩ := h
    rfl
  · obtain ⟨n, m, rfl, k1, k2⟩ := h
    have hfl : Flies R (cxOf (CXr P w K R) P w K mg base ["size", "smallest"] "check_size" (defScope s_check_size) f cdv A outer s H E) E := flies_fn
    have hpx := passes_of hfl
    refine ⟨_, (pss_one (ps_if (PW.pt (pw_or (pt_cmpR op_lt (pv 0) (pv 1) (nomark _)) (pw_or1 (pt_cmpR op_gt (pv 0) (pgc T.c_LARGEST_SIZE) (nomark _))))) (pss_one (praise T.z_OutOfRange hr hfl)) pss_nil)), ?_⟩
    clear hpx hfl
    refine ⟨_, rfl, _, rfl, _, _, rfl, rfl, _, rfl, iteD (fun z => ?_) (fun z => ?_)⟩
    · exact k2 (by omega)
    refine ⟨_, rfl, _, _, rfl, rfl, _, rfl, iteD (fun z2 => ?_) (fun z2 => ?_)⟩
    · exact k2 (by omega)
    · exact k1 (by omega)
def sp_check_rounds (K : PySem.W.Frag) : Sp := fun vs H Q E => ∃ r : Int, vs = [.int r] ∧ (0 ≤ r ∧ r ≤ 64 → Q .non H) ∧ (¬ (0 ≤ r ∧ r ≤ 64) → E (.int (-8) 0) none H)
theorem sc_check_rounds : FnScope ["rounds"] ["rounds"] (defScope s_check_rounds) := ⟨rfl, rfl, rfl, by decide +kernel, rfl, by decide +kernel, by decide +kernel⟩
theorem ok_check_rounds {f : Addr} {fd : FuncData} (F : Fun K "check_rounds" "check_rounds" s_check_rounds f fd) (T : Cn P w K mg base R)
     : FnOk P w K mg base (CXr P w K R) 4 f fd ["rounds"] (sp_check_rounds K) := by
  refine okX F sc_check_rounds (fun vs H Q E h => ?_) (fun cdv A outer s H vs Q E hr h => ?_)
  · obtain ⟨r, rfl, _⟩ := h
    rfl
  · obtain ⟨r, rfl, k1, k2⟩ := h
    have hfl : Flies R (cxOf (CXr P w K R) P w K mg base ["rounds"] "check_rounds" (defScope s_check_rounds) f cdv A outer s H E) E := flies_fn
    have hpx := passes_of hfl
    refine ⟨_, (pss_one (ps_if (PW.pt (pw_or (pt_cmpR op_lt (pv 0) pe_int (nomark _)) (pw_or1 (pt_cmpR op_gt (pv 0) (pgc T.c_LARGEST_ROUNDS) (nomark _))))) (pss_one (praise T.z_OutOfRange hr hfl)) pss_nil)), ?_⟩
    clear hpx hfl
    refine ⟨_, rfl, _, _, rfl, rfl, _, rfl, iteD (fun z => ?_) (fun z => ?_)⟩
    · exact k2 (by omega)
    refine ⟨_, rfl, _, _, rfl, rfl, _, rfl, iteD (fun z2 => ?_) (fun z2 => ?_)⟩
    · exact k2 (by omega)
    · exact k1 (by omega)
def sp_check_finite (K : PySem.W.Frag) : Sp := fun vs H Q E => ∃ (a : Addr) (xs : List Nat), vs = [.ref a] ∧ SqL K H a (nv xs) ∧ (∀ x ∈ xs, x < 2 ^ 64) ∧ (Kg26.finite xs = true → Q .non H) ∧ (Kg26.finite xs = false → E (.int (-1) 0) none H)
theorem sc_check_finite : FnScope ["numbers", "x"] ["numbers"] (defScope s_check_finite) := ⟨rfl, rfl, rfl, by decide +kernel, rfl, by decide +kernel, by decide +kernel⟩
theorem ok_check_finite {f : Addr} {fd : FuncData} (F : Fun K "check_finite" "check_finite" s_check_finite f fd) (T : Cn P w K mg base R)
    (G_is_finite : Df P w K mg base CX0 1 "is_finite" [] (sp_is_finite K)) : FnOk P w K mg base (CXr P w K R) 4 f fd ["numbers"] (sp_check_finite K) := by
  refine okX F sc_check_finite (fun vs H Q E h => ?_) (fun cdv A outer s H vs Q E hr h => ?_)
  · obtain ⟨a, xs, rfl, _⟩ := h
    rfl
  · obtain ⟨a, xs, rfl, hS, hall, k1, k2⟩ := h
    have hfl : Flies R (cxOf (CXr P w K R) P w K mg base ["numbers", "x"] "check_finite" (defScope s_check_finite) f cdv A outer s H E) E := flies_fn
    have hpx := passes_of hfl
    refine ⟨_, (pss_one (ps_for own_fn rfl (pi_list (pv 0)) (pg_name (i := 1) sc_check_finite.nd rfl (Or.inl rfl)) (pss_one (ps_if (pt_not (pt_truth (pf G_is_finite hr pass0 (pa_cons (pv 1) pa_nil)) (fun _ => rfl))) (pss_one (praise T.z_NotFinite hr hfl)) pss_nil)))), ?_⟩
    clear hpx hfl
    have hlen := nv_len xs
    refine ⟨_, rfl, a, rfl, ⟨_, hS⟩, for_list (xs := nv xs) (fun i σ' H' => H' = H ∧ (∃ o, σ' = [some (.ref a), o]) ∧ ∀ j, j < i → Kg26.fin (Kg26.at_ xs j) = true) ⟨rfl, ⟨_, rfl⟩, fun j hj => absurd hj (Nat.not_lt_zero _)⟩ ?_ ?_ ?_⟩
    · rintro i σ' H' _ ⟨rfl, _⟩
      exact hS
    · rintro i x σ' H' hi ⟨rfl, ⟨o, rfl⟩, hj⟩
      have hil : i < xs.length := by
        have := (List.getElem?_eq_some_iff.mp hi).1
        omega
      rw [nv_get hil] at hi
      cases hi
      refine ⟨_, rfl, _, rfl, lt_at hall hil, _, rfl, iteB (fun z => ?_) (fun z => ?_)⟩
      · refine k2 ?_
        have z' : Kg26.fin (Kg26.at_ xs i) = false := by simpa using z
        cases e : Kg26.finite xs with
        | false => rfl
        | true =>
          rw [fin_at e hil] at z'
          cases z'
      · refine ⟨rfl, ⟨_, rfl⟩, fun j hj' => ?_⟩
        by_cases e : j = i
        · subst e; simpa using z
        · exact hj j (by omega)
    · rintro σ' H' ⟨rfl, ⟨o, rfl⟩, hj⟩
      exact k1 (finite_of fun j h => hj j (by omega))
def sp_check_same_turned_about (K : PySem.W.Frag) : Sp := fun vs H Q E => ∃ (t : Addr) (ps : List Addr) (n : Nat) (l : List Nat), vs = [.ref t] ∧ TF H t ps n n l ∧ (1 ≤ n ∧ n ≤ 32) ∧ (Kg26.symmetric n l = true → ∀ H', Same H H' → Q .non H') ∧ (Kg26.symmetric n l = false → ∀ H', Same H H' → E (.int (-8) 0) none H')
theorem sc_check_same_turned_about : FnScope ["rows"] ["rows"] (defScope s_check_same_turned_about) := ⟨rfl, rfl, rfl, by decide +kernel, rfl, by decide +kernel, by decide +kernel⟩
theorem ok_check_same_turned_about {f : Addr} {fd : FuncData} (F : Fun K "check_same_turned_about" "check_same_turned_about" s_check_same_turned_about f fd) (T : Cn P w K mg base R)
    (G_turned_about : Df P w K mg base CX0 2 "turned_about" [] (sp_turned_about K)) : FnOk P w K mg base (CXr P w K R) 4 f fd ["rows"] (sp_check_same_turned_about K) := by
  refine okX F sc_check_same_turned_about (fun vs H Q E h => ?_) (fun cdv A outer s H vs Q E hr h => ?_)
  · obtain ⟨t, ps, n, l, rfl, _⟩ := h
    rfl
  · obtain ⟨t, ps, n, l, rfl, Tt, ⟨h1, h2⟩, k1, k2⟩ := h
    have hfl : Flies R (cxOf (CXr P w K R) P w K mg base ["rows"] "check_same_turned_about" (defScope s_check_same_turned_about) f cdv A outer s H E) E := flies_fn
    have hpx := passes_of hfl
    refine ⟨_, (pss_one (ps_if (pt_cmpR (op_neD hr.units) (pf G_turned_about hr pass0 (pa_cons (pv 0) pa_nil)) (pv 0) (nomark _)) (pss_one (praise T.z_OutOfRange hr hfl)) pss_nil)), ?_⟩
    clear hpx hfl
    refine ⟨_, rfl, t, ps, n, n, l, rfl, Tt, ⟨h1, h2, h1, h2⟩, fun t' ps' H1 s1 nw T2 => ?_⟩
    have T3 := Tt.same s1
    refine ⟨_, rfl, .list (tdat _), .list (tdat _), .lst (SqL.of T2.top) (dp_tab T2.len T2.row), .lst (SqL.of T3.tb.top) (dp_tab T3.tb.len T3.tb.row), shaped_tab _, shaped_tab _, _, rfl, ?_⟩
    rw [PyData.eqv, eqv_tab]
    have e := sym_iff (l := l) (n := n)
    refine iteND (fun z => ?_) (fun z => ?_)
    · refine k2 ?_ _ s1
      cases h : Kg26.symmetric n l with
      | false => rfl
      | true => exact absurd (e.mpr h) z
    · exact k1 (e.mp z) _ s1
def sp_jacobi (K : PySem.W.Frag) : Sp := fun vs H Q _ => ∃ (n r : Int) (a : List Int), Args K H vs [.n n, .n r, .l a] ∧ PyKg26.jacobi_asked n r a = true ∧ ∀ (p : Addr) (H' : Hp), H' p = some (.lst ((PyKg26.jacobi n r a).map V.int)) → Q (.ref p) H'
theorem sc_jacobi : FnScope ["n", "rounds", "a", "refusal", "rows", "vectors", "i"] ["n", "rounds", "a"] (defScope s_jacobi) := ⟨rfl, rfl, rfl, by decide +kernel, rfl, by decide +kernel, by decide +kernel⟩
theorem ok_jacobi {f : Addr} {fd : FuncData} (F : Fun K "jacobi" "jacobi" s_jacobi f fd) (T : Cn P w K mg base R) (hR : mg "Refusal" = some (.ref R))
    (G_rows_of : Df P w K mg base CX0 1 "rows_of" [] (sp_rows_of K))
    (G_joined : Df P w K mg base CX0 1 "joined" [] (sp_joined K))
    (G_turned_about : Df P w K mg base CX0 2 "turned_about" [] (sp_turned_about K))
    (G_turn_all : Df P w K mg base (CXr P w K R) 10 "turn_all" [] (sp_turn_all K))
    (G_check_size_d : Df P w K mg base (CXr P w K R) 4 "check_size" [.int 1] (sp_check_size K))
    (G_check_rounds : Df P w K mg base (CXr P w K R) 4 "check_rounds" [] (sp_check_rounds K))
    (G_check_finite : Df P w K mg base (CXr P w K R) 4 "check_finite" [] (sp_check_finite K))
    (G_check_same_turned_about : Df P w K mg base (CXr P w K R) 4 "check_same_turned_about" [] (sp_check_same_turned_about K)) : FnOk P w K mg base CX0 11 f fd ["n", "rounds", "a"] (sp_jacobi K) := by
  refine okTop F sc_jacobi (fun vs H Q E h => ?_) rfl 3 rfl rfl rfl hR (fun cdv A outer s H vs Q E hr h => ?_)
  · obtain ⟨n, r, a, hA, _⟩ := h
    have e := Paired.length hA
    exact e
  · obtain ⟨n, r, a, hA, hask, k⟩ := h
    obtain ⟨vs1, rfl, hA1⟩ := args_n hA
    obtain ⟨vs2, rfl, hA2⟩ := args_n hA1
    obtain ⟨pa, vs3, rfl, hX, hA3⟩ := args_l hA2
    obtain rfl := args_nil hA3
    clear hA hA1 hA2 hA3
    obtain ⟨hv, hx, lx⟩ := jacobi_due hask
    rw [hv] at k
    rw [nv_ints (nat_back hx)] at hX
    have bx := nat_lt hx
    rw [← List.length_map (f := Int.toNat)] at lx
    generalize a.map Int.toNat = X at *
    refine ⟨_, fun xe hfl => have hpx := passes_of hfl; (pss_cons (ps_expr (pf G_check_size_d hr hpx (pa_cons (pv 0) pa_nil)))
      (pss_cons (ps_expr (pf G_check_rounds hr hpx (pa_cons (pv 1) pa_nil)))
      (pss_cons (ps_expr (pf G_check_finite hr hpx (pa_cons (pv 2) pa_nil)))
      (pss_cons (ps_set (i := 4) sc_jacobi.nd rfl (Or.inr rfl) (pf G_rows_of hr pass0 (pa_cons (pv 2) (pa_cons (pv 0) pa_nil))))
      (pss_cons (ps_expr (pf G_check_same_turned_about hr hpx (pa_cons (pv 4) pa_nil)))
      (pss_cons (ps_set (i := 5) sc_jacobi.nd rfl (Or.inl rfl) (pf G_turn_all hr hpx (pa_cons (pv 4) (pa_cons (pv 1) pa_nil))))
      (pss_one (ps_ret (pe_op op_cat (pe_op op_cat (pe_lst (pa_cons pe_int pa_nil)) (pe_lc rfl sc_jacobi.nd (pi_range1 rfl T.range (pa_cons (pv 0) pa_nil)) (blkOk_by (own := [("i", 6)]) (show blkC ["n", "rounds", "a", "refusal", "rows", "vectors", "i"] (defScope s_jacobi) _ _ = true by decide +kernel)) (fun _ _ _ _ _ => pg_name (i := 6) sc_jacobi.nd rfl (Or.inl rfl)) (fun _ _ _ _ _ => pts_nil) (fun _ _ _ _ _ => (pe_ix (r := rIxL K) ix_list (pe_ix (r := rIxL K) ix_list (pv 4) (pv 6) (fun _ _ => rfl)) (pv 6) (fun _ _ => rfl))))) (pf G_joined hr pass0 (pa_cons (pf G_turned_about hr pass0 (pa_cons (pv 5) pa_nil)) pa_nil))))))))))), ?_⟩
    refine ⟨_, rfl, n, 1, rfl, fun hn => ?_, fun hn => et k (j_size (by omega))⟩
    rw [sz_of hn.1 hn.2] at lx
    refine ⟨_, rfl, r, rfl, fun hr2 => ?_, fun hr2 => et k (j_rounds hr2)⟩
    refine ⟨_, rfl, pa, X, rfl, hX, bx, fun f1 => ?_, fun f1 => et k (j_fin hn hr2 f1)⟩
    obtain ⟨n', rfl⟩ : ∃ n' : Nat, n = n' := ⟨n.toNat, by omega⟩
    obtain ⟨r', rfl⟩ : ∃ r' : Nat, r = r' := ⟨r.toNat, by omega⟩
    rw [Int.toNat_natCast] at lx
    refine ⟨_, rfl, _, rfl, pa, X, n', n', rfl, hX, lx, ⟨by omega, by omega, by omega⟩, fun t ps H2 s2 nw T2 => ?_⟩
    have TT : TF H2 t ps n' n' X := ⟨T2, lx⟩
    refine ⟨_, rfl, t, ps, n', X, rfl, TT, ⟨by omega, by omega⟩, fun f2 H3 s3 => ?_, fun f2 H3 s3 => et k (j_sym hn hr2 f1 (by rw [Int.toNat_natCast]; exact f2))⟩
    have f2' : Kg26.symmetric (n' : Int).toNat X = true := by rw [Int.toNat_natCast]; exact f2
    refine ⟨_, rfl, _, rfl, t, ps, n', r', X, rfl, TT.same s3, ⟨by omega, by omega⟩, f1, fun x ex t2 H4 J => ?_, fun en H4 => et k (j_none hn hr2 f1 f2' (by rw [Int.toNat_natCast, Int.toNat_natCast]; exact en))⟩
    rw [j_out hn hr2 f1 f2' (x := x) (by rw [Int.toNat_natCast, Int.toNat_natCast]; exact ex), Int.toNat_natCast] at k
    obtain ⟨ps4, ps5, T4, V4, _⟩ := J.tab
    have lv := J.len
    clear J
    generalize x.1 = b at k T4
    generalize x.2 = v at k V4 lv
    refine ⟨(by show 1 ≤ sizeLine; decide), fun q0 hq0 => ?_⟩
    have s4 : Same H4 (upd H4 q0 (.lst [.int 0])) := same_upd hq0
    have hq1 : upd H4 q0 (.lst [.int 0]) q0 = some (.lst [.int 0]) := upd_same
    have T5 := T4.same s4
    have V5 := V4.same s4
    generalize upd H4 q0 (.lst [.int 0]) = H5 at hq1 T5 V5 ⊢
    refine ⟨_, rfl, _, rfl, by omega, by omega, fun D hD => ?_⟩
    rw [Int.toNat_natCast]
    refine lc_cells (fun i => some (Kg26.at_ b (i * n' + i))) hD (by omega) ?_ ?_ (fun x σ H A B z q => z _ _ q)
    · intro i H6 acc K2 hi s6 hD6 hc k3
      obtain ⟨p6, a6, c6, b6⟩ := (T5.same s6).ix (z := 0 + (i : Int)) (i := i) (by omega) hi
      refine ⟨rfl, ?_⟩
      exact ⟨_, rfl, _, rfl, t, _, _, _, rfl, rfl, SqL.of (s6 _ _ T5.tb.top), a6, _, rfl, p6, _, _, _, rfl, rfl, SqL.of b6, ixr (j := i) (by omega) hi, k3 _ rfl _ s6 hD6⟩
    intro dg H6 s6 hD6 ed
    have ed : (List.range n').map (fun (i : Nat) => Kg26.at_ b (i * n' + i)) = dg := Option.some.inj ((cells_all (h := fun i => Kg26.at_ b (i * n' + i)) fun _ _ => rfl).symm.trans ed)
    rw [ed] at k
    have ld : dg.length = n' := by rw [← ed, List.length_map, List.length_range]
    refine ⟨q0, D, _, _, rfl, rfl, s6 _ _ hq1, hD6, (by rw [nv_len, sizeLine_eq]; show 1 + dg.length ≤ _; omega), fun x6 hx6 => ?_⟩
    have s7 : Same H6 (upd H6 x6 (.lst ([.int 0] ++ nv dg))) := same_upd hx6
    have hx7 : upd H6 x6 (.lst ([.int 0] ++ nv dg)) x6 = some (.lst ([.int 0] ++ nv dg)) := upd_same
    have V7 := (V5.same s6).same s7
    generalize upd H6 x6 (.lst ([.int 0] ++ nv dg)) = H7 at hx7 V7 ⊢
    refine ⟨_, rfl, t2, ps5, n', n', tr n' n' v, rfl, V7, ⟨by omega, by omega, by omega, by omega⟩, fun t8 ps8 H8 s8 nw8 T8 => ?_⟩
    have T9 := tf_tr T8
    rw [tr_tr lv] at T9
    have hol : v.length ≤ 32 * 32 := by rw [lv]; exact Nat.mul_le_mul (by omega) (by omega)
    refine ⟨t8, ps8, n', n', v, rfl, T9, by omega, by omega, fun p9 H9 s9 hp9 hp => ?_⟩
    refine ⟨x6, p9, _, _, rfl, rfl, s9 _ _ (s8 _ _ hx7), hp, (by rw [nv_len, List.length_append, nv_len, sizeLine_eq]; show 1 + dg.length + v.length ≤ _; omega), fun o ho => k o _ ?_⟩
    rw [upd_same, List.append_assoc, ← nv_append]
    exact congrArg (fun z => some (HO.lst z)) (out_eq (dg ++ v))
theorem said : PySem.Challenge.rw_bitmatrix_s09_jacobi.wellSaid = true := by decide +kernel
theorem hargs : ∀ args : List PySem.W.WData, PySem.Challenge.rw_bitmatrix_s09_jacobi.pre args = true → ∃ (as : List Arg) (out : List Int), args = as.map Arg.d ∧ (∀ ns, Arg.l ns ∈ as → ns.length ≤ sizeLine) ∧ PySem.Challenge.rw_bitmatrix_s09_jacobi.post args (.list (out.map .int)) = true ∧
      ∀ (K : PySem.W.Frag) (H : Hp) (vs : List V), Args K H vs as → sp_jacobi K vs H (fun v H' => ∃ p, v = .ref p ∧ H' p = some (.lst (out.map V.int))) fun _ _ _ => False := by
  intro args hpre
  have hs : 32 * 32 ≤ sizeLine := by decide
  obtain ⟨⟨n, r, a, _⟩, hw, hask, rfl⟩ := (PySem.W.OpenSpec.pre_iff said args).mp hpre
  refine ⟨[.n n, .n r, .l a], PyKg26.jacobi n r a, rfl, ?_, (PySem.W.OpenSpec.post_iff said hw _ []).mpr rfl, fun K H vs hA => ⟨n, r, a, hA, hask, fun p H' h => ⟨p, rfl, h⟩⟩⟩
  have hask : PyKg26.jacobi_asked n r a = true := hask
  obtain ⟨_, _, la⟩ := jacobi_due hask
  have h1 := Nat.mul_le_mul (sz_le n) (sz_le n)
  intro ns h
  simp only [List.mem_cons, reduceCtorEq, Arg.l.injEq, List.not_mem_nil, or_false, false_or] at h
  rcases h with rfl
  omega
end
end Bm
end
open PySem PySem.W PyProof.Rows
set_option maxRecDepth 100000 in
set_option maxHeartbeats 0 in
theorem PySem.Challenge.cw_bitmatrix_s09_jacobi_holds : PySem.Challenge.rw_bitmatrix_s09_jacobi.Holds := by
  w_on; k_headS; (case hw => exact ⟨[.int 0, .int 0, .list []], by decide +kernel, by decide +kernel⟩)
  k_fillS
  refine Bm.walkS (r := PySem.Challenge.rw_bitmatrix_s09_jacobi) (k := 11) (sp := Bm.sp_jacobi) (ps := ["n", "rounds", "a"]) rfl ⟨rfl, by decide, by decide⟩ (fun w h Y => PySem.W.kIn_of Y) Bm.hargs ?F
  case F =>
    intro w mg fa h KX G hmg
    obtain ⟨R, hR, hT⟩ : ∃ R : Addr, mg "Refusal" = some (.ref R) ∧ ∀ (P : Program) (w' : World) (base : Heap), Bm.Cn P w' _ mg base R := by
      refine' Bm.cn_mk KX G ?aR ?fR ?lR ?cR ?kR ?gR ?dR ?mR ?clR ?tR ?a1 ?l1 ?ha1 ?hb1 ?hc1 ?m0_1 ?m1_1 ?m2_1 ?m3_1 ?m4_1 ?m5_1 ?m6_1 ?ca1 ?in1 ?ty1 ?fi1 ?tf1 ?cl1 ?hd1 ?mo1 ?sa1 ?ga1 ?gh1 ?nn1 ?kp1 ?lf1 ?cf1 ?kf1 ?a2 ?l2 ?ha2 ?hb2 ?hc2 ?m0_2 ?m1_2 ?m2_2 ?m3_2 ?m4_2 ?m5_2 ?m6_2 ?ca2 ?in2 ?ty2 ?fi2 ?tf2 ?cl2 ?hd2 ?mo2 ?sa2 ?ga2 ?gh2 ?nn2 ?kp2 ?lf2 ?cf2 ?kf2 ?c_SIGN ?c_UNSIGNED ?c_INFINITE ?c_FRACTION ?c_LEADING ?c_ONE ?c_TWO ?c_UNIT_PLACE ?c_QUOTIENT_SHIFT ?c_ROOT_SHIFT ?c_LARGEST_SIZE ?c_LARGEST_ROUNDS ?b_len ?b_range ?b_list ?b_sorted
      (case aR => k_is); (case fR => k_is); (case lR => k_is); (case cR => k_is)
      (case kR => k_is); (case gR => k_is); (case dR => k_is); (case mR => k_is)
      (case clR => k_is); (case tR => k_is); (case a1 => k_is); (case l1 => k_is)
      (case ha1 => rfl); (case hb1 => rfl); (case hc1 => rfl); (case m0_1 => k_is)
      (case m1_1 => k_is); (case m2_1 => k_is); (case m3_1 => k_is); (case m4_1 => k_is)
      (case m5_1 => k_is); (case m6_1 => k_is); (case ca1 => k_is); (case in1 => k_is)
      (case ty1 => k_is); (case fi1 => k_is); (case tf1 => k_is); (case cl1 => k_is)
      (case hd1 => rfl); (case mo1 => rfl); (case sa1 => k_is); (case ga1 => k_is)
      (case gh1 => k_is); (case nn1 => k_is); (case kp1 => k_is); (case lf1 => k_is)
      (case cf1 => k_is); (case kf1 => k_is); (case a2 => k_is); (case l2 => k_is)
      (case ha2 => rfl); (case hb2 => rfl); (case hc2 => rfl); (case m0_2 => k_is)
      (case m1_2 => k_is); (case m2_2 => k_is); (case m3_2 => k_is); (case m4_2 => k_is)
      (case m5_2 => k_is); (case m6_2 => k_is); (case ca2 => k_is); (case in2 => k_is)
      (case ty2 => k_is); (case fi2 => k_is); (case tf2 => k_is); (case cl2 => k_is)
      (case hd2 => rfl); (case mo2 => rfl); (case sa2 => k_is); (case ga2 => k_is)
      (case gh2 => k_is); (case nn2 => k_is); (case kp2 => k_is); (case lf2 => k_is)
      (case cf2 => k_is); (case kf2 => k_is); (case c_SIGN => k_is); (case c_UNSIGNED => k_is)
      (case c_INFINITE => k_is); (case c_FRACTION => k_is); (case c_LEADING => k_is); (case c_ONE => k_is)
      (case c_TWO => k_is); (case c_UNIT_PLACE => k_is); (case c_QUOTIENT_SHIFT => k_is); (case c_ROOT_SHIFT => k_is)
      (case c_LARGEST_SIZE => k_is); (case c_LARGEST_ROUNDS => k_is); (case b_len => k_is); (case b_range => k_is)
      (case b_list => k_is); (case b_sorted => k_is)
    obtain ⟨f_size_of, fd_size_of, F_size_of, m_size_of⟩ : ∃ (f : Addr) (fd : FuncData), L2.Fun _ "size_of" "size_of" Bm.s_size_of f fd ∧ mg "size_of" = some (.ref f) := by
      refine' Bm.fun_at KX G ?a ?l ?c ?k
      (case a => k_is); (case l => k_is); (case c => k_is); (case k => k_is)
    have b_size_of := F_size_of.binds (ps := ["x"]) fun _ _ _ _ _ _ us hl => match us, hl with | [_], _ => rfl
    obtain ⟨f_is_finite, fd_is_finite, F_is_finite, m_is_finite⟩ : ∃ (f : Addr) (fd : FuncData), L2.Fun _ "is_finite" "is_finite" Bm.s_is_finite f fd ∧ mg "is_finite" = some (.ref f) := by
      refine' Bm.fun_at KX G ?a ?l ?c ?k
      (case a => k_is); (case l => k_is); (case c => k_is); (case k => k_is)
    have b_is_finite := F_is_finite.binds (ps := ["x"]) fun _ _ _ _ _ _ us hl => match us, hl with | [_], _ => rfl
    obtain ⟨f_whole_of, fd_whole_of, F_whole_of, m_whole_of⟩ : ∃ (f : Addr) (fd : FuncData), L2.Fun _ "whole_of" "whole_of" Bm.s_whole_of f fd ∧ mg "whole_of" = some (.ref f) := by
      refine' Bm.fun_at KX G ?a ?l ?c ?k
      (case a => k_is); (case l => k_is); (case c => k_is); (case k => k_is)
    have b_whole_of := F_whole_of.binds (ps := ["x"]) fun _ _ _ _ _ _ us hl => match us, hl with | [_], _ => rfl
    obtain ⟨f_place_of, fd_place_of, F_place_of, m_place_of⟩ : ∃ (f : Addr) (fd : FuncData), L2.Fun _ "place_of" "place_of" Bm.s_place_of f fd ∧ mg "place_of" = some (.ref f) := by
      refine' Bm.fun_at KX G ?a ?l ?c ?k
      (case a => k_is); (case l => k_is); (case c => k_is); (case k => k_is)
    have b_place_of := F_place_of.binds (ps := ["x"]) fun _ _ _ _ _ _ us hl => match us, hl with | [_], _ => rfl
    obtain ⟨f_rounded, fd_rounded, F_rounded, m_rounded⟩ : ∃ (f : Addr) (fd : FuncData), L2.Fun _ "rounded" "rounded" Bm.s_rounded f fd ∧ mg "rounded" = some (.ref f) := by
      refine' Bm.fun_at KX G ?a ?l ?c ?k
      (case a => k_is); (case l => k_is); (case c => k_is); (case k => k_is)
    have b_rounded := F_rounded.binds (ps := ["whole", "place"]) fun _ _ _ _ _ _ us hl => match us, hl with | [_, _], _ => rfl
    obtain ⟨f_add, fd_add, F_add, m_add⟩ : ∃ (f : Addr) (fd : FuncData), L2.Fun _ "add" "add" Bm.s_add f fd ∧ mg "add" = some (.ref f) := by
      refine' Bm.fun_at KX G ?a ?l ?c ?k
      (case a => k_is); (case l => k_is); (case c => k_is); (case k => k_is)
    have b_add := F_add.binds (ps := ["x", "y"]) fun _ _ _ _ _ _ us hl => match us, hl with | [_, _], _ => rfl
    obtain ⟨f_subtract, fd_subtract, F_subtract, m_subtract⟩ : ∃ (f : Addr) (fd : FuncData), L2.Fun _ "subtract" "subtract" Bm.s_subtract f fd ∧ mg "subtract" = some (.ref f) := by
      refine' Bm.fun_at KX G ?a ?l ?c ?k
      (case a => k_is); (case l => k_is); (case c => k_is); (case k => k_is)
    have b_subtract := F_subtract.binds (ps := ["x", "y"]) fun _ _ _ _ _ _ us hl => match us, hl with | [_, _], _ => rfl
    obtain ⟨f_multiply, fd_multiply, F_multiply, m_multiply⟩ : ∃ (f : Addr) (fd : FuncData), L2.Fun _ "multiply" "multiply" Bm.s_multiply f fd ∧ mg "multiply" = some (.ref f) := by
      refine' Bm.fun_at KX G ?a ?l ?c ?k
      (case a => k_is); (case l => k_is); (case c => k_is); (case k => k_is)
    have b_multiply := F_multiply.binds (ps := ["x", "y"]) fun _ _ _ _ _ _ us hl => match us, hl with | [_, _], _ => rfl
    obtain ⟨f_divide, fd_divide, F_divide, m_divide⟩ : ∃ (f : Addr) (fd : FuncData), L2.Fun _ "divide" "divide" Bm.s_divide f fd ∧ mg "divide" = some (.ref f) := by
      refine' Bm.fun_at KX G ?a ?l ?c ?k
      (case a => k_is); (case l => k_is); (case c => k_is); (case k => k_is)
    have b_divide := F_divide.binds (ps := ["x", "y"]) fun _ _ _ _ _ _ us hl => match us, hl with | [_, _], _ => rfl
    obtain ⟨f_whole_root, fd_whole_root, F_whole_root, m_whole_root⟩ : ∃ (f : Addr) (fd : FuncData), L2.Fun _ "whole_root" "whole_root" Bm.s_whole_root f fd ∧ mg "whole_root" = some (.ref f) := by
      refine' Bm.fun_at KX G ?a ?l ?c ?k
      (case a => k_is); (case l => k_is); (case c => k_is); (case k => k_is)
    have b_whole_root := F_whole_root.binds (ps := ["number"]) fun _ _ _ _ _ _ us hl => match us, hl with | [_], _ => rfl
    obtain ⟨f_root, fd_root, F_root, m_root⟩ : ∃ (f : Addr) (fd : FuncData), L2.Fun _ "root" "root" Bm.s_root f fd ∧ mg "root" = some (.ref f) := by
      refine' Bm.fun_at KX G ?a ?l ?c ?k
      (case a => k_is); (case l => k_is); (case c => k_is); (case k => k_is)
    have b_root := F_root.binds (ps := ["x"]) fun _ _ _ _ _ _ us hl => match us, hl with | [_], _ => rfl
    obtain ⟨f_rows_of, fd_rows_of, F_rows_of, m_rows_of⟩ : ∃ (f : Addr) (fd : FuncData), L2.Fun _ "rows_of" "rows_of" Bm.s_rows_of f fd ∧ mg "rows_of" = some (.ref f) := by
      refine' Bm.fun_at KX G ?a ?l ?c ?k
      (case a => k_is); (case l => k_is); (case c => k_is); (case k => k_is)
    have b_rows_of := F_rows_of.binds (ps := ["numbers", "width"]) fun _ _ _ _ _ _ us hl => match us, hl with | [_, _], _ => rfl
    obtain ⟨f_columns_of, fd_columns_of, F_columns_of, m_columns_of⟩ : ∃ (f : Addr) (fd : FuncData), L2.Fun _ "columns_of" "columns_of" Bm.s_columns_of f fd ∧ mg "columns_of" = some (.ref f) := by
      refine' Bm.fun_at KX G ?a ?l ?c ?k
      (case a => k_is); (case l => k_is); (case c => k_is); (case k => k_is)
    have b_columns_of := F_columns_of.binds (ps := ["numbers", "width"]) fun _ _ _ _ _ _ us hl => match us, hl with | [_, _], _ => rfl
    obtain ⟨f_zero_rows, fd_zero_rows, F_zero_rows, m_zero_rows⟩ : ∃ (f : Addr) (fd : FuncData), L2.Fun _ "zero_rows" "zero_rows" Bm.s_zero_rows f fd ∧ mg "zero_rows" = some (.ref f) := by
      refine' Bm.fun_at KX G ?a ?l ?c ?k
      (case a => k_is); (case l => k_is); (case c => k_is); (case k => k_is)
    have b_zero_rows := F_zero_rows.binds (ps := ["n"]) fun _ _ _ _ _ _ us hl => match us, hl with | [_], _ => rfl
    obtain ⟨f_unit_rows, fd_unit_rows, F_unit_rows, m_unit_rows⟩ : ∃ (f : Addr) (fd : FuncData), L2.Fun _ "unit_rows" "unit_rows" Bm.s_unit_rows f fd ∧ mg "unit_rows" = some (.ref f) := by
      refine' Bm.fun_at KX G ?a ?l ?c ?k
      (case a => k_is); (case l => k_is); (case c => k_is); (case k => k_is)
    have b_unit_rows := F_unit_rows.binds (ps := ["n"]) fun _ _ _ _ _ _ us hl => match us, hl with | [_], _ => rfl
    obtain ⟨f_joined, fd_joined, F_joined, m_joined⟩ : ∃ (f : Addr) (fd : FuncData), L2.Fun _ "joined" "joined" Bm.s_joined f fd ∧ mg "joined" = some (.ref f) := by
      refine' Bm.fun_at KX G ?a ?l ?c ?k
      (case a => k_is); (case l => k_is); (case c => k_is); (case k => k_is)
    have b_joined := F_joined.binds (ps := ["rows"]) fun _ _ _ _ _ _ us hl => match us, hl with | [_], _ => rfl
    obtain ⟨f_turned_about, fd_turned_about, F_turned_about, m_turned_about⟩ : ∃ (f : Addr) (fd : FuncData), L2.Fun _ "turned_about" "turned_about" Bm.s_turned_about f fd ∧ mg "turned_about" = some (.ref f) := by
      refine' Bm.fun_at KX G ?a ?l ?c ?k
      (case a => k_is); (case l => k_is); (case c => k_is); (case k => k_is)
    have b_turned_about := F_turned_about.binds (ps := ["rows"]) fun _ _ _ _ _ _ us hl => match us, hl with | [_], _ => rfl
    obtain ⟨f_tangent, fd_tangent, F_tangent, m_tangent⟩ : ∃ (f : Addr) (fd : FuncData), L2.Fun _ "tangent" "tangent" Bm.s_tangent f fd ∧ mg "tangent" = some (.ref f) := by
      refine' Bm.fun_at KX G ?a ?l ?c ?k
      (case a => k_is); (case l => k_is); (case c => k_is); (case k => k_is)
    have b_tangent := F_tangent.binds (ps := ["rows", "p", "q"]) fun _ _ _ _ _ _ us hl => match us, hl with | [_, _, _], _ => rfl
    obtain ⟨f_cosine, fd_cosine, F_cosine, m_cosine⟩ : ∃ (f : Addr) (fd : FuncData), L2.Fun _ "cosine" "cosine" Bm.s_cosine f fd ∧ mg "cosine" = some (.ref f) := by
      refine' Bm.fun_at KX G ?a ?l ?c ?k
      (case a => k_is); (case l => k_is); (case c => k_is); (case k => k_is)
    have b_cosine := F_cosine.binds (ps := ["u"]) fun _ _ _ _ _ _ us hl => match us, hl with | [_], _ => rfl
    obtain ⟨f_first_turned, fd_first_turned, F_first_turned, m_first_turned⟩ : ∃ (f : Addr) (fd : FuncData), L2.Fun _ "first_turned" "first_turned" Bm.s_first_turned f fd ∧ mg "first_turned" = some (.ref f) := by
      refine' Bm.fun_at KX G ?a ?l ?c ?k
      (case a => k_is); (case l => k_is); (case c => k_is); (case k => k_is)
    have b_first_turned := F_first_turned.binds (ps := ["x", "y", "c", "s"]) fun _ _ _ _ _ _ us hl => match us, hl with | [_, _, _, _], _ => rfl
    obtain ⟨f_second_turned, fd_second_turned, F_second_turned, m_second_turned⟩ : ∃ (f : Addr) (fd : FuncData), L2.Fun _ "second_turned" "second_turned" Bm.s_second_turned f fd ∧ mg "second_turned" = some (.ref f) := by
      refine' Bm.fun_at KX G ?a ?l ?c ?k
      (case a => k_is); (case l => k_is); (case c => k_is); (case k => k_is)
    have b_second_turned := F_second_turned.binds (ps := ["x", "y", "c", "s"]) fun _ _ _ _ _ _ us hl => match us, hl with | [_, _, _, _], _ => rfl
    obtain ⟨f_turn_columns, fd_turn_columns, F_turn_columns, m_turn_columns⟩ : ∃ (f : Addr) (fd : FuncData), L2.Fun _ "turn_columns" "turn_columns" Bm.s_turn_columns f fd ∧ mg "turn_columns" = some (.ref f) := by
      refine' Bm.fun_at KX G ?a ?l ?c ?k
      (case a => k_is); (case l => k_is); (case c => k_is); (case k => k_is)
    have b_turn_columns := F_turn_columns.binds (ps := ["rows", "p", "q", "c", "s"]) fun _ _ _ _ _ _ us hl => match us, hl with | [_, _, _, _, _], _ => rfl
    obtain ⟨f_turn_rows, fd_turn_rows, F_turn_rows, m_turn_rows⟩ : ∃ (f : Addr) (fd : FuncData), L2.Fun _ "turn_rows" "turn_rows" Bm.s_turn_rows f fd ∧ mg "turn_rows" = some (.ref f) := by
      refine' Bm.fun_at KX G ?a ?l ?c ?k
      (case a => k_is); (case l => k_is); (case c => k_is); (case k => k_is)
    have b_turn_rows := F_turn_rows.binds (ps := ["rows", "p", "q", "c", "s"]) fun _ _ _ _ _ _ us hl => match us, hl with | [_, _, _, _, _], _ => rfl
    obtain ⟨f_turn, fd_turn, F_turn, m_turn⟩ : ∃ (f : Addr) (fd : FuncData), L2.Fun _ "turn" "turn" Bm.s_turn f fd ∧ mg "turn" = some (.ref f) := by
      refine' Bm.fun_at KX G ?a ?l ?c ?k
      (case a => k_is); (case l => k_is); (case c => k_is); (case k => k_is)
    have b_turn := F_turn.binds (ps := ["rows", "vectors", "p", "q"]) fun _ _ _ _ _ _ us hl => match us, hl with | [_, _, _, _], _ => rfl
    obtain ⟨f_turn_all, fd_turn_all, F_turn_all, m_turn_all⟩ : ∃ (f : Addr) (fd : FuncData), L2.Fun _ "turn_all" "turn_all" Bm.s_turn_all f fd ∧ mg "turn_all" = some (.ref f) := by
      refine' Bm.fun_at KX G ?a ?l ?c ?k
      (case a => k_is); (case l => k_is); (case c => k_is); (case k => k_is)
    have b_turn_all := F_turn_all.binds (ps := ["rows", "rounds"]) fun _ _ _ _ _ _ us hl => match us, hl with | [_, _], _ => rfl
    obtain ⟨f_check_size, fd_check_size, tk_check_size, F_check_size, m_check_size⟩ : ∃ (f : Addr) (fd : FuncData) (t : Tok), Bm.FunD _ "check_size" "check_size" Bm.s_check_size f fd t ∧ mg "check_size" = some (.ref f) := by
      refine' Bm.fund_at KX G ?a ?l ?c ?k ?l2
      (case a => k_is); (case l => k_is); (case c => k_is); (case k => k_is); (case l2 => k_is)
    obtain ⟨f_check_rounds, fd_check_rounds, F_check_rounds, m_check_rounds⟩ : ∃ (f : Addr) (fd : FuncData), L2.Fun _ "check_rounds" "check_rounds" Bm.s_check_rounds f fd ∧ mg "check_rounds" = some (.ref f) := by
      refine' Bm.fun_at KX G ?a ?l ?c ?k
      (case a => k_is); (case l => k_is); (case c => k_is); (case k => k_is)
    have b_check_rounds := F_check_rounds.binds (ps := ["rounds"]) fun _ _ _ _ _ _ us hl => match us, hl with | [_], _ => rfl
    obtain ⟨f_check_finite, fd_check_finite, F_check_finite, m_check_finite⟩ : ∃ (f : Addr) (fd : FuncData), L2.Fun _ "check_finite" "check_finite" Bm.s_check_finite f fd ∧ mg "check_finite" = some (.ref f) := by
      refine' Bm.fun_at KX G ?a ?l ?c ?k
      (case a => k_is); (case l => k_is); (case c => k_is); (case k => k_is)
    have b_check_finite := F_check_finite.binds (ps := ["numbers"]) fun _ _ _ _ _ _ us hl => match us, hl with | [_], _ => rfl
    obtain ⟨f_check_same_turned_about, fd_check_same_turned_about, F_check_same_turned_about, m_check_same_turned_about⟩ : ∃ (f : Addr) (fd : FuncData), L2.Fun _ "check_same_turned_about" "check_same_turned_about" Bm.s_check_same_turned_about f fd ∧ mg "check_same_turned_about" = some (.ref f) := by
      refine' Bm.fun_at KX G ?a ?l ?c ?k
      (case a => k_is); (case l => k_is); (case c => k_is); (case k => k_is)
    have b_check_same_turned_about := F_check_same_turned_about.binds (ps := ["rows"]) fun _ _ _ _ _ _ us hl => match us, hl with | [_], _ => rfl
    obtain ⟨f_jacobi, fd_jacobi, F_jacobi, m_jacobi⟩ : ∃ (f : Addr) (fd : FuncData), L2.Fun _ "jacobi" "jacobi" Bm.s_jacobi f fd ∧ mg "jacobi" = some (.ref f) := by
      refine' Bm.fun_at KX G ?a ?l ?c ?k
      (case a => k_is); (case l => k_is); (case c => k_is); (case k => k_is)
    have b_jacobi := F_jacobi.binds (ps := ["n", "rounds", "a"]) fun _ _ _ _ _ _ us hl => match us, hl with | [_, _, _], _ => rfl
    have e0 := hmg.symm.trans m_jacobi
    cases e0
    refine ⟨fd_jacobi, Bm.bindsA F_jacobi (fun _ _ _ _ _ _ us hl => match us, hl with | [_, _, _], _ => rfl), fun base kb nb => ?_⟩
    have T := hT PySem.Challenge.rw_bitmatrix_s09_jacobi.prog w base
    have G_size_of := Bm.Df.of F_size_of m_size_of b_size_of (Bm.ok_size_of F_size_of T )
    have G_is_finite := Bm.Df.of F_is_finite m_is_finite b_is_finite (Bm.ok_is_finite F_is_finite T )
    have G_whole_of := Bm.Df.of F_whole_of m_whole_of b_whole_of (Bm.ok_whole_of F_whole_of T )
    have G_place_of := Bm.Df.of F_place_of m_place_of b_place_of (Bm.ok_place_of F_place_of T )
    have G_rounded := Bm.Df.of F_rounded m_rounded b_rounded (Bm.ok_rounded F_rounded T )
    have G_add := Bm.Df.of F_add m_add b_add (Bm.ok_add F_add T G_whole_of G_place_of G_rounded)
    have G_subtract := Bm.Df.of F_subtract m_subtract b_subtract (Bm.ok_subtract F_subtract T G_add)
    have G_multiply := Bm.Df.of F_multiply m_multiply b_multiply (Bm.ok_multiply F_multiply T G_whole_of G_place_of G_rounded)
    have G_divide := Bm.Df.of F_divide m_divide b_divide (Bm.ok_divide F_divide T G_whole_of G_place_of G_rounded)
    have G_whole_root := Bm.Df.of F_whole_root m_whole_root b_whole_root (Bm.ok_whole_root F_whole_root T )
    have G_root := Bm.Df.of F_root m_root b_root (Bm.ok_root F_root T G_size_of G_whole_of G_place_of G_rounded G_whole_root)
    have G_rows_of := Bm.Df.of F_rows_of m_rows_of b_rows_of (Bm.ok_rows_of F_rows_of T )
    have G_columns_of := Bm.Df.of F_columns_of m_columns_of b_columns_of (Bm.ok_columns_of F_columns_of T )
    have G_zero_rows := Bm.Df.of F_zero_rows m_zero_rows b_zero_rows (Bm.ok_zero_rows F_zero_rows T )
    have G_unit_rows := Bm.Df.of F_unit_rows m_unit_rows b_unit_rows (Bm.ok_unit_rows F_unit_rows T G_zero_rows)
    have G_joined := Bm.Df.of F_joined m_joined b_joined (Bm.ok_joined F_joined T )
    have G_turned_about := Bm.Df.of F_turned_about m_turned_about b_turned_about (Bm.ok_turned_about F_turned_about T G_columns_of G_joined)
    have G_tangent := Bm.Df.of F_tangent m_tangent b_tangent (Bm.ok_tangent F_tangent T G_size_of G_add G_subtract G_multiply G_divide G_root)
    have G_cosine := Bm.Df.of F_cosine m_cosine b_cosine (Bm.ok_cosine F_cosine T G_add G_multiply G_divide G_root)
    have G_first_turned := Bm.Df.of F_first_turned m_first_turned b_first_turned (Bm.ok_first_turned F_first_turned T G_subtract G_multiply)
    have G_second_turned := Bm.Df.of F_second_turned m_second_turned b_second_turned (Bm.ok_second_turned F_second_turned T G_add G_multiply)
    have G_turn_columns := Bm.Df.of F_turn_columns m_turn_columns b_turn_columns (Bm.ok_turn_columns F_turn_columns T G_first_turned G_second_turned)
    have G_turn_rows := Bm.Df.of F_turn_rows m_turn_rows b_turn_rows (Bm.ok_turn_rows F_turn_rows T G_first_turned G_second_turned)
    have G_turn := Bm.Df.of F_turn m_turn b_turn (Bm.ok_turn F_turn T G_multiply G_tangent G_cosine G_turn_columns G_turn_rows)
    have G_turn_all := Bm.Df.of F_turn_all m_turn_all b_turn_all (Bm.ok_turn_all F_turn_all T G_size_of G_unit_rows G_turn)
    have O_check_size := Bm.ok_check_size F_check_size T 
    have G_check_size : Bm.Df _ w _ mg base _ _ "check_size" [] _ := ⟨_, _, _, [], m_check_size, F_check_size.kp, (Bm.bd_check_size F_check_size).1, .nil, O_check_size⟩
    have G_check_size_d : Bm.Df _ w _ mg base _ _ "check_size" [.int 1] _ := ⟨_, _, _, [.int 1 tk_check_size], m_check_size, F_check_size.kp, (Bm.bd_check_size F_check_size).2, .cons ⟨_, rfl⟩ .nil, O_check_size⟩
    have G_check_rounds := Bm.Df.of F_check_rounds m_check_rounds b_check_rounds (Bm.ok_check_rounds F_check_rounds T )
    have G_check_finite := Bm.Df.of F_check_finite m_check_finite b_check_finite (Bm.ok_check_finite F_check_finite T G_is_finite)
    have G_check_same_turned_about := Bm.Df.of F_check_same_turned_about m_check_same_turned_about b_check_same_turned_about (Bm.ok_check_same_turned_about F_check_same_turned_about T G_turned_about)
    exact Bm.ok_jacobi F_jacobi T hR G_rows_of G_joined G_turned_about G_turn_all G_check_size_d G_check_rounds G_check_finite G_check_same_turned_about
#print axioms PySem.Challenge.cw_bitmatrix_s09_jacobi_holds
